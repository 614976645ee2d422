/- Own lemmas. -/
import Derived.Test.YtfagphfjfhpmjaaGreatDoorAut
import Derived.Test.YtfagphfjfhpmjaaGreatDoorK17
set_option maxRecDepth 100000
namespace Go.Proofs.YtfagphfjfhpmjaaGreatDoor
open Go.RowKit Tryz
set_option linter.unusedVariables false
theorem ut (a:Option Addr) (n cap:Nat) (l:List Int) (p:Int) (w:World) (hz:l.length=n) (hs:Sl .u64 w a l) (hl:∀ j,U (l.getD j 0)):CB 111 #[.slice a n cap,.i p] w (.i (uY n l p)):=by
 have k:∀ W,Bw w W->CB 78 #[.slice a n cap,.i p] W (.bool (bn n l p)):=λW B=>fx a n cap l p W hz (hs.below B) hl
 refine bC (S:=Bs w []) (args:=[.slice a n cap,.i p]) [] func111 ?_
 cases c:bn n l p with
 | false =>
   rw [c] at k
   exact bm (t:=4) (v:=.i (-1)) Bs.eng {cv:=[(12,fQ k)]} 40 (Bs.start _ _) (λf h=>⟨by simp [uY,c],h.2⟩)
 | true =>
   rw [c] at k
   obtain ⟨rfl,o⟩:=gF c
   obtain ⟨V,g⟩:∃ V,V=uY 22 l p:=⟨_,rfl⟩
   rw [<- g]
   have F:uY 22 l p=G9 l p:=by rw [Py l p o (hl 0)];simp [uY,c]
   rw [F] at g
   unfold G9 kq at g
   obtain ⟨b,d,rfl,i,C⟩:=hs 0 ab
   have m:∀ j,j<22->∀ W,Bs w [] W->W.cell? ⟨b,d+j,none⟩=some (.u (l.getD j 0)):=λj E W h=>(h.2.cell (by exact i)).trans (za hs j ab).2
   have q:=λx (D:U x) W (_:Bw w W)=>Dq x D W
   have r:∀ W,Bw w W->CB 163 #[.agg (cJ true),.u (l.getD 0 0),.i p] W (.bool (wu l p)):=λW _=>Qj _ p (hl 0) W
   have s:∀ W,Bw w W->CB 163 #[.agg (cJ false),.u (l.getD 0 0),.i p] W (.bool (wv l p)):=λW _=>Qk _ p (hl 0) W
   cases u:decide (dt (bits .andNot .u64 (bits .and .u64 (l.getD 9 0) (l.getD 3 0)) (l.getD 2 0))>=0)<;>cases y:decide (dt (bits .and .u64 (bits .and .u64 (l.getD 9 0) (l.getD 3 0)) (l.getD 2 0))>=0)<;>cases z:wu l p<;>cases A:wv l p<;>(
    rw [z] at r
    rw [A] at s
    rw [u,y,z,A] at g
    exact bm (t:=4) (v:=.i V) Bs.eng {eq:=[(32,ak u),(45,ak y)],ov:=[(16,iL ⟨b,d+9,none⟩ _ underlying22 rfl (m 9 ab)),(19,iL ⟨b,d+3,none⟩ _ underlying22 rfl (m 3 ab)),(23,iL ⟨b,d+0,none⟩ _ underlying22 rfl (m 0 ab)),(26,iL ⟨b,d+2,none⟩ _ underlying22 rfl (m 2 ab))],cv:=[(12,fQ k),(30,fQ (q (bits .andNot .u64 (bits .and .u64 (l.getD 9 0) (l.getD 3 0)) (l.getD 2 0)) (ah _ _ _))),(34,fQ λW _=>kO W),(37,fQ r),(43,fQ (q (bits .and .u64 (bits .and .u64 (l.getD 9 0) (l.getD 3 0)) (l.getD 2 0)) (ah _ _ _))),(47,fQ λW _=>je W),(50,fQ s)]} 120 (Bs.start _ _) (hv:=by subst g;kernel_rfl) (he:=by subst g;kernel_rfl) (λf h=>⟨rfl,h.2⟩))
end Go.Proofs.YtfagphfjfhpmjaaGreatDoor
