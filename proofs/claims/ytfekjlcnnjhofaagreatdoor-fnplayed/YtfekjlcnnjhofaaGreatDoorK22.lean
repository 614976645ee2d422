/- Own lemmas. -/
import Derived.Test.YtfekjlcnnjhofaaGreatDoorAut
import Derived.Test.YtfekjlcnnjhofaaGreatDoorK17
set_option maxRecDepth 100000
namespace Go.Proofs.YtfekjlcnnjhofaaGreatDoor
open Go.RowKit Tryz
set_option linter.unusedVariables false
theorem uw (a:Option Addr) (n cap:Nat) (l:List Int) (p:Int) (w:World) (hz:l.length=n) (hs:Sl .u64 w a l) (hl:∀ j,U (l.getD j 0)):CB 133 #[.slice a n cap,.i p] w (.i (uW n l p)):=by
 have k:∀ W,Bw w W->CB 33 #[.slice a n cap,.i p] W (.bool (bm n l p)):=λW B=>fF a n cap l p W hz (hs.below B) hl
 refine br (S:=Bs w []) (args:=[.slice a n cap,.i p]) [] func133 ?_
 cases c:bm n l p with
 | false =>
   rw [c] at k
   exact bn (t:=4) (v:=.i (-1)) Bs.eng {cv:=[(12,fM k)]} 40 (Bs.start _ _) (λf h=>⟨by simp [uW,c],h.2⟩)
 | true =>
   rw [c] at k
   obtain ⟨rfl,o⟩:=gH c
   obtain ⟨V,g⟩:∃ V,V=uW 22 l p:=⟨_,rfl⟩
   rw [<- g]
   have F:uW 22 l p=Hu l p:=by rw [PV l p o (hl 0)];simp [uW,c]
   rw [F] at g
   unfold Hu kv at g
   obtain ⟨b,d,rfl,i,C⟩:=hs 0 ab
   have m:∀ j,j<22->∀ W,Bs w [] W->W.cell? ⟨b,d+j,none⟩=some (.u (l.getD j 0)):=λj E W h=>(h.2.cell (by exact i)).trans (za hs j ab).2
   have q:=λx (D:U x) W (_:Bw w W)=>Dy x D W
   have r:∀ W,Bw w W->CB 148 #[.agg (cF true),.u (l.getD 0 0),.i p] W (.bool (wk l p)):=λW _=>Qw _ p (hl 0) W
   have s:∀ W,Bw w W->CB 148 #[.agg (cF false),.u (l.getD 0 0),.i p] W (.bool (wm l p)):=λW _=>Qx _ p (hl 0) W
   cases u:decide (dh (bits .andNot .u64 (bits .and .u64 (l.getD 9 0) (l.getD 3 0)) (l.getD 2 0))>=0)<;>cases y:decide (dh (bits .and .u64 (bits .and .u64 (l.getD 9 0) (l.getD 3 0)) (l.getD 2 0))>=0)<;>cases z:wk l p<;>cases A:wm l p<;>(
    rw [z] at r
    rw [A] at s
    rw [u,y,z,A] at g
    exact bn (t:=4) (v:=.i V) Bs.eng {eq:=[(32,an u),(45,an y)],ov:=[(16,iP ⟨b,d+9,none⟩ _ underlying24 rfl (m 9 ab)),(19,iP ⟨b,d+3,none⟩ _ underlying24 rfl (m 3 ab)),(23,iP ⟨b,d+0,none⟩ _ underlying24 rfl (m 0 ab)),(26,iP ⟨b,d+2,none⟩ _ underlying24 rfl (m 2 ab))],cv:=[(12,fM k),(30,fM (q (bits .andNot .u64 (bits .and .u64 (l.getD 9 0) (l.getD 3 0)) (l.getD 2 0)) (ah _ _ _))),(34,fM λW _=>kT W),(37,fM r),(43,fM (q (bits .and .u64 (bits .and .u64 (l.getD 9 0) (l.getD 3 0)) (l.getD 2 0)) (ah _ _ _))),(47,fM λW _=>js W),(50,fM s)]} 120 (Bs.start _ _) (hv:=by subst g;kernel_rfl) (he:=by subst g;kernel_rfl) (λf h=>⟨rfl,h.2⟩))
