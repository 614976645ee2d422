/- Own lemmas. -/
import Derived.Test.YtjifdmoehfbihaaGreatDoorAuj
import Derived.Test.YtjifdmoehfbihaaGreatDoorJ17
set_option maxRecDepth 100000
namespace Go.Proofs.YtjifdmoehfbihaaGreatDoor
open Go.RowKit Tryz
set_option linter.unusedVariables false
theorem uC (a:Option Addr) (n cap:Nat) (l:List Int) (p:Int) (w:World) (hz:l.length=n) (hs:Sl .u64 w a l) (hl:∀ j,U (l.getD j 0)):CB 95 #[.slice a n cap,.i p] w (.i (vf n l p)):=by
 have k:∀ W,Bw w W->CB 68 #[.slice a n cap,.i p] W (.bool (bj n l p)):=λW B=>fA a n cap l p W hz (hs.below B) hl
 refine bD (S:=Bs w []) (args:=[.slice a n cap,.i p]) [] func95 ?_
 cases c:bj n l p with
 | false =>
   rw [c] at k
   exact bm (t:=4) (v:=.i (-1)) Bs.eng {cv:=[(12,fY k)]} 40 (Bs.start _ _) (λf h=>⟨by simp [vf,c],h.2⟩)
 | true =>
   rw [c] at k
   obtain ⟨rfl,o⟩:=gJ c
   obtain ⟨V,g⟩:∃ V,V=vf 22 l p:=⟨_,rfl⟩
   rw [<- g]
   have F:vf 22 l p=Hp l p:=by rw [Qj l p o (hl 0)];simp [vf,c]
   rw [F] at g
   unfold Hp ku at g
   obtain ⟨b,d,rfl,i,C⟩:=hs 0 ab
   have m:∀ j,j<22->∀ W,Bs w [] W->W.cell? ⟨b,d+j,none⟩=some (.u (l.getD j 0)):=λj E W h=>(h.2.cell (by exact i)).trans (zm hs j ab).2
   have q:=λx (D:U x) W (_:Bw w W)=>DC x D W
   have r:∀ W,Bw w W->CB 146 #[.agg (cN true),.u (l.getD 0 0),.i p] W (.bool (wK l p)):=λW _=>QS _ p (hl 0) W
   have s:∀ W,Bw w W->CB 146 #[.agg (cN false),.u (l.getD 0 0),.i p] W (.bool (wM l p)):=λW _=>QT _ p (hl 0) W
   cases u:decide (dA (bits .andNot .u64 (bits .and .u64 (l.getD 9 0) (l.getD 3 0)) (l.getD 2 0))>=0)<;>cases y:decide (dA (bits .and .u64 (bits .and .u64 (l.getD 9 0) (l.getD 3 0)) (l.getD 2 0))>=0)<;>cases z:wK l p<;>cases A:wM l p<;>(
    rw [z] at r
    rw [A] at s
    rw [u,y,z,A] at g
    exact bm (t:=4) (v:=.i V) Bs.eng {eq:=[(32,ak u),(45,ak y)],ov:=[(16,je ⟨b,d+9,none⟩ _ underlying22 rfl (m 9 ab)),(19,je ⟨b,d+3,none⟩ _ underlying22 rfl (m 3 ab)),(23,je ⟨b,d+0,none⟩ _ underlying22 rfl (m 0 ab)),(26,je ⟨b,d+2,none⟩ _ underlying22 rfl (m 2 ab))],cv:=[(12,fY k),(30,fY (q (bits .andNot .u64 (bits .and .u64 (l.getD 9 0) (l.getD 3 0)) (l.getD 2 0)) (ah _ _ _))),(34,fY λW _=>kR W),(37,fY r),(43,fY (q (bits .and .u64 (bits .and .u64 (l.getD 9 0) (l.getD 3 0)) (l.getD 2 0)) (ah _ _ _))),(47,fY λW _=>jn W),(50,fY s)]} 120 (Bs.start _ _) (hv:=by subst g;kernel_rfl) (he:=by subst g;kernel_rfl) (λf h=>⟨rfl,h.2⟩))
end Go.Proofs.YtjifdmoehfbihaaGreatDoor
