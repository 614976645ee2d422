/- Own lemmas. -/
import Derived.Test.YtjifdmoehfbihaaGreatDoorAut
import Derived.Test.YtjifdmoehfbihaaGreatDoorK42
import Derived.Test.YtjifdmoehfbihaaGreatDoorK47
set_option maxRecDepth 100000
namespace Go.Proofs.YtjifdmoehfbihaaGreatDoor
open Go.RowKit Tryz
set_option linter.unusedVariables false
theorem oF {k:IntKind} {w W:World} {p:Option Addr} {zs:List Int} (h:Sl k w p zs) (hb:∀ b d,p=some ⟨b,d,none⟩->W.heap[b]?=w.heap[b]?) (c:w.heap.size<=W.heap.size):Sl k W p zs:=λj g=>by obtain ⟨b,o,e,a,f⟩:=h j g;refine ⟨b,o,e,Nat.lt_of_lt_of_le a c,?_⟩;simp only [World.cell?] at f ⊢;rw [hb b o e];exact f
theorem yt {B:Nat} {w W:World} {M:MV} {A:MA} (h:sa w M A) (hn:wi B A) (hk:∀ k,B<=k->W.heap[k]?=w.heap[k]?) (c:w.heap.size<=W.heap.size):sa W M A :=
 ⟨oF h.x (λb a e=>hk b (hn _ (.inl rfl) b a e)) c,oF h.cs (λb a e=>hk b (hn _ (.inr (.inl rfl)) b a e)) c,oF h.ram (λb a e=>hk b (hn _ (.inr (.inr (.inl rfl))) b a e)) c,oF h.xs (λb a e=>hk b (hn _ (.inr (.inr (.inr (.inl rfl)))) b a e)) c,oF h.ys (λb a e=>hk b (hn _ (.inr (.inr (.inr (.inr rfl)))) b a e)) c⟩
def UY (w:World) (e:Ending) (w':World):Prop:=∃ (M:MV) (A:MA),e=.returned (.agg (aq M A))/\Ma M/\sa w' M A/\wi w.heap.size A/\Bw w w'
theorem tF {a:Option Addr} {n:Nat} (cap:Nat) {zs:List Int} (w:World) (d:Code w a n zs):Calls prog 65 #[.slice a n cap] w (UY w):=by
 refine bz (S:=λ_=>True) (args:=[.slice a n cap]) [(aq zeroM zeroA,32)] func65 ?_;have h:Bw w (bM w [(aq zeroM zeroA,32)]):=bal _ _;have y:(bM w [(aq zeroM zeroA,32)]).heap.size=w.heap.size+1:=by simp [bM]
 have m:=(Bs.start w [(aq zeroM zeroA,32)]).1 0 _ rfl;generalize bM w [(aq zeroM zeroA,32)]=v at *;have i:Code v a n zs:=⟨d.len,d.few,d.sl.below h,d.bd⟩;refine aS (R:=[]) trivial {} 40 (PC cap v i) ?_;rintro e x ⟨g,rfl,c⟩;refine ⟨_,0,rfl,?_⟩;have o:lL w x g a n cap:=⟨by have:=c.out.new;omega,h.trans (c.out.below.mono ab),c.out.row⟩;refine aS (R:=[]) trivial {} 40 (CH d x o) ?_;rintro e D ⟨M,A,rfl,q,r,_,f,j⟩;refine ⟨_,0,rfl,?_⟩;have z:=c.out.new;have C:=c.out.below.size;have l:D.heap[w.heap.size]?=some (.cells (aq zeroM zeroA) 32 (0,0)):=j.out.keep (by rw [c.out.below.block _ ab];exact m) ab;refine cw (R:=[]) trivial {} 40 (aG (g:=w.heap.size) (t:=32) (ty:=32) (cells:=aq M A) l al rfl (eX M A)) ?_;refine fP (R:=[]) trivial {} 40 λb u=>⟨_,results_cell_row rfl b.tmps _ w.heap.size 32 (aq M A) (0,0) _ (u.slot al) (setRow_heap _ _ _ _ _ _ l) underlying32 rfl al,M,A,rfl,q.out,?_,λp B b s e=>by have:=f.out p B b s e;omega,bm j.out.1.below (Nat.le_refl _) _⟩;exact yt r.out f.out (λk u=>setRow_other _ _ _ _ ab) la
theorem Fe {a:Option Addr} {n:Nat} (cap:Nat) {zs:List Int} (w:World) (c:Code w a n zs):Calls prog 26 #[.slice a n cap] w (UY w):=by
 refine bz (S:=λ_=>True) (args:=[.slice a n cap]) [(aq zeroM zeroA,32)] func26 ?_;have f:Bw w (bM w [(aq zeroM zeroA,32)]):=bal _ _;have u:(bM w [(aq zeroM zeroA,32)]).heap.size=w.heap.size+1:=by simp [bM]
 have j:=(Bs.start w [(aq zeroM zeroA,32)]).1 0 _ rfl;generalize bM w [(aq zeroM zeroA,32)]=s at *;have h:Code s a n zs:=⟨c.len,c.few,c.sl.below f,c.bd⟩;refine aS (R:=[]) trivial {} 40 (tF cap s h) ?_;rintro e x ⟨M,A,rfl,l,m,d,q⟩;refine ⟨_,0,rfl,?_⟩;have i:x.heap[w.heap.size]?=some (.cells (aq zeroM zeroA) 32 (0,0)):=bA q j;refine cw (R:=[]) trivial {} 40 (aG (g:=w.heap.size) (t:=32) (ty:=32) (cells:=aq M A) i al rfl (eX M A)) ?_;refine fP (R:=[]) trivial {} 40 λb r=>⟨_,results_cell_row rfl b.tmps _ w.heap.size 32 (aq M A) (0,0) _ (r.slot al) (setRow_heap _ _ _ _ _ _ i) underlying32 rfl al,M,A,rfl,l,?_,λp v b o e=>by have:=d p v b o e;omega,bm (f.trans (q.mono ab)) (Nat.le_refl _) _⟩;exact yt m d (λk r=>setRow_other _ _ _ _ ab) la
end Go.Proofs.YtjifdmoehfbihaaGreatDoor
