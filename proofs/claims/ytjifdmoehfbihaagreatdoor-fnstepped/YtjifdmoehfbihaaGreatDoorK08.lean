/- Own lemmas. -/
import Derived.Test.YtjifdmoehfbihaaGreatDoorAut
import Derived.Test.YtjifdmoehfbihaaGreatDoorK06
import Derived.Test.YtjifdmoehfbihaaGreatDoorK07
set_option maxRecDepth 100000
set_option maxHeartbeats 6400000
namespace Go.Proofs.YtjifdmoehfbihaaGreatDoor
open Go.RowKit Tryz
set_option linter.unusedVariables false
theorem J5 (pc:Int) (L:Option Addr) (nx cx:Nat) (pr:Int) (g cc:Nat) (ar:Option Addr) (P cr:Nat) (t cm:Int) (F:Bool) (r:Option Addr) (E u:Nat) (s:Option Addr) (no z:Nat) (C hd:Int) (hl wt:Bool) (b:Nat) (y D:Int) (w:World) (c:w.heap[b]?=some (.cells #[.u pc,.slice L nx cx,.i pr,.slice (some ⟨g,0,none⟩) 22 cc,.slice ar P cr,.u t,.u cm,.bool F,.slice r E u,.slice s no z,.i C,.u hd,.bool hl,.bool wt] 32 (0,0))) (d:w.cell? ⟨g,9,none⟩=some (.u y)) (B:w.frozen? ⟨g,9,none⟩=false) (J:g<w.heap.size) (I:∀ j,Bw w j->CB 61 #[.agg #[.u t,.u cm,.bool F,.slice r E u,.slice s no z,.i C]] j (.u D)):Calls prog 121 #[.p b 0] w λe j=>e=.returned (.tuple #[])/\∃ o,Bw w o/\j=o.setCell ⟨g,9,none⟩ (.u (bits .or .u64 (bits .andNot .u64 y 2184) D)):=by
 have K:Hid (CB 61 #[.agg #[.u t,.u cm,.bool F,.slice r E u,.slice s no z,.i C]] w.drew (.u D)):=I w.drew (Below.refl _ _).drew;have l:=aD c;have H:=aD J;have G:=aD (And.intro d B);obtain ⟨Y,Z,p2,p3,p4,p5,p6,p7,p8,p9,Q,R,S,T⟩:=aR c;clear I c J;go_enter func121,ntmps121;go_wp2_with fail;go_region_with (first | (go_at_call 61;with_reducible refine K.out.mono ?_;rintro e o ⟨rfl,m⟩;have q:=aD (aa (Below.refl w.heap.size w).drew m);clear m;obtain ⟨q0,q1,q2,q3,q4,q5,q6,q7,q8,q9,U,V,W,X⟩:=aR (bA q.out l.out);have N:=(q.out.cell (p:=⟨g,9,none⟩) H.out).trans G.out.1;have O:o.frozen? ⟨g,9,none⟩=false:=i2));all_goals go_wp2_with fail
 all_goals refine bodyPost_end (results_none rfl _ _ _) rfl ?_
 all_goals exact ⟨rfl,o,q.out,rfl⟩
def cC (M:MV):MV:=⟨M.pc,M.x,M.pr,M.cs.set 9 (bits .or .u64 (bits .andNot .u64 (M.cs.getD 9 0) 2184) (dD M.d)),M.ram,M.d,M.hd,M.hl,M.wt⟩
theorem uA (M:MV) (A:MA):aq (cC M) A=aq M A:=by simp [aq,cC]
theorem xz (w:World) (g i:Nat) (v:Value):w.grownBy (w.setCell ⟨g,i,none⟩ v) (some g):=
 ⟨rfl,rfl,rfl,ef,λk _ a=>Below.heap_setCell w ⟨g,i,none⟩ v k (λh=>a (by rw [h]))⟩
theorem uB (M:MV) (A:MA) (b B E:Nat) (w:World) (t:M.cs.length=22) (hl:j7 M) (f:w.heap[b]?=some (.cells (aq M A) 32 (0,0))) (u:bx B E w (aI M A)) (hb:∀ q ∈ aI M A,q.v.ownBlock≠some b):Calls prog 121 #[.p b 0] w λe j=>e=.returned (.tuple #[])/\j.heap[b]?=some (.cells (aq (cC M) A) 32 (0,0))/\bx B E j (aI (cC M) A)/\jg (aI M A) w j:=by
 have c:aJ A.ac M.cs.length A.cc M.cs ∈ aI M A:=dm
 have J:=u.own _ c;have C:=u.msl;obtain ⟨g,F,a,K,H⟩:=C.cs 9 ab;have m:F=0:=by
  rcases J.2 with ⟨e,_⟩|⟨s,cap,p,e,_⟩
  ·have e2:Value.slice A.ac M.cs.length A.cc=.slice none 0 0:=e;injection e2 with e3
   rw [a] at e3;cases e3
  ·have e2:Value.slice A.ac M.cs.length A.cc=.slice (some ⟨s,0,none⟩) M.cs.length cap:=e;injection e2 with e3
   rw [a] at e3;injection e3 with e4
   injection e4
 subst m;rw [Nat.zero_add] at H;have d:(aJ A.ac M.cs.length A.cc M.cs).v.ownBlock=some g:=by show (Value.slice A.ac M.cs.length A.cc).ownBlock=_;rw [a];rfl
 have x:g≠b:=λe=>hb _ c (by rw [d,e]);have v:w.frozen? ⟨g,9,none⟩=false:=by
  rcases J.2 with ⟨e,_⟩|⟨s,cap,p,e,L,n,_⟩;·have e2:Value.slice A.ac M.cs.length A.cc=.slice none 0 0:=e;rw [a] at e2;cases e2
  ·have e2:Value.slice A.ac M.cs.length A.cc=.slice (some ⟨s,0,none⟩) M.cs.length cap:=e;rw [a] at e2;injection e2 with e3
   injection e3 with e4
   injection e4 with e5
   subst e5;exact gU n 9
 have i:=f;unfold aq at i;rw [a,t] at i;refine (J5 _ _ _ _ _ g _ _ _ _ _ _ _ _ _ _ _ _ _ _ _ _ _ b (M.cs.getD 9 0) (dD M.d) w i H v K (λj N=>sg _ _ _ _ _ _ _ _ _ _ j hl.xs)).mono ?_;rintro e j ⟨rfl,o,h,rfl⟩;have k:=u.below h;have z:=k.own _ c;refine ⟨rfl,?_,?_⟩;·rw [uA];exact gy (bA h f) ⟨g,9,none⟩ _ (λe=>x e.symm)
 ·have y:o.grownBy (o.setCell ⟨g,9,none⟩ (.u (bits .or .u64 (bits .andNot .u64 (M.cs.getD 9 0) 2184) (dD M.d)))) (aJ A.ac M.cs.length A.cc M.cs).v.ownBlock:=(by rw [d];exact xz _ _ _ _);have D:(o.setCell ⟨g,9,none⟩ (.u (bits .or .u64 (bits .andNot .u64 (M.cs.getD 9 0) 2184) (dD M.d)))).ownsRow B 22 1 (.slice A.ac M.cs.length A.cc) M.cs.length ((cC M).cs.map (Value.int .u64)):=(by have n:o.ownsRow B 22 1 (.slice A.ac M.cs.length A.cc) M.cs.length (M.cs.map (Value.int .u64)):=z;rw [a] at n ⊢;have G:=(n.stored 9 (.u (bits .or .u64 (bits .andNot .u64 (M.cs.getD 9 0) 2184) (dD M.d)))).1;rw [j5] at G;exact G);have I:=bx.markL (L1:=[aJ A.ax M.x.length A.cx M.x]) (L2:=[aF A.ar M.ram.length A.cr M.ram,aF A.ai M.d.xs.length A.ci M.d.xs,aF A.ao M.d.ys.length A.co M.d.ys]) (r:=aJ A.ac M.cs.length A.cc M.cs) k y _ D;refine ⟨?_,(jg.of_below h).trans I.2⟩;have l:(cC M).cs.length=M.cs.length:=(by simp [cC]);unfold aI;rw [l];exact I.1
structure Mp (B r:Nat) (M:MV) (A:MA) (W:World):Prop where
 row:W.heap[r]?=some (.cells (aq M A) 32 (0,0))
 fam:bx B W.heap.size W (aI M A)
 ne:∀ q ∈ aI M A,q.v.ownBlock≠some r
 lo:B<=r
structure Kx (r:Nat) (L L':List FRow) (w w':World):Prop where
 os:w'.os=w.os
 tape:w'.tape=w.tape
 output:w'.output=w.output
 size:w.heap.size<=w'.heap.size
 block:∀ k,k<w.heap.size->k≠r->(∀ q ∈ L,q.v.ownBlock≠some k)->w'.heap[k]?=w.heap[k]?
 own:∀ q ∈ L',∀ k,q.v.ownBlock=some k->k<w.heap.size->∃ q0 ∈ L,q0.v.ownBlock=some k
theorem Kx.refl (r:Nat) (L:List FRow) (w:World):Kx r L L w w:=⟨rfl,rfl,rfl,Nat.le_refl _,λ_ _ _ _=>rfl,λq a k e _=>⟨q,a,e⟩⟩
theorem Kx.trans {r:Nat} {L1 L2 g:List FRow} {a b c:World} (h:Kx r L1 L2 a b) (k:Kx r L2 g b c):Kx r L1 g a c :=
 ⟨k.os.trans h.os,k.tape.trans h.tape,k.output.trans h.output,Nat.le_trans h.size k.size,
  λi d l j=>(k.block i (Nat.lt_of_lt_of_le d h.size) l (λq f e=>by obtain ⟨s,o,m⟩:=h.own q f i e d;exact j s o m)).trans (h.block i d l j),
  λq f i e d=>by obtain ⟨t,p,n⟩:=k.own q f i e (Nat.lt_of_lt_of_le d h.size);exact h.own t p i n d⟩
theorem Kx.of_below {r:Nat} {L:List FRow} {w w':World} (h:Bw w w'):Kx r L L w w' :=
 ⟨h.os,h.tape,h.output,h.size,λk a _ _=>h.block k a,λq b k e _=>⟨q,b,e⟩⟩
theorem Kx.set {r:Nat} {L:List FRow} (w:World) (i:Nat) (v:Value):Kx r L L w (w.setCell ⟨r,i,none⟩ v):=
 ⟨rfl,rfl,rfl,ef,λk _ b _=>Below.heap_setCell w ⟨r,i,none⟩ v k (λe=>b (by rw [e])),λq a k e _=>⟨q,a,e⟩⟩
theorem Kx.of_keepL {r:Nat} {L L':List FRow} {w w':World} (h:jg L w w') (hs:∀ q ∈ L',∃ a ∈ L,a.v=q.v):Kx r L L' w w' :=
 ⟨h.os,h.tape,h.output,h.size,λk d _ f=>h.block k d f,λq g k e _=>by obtain ⟨a,c,b⟩:=hs q g;exact ⟨a,c,by rw [b];exact e⟩⟩
theorem Kx.below {r B:Nat} {L L':List FRow} {w w':World} (h:Kx r L L' w w') (hr:B<=r) (c:B<=w.heap.size) (a:∀ q ∈ L,∀ k,q.v.ownBlock=some k->B<=k):Below B w w' :=
 ⟨h.os,h.tape,h.output,h.size,λk d=>h.block k ab ab (λq b e=>by have:=a q b k e;omega)⟩
theorem Mp.below {B r:Nat} {M:MV} {A:MA} {w w':World} (h:Mp B r M A w) (hb:Bw w w'):Mp B r M A w' :=
 ⟨bA hb h.row,(h.fam.below hb).low (Nat.le_refl _) hb.size,h.ne,h.lo⟩
theorem Mp.lt {B r:Nat} {M:MV} {A:MA} {w:World} (h:Mp B r M A w):r<w.heap.size:=(Array.getElem?_eq_some_iff.1 h.row).1
theorem Mp.under {B r:Nat} {M M':MV} {A a:MA} {w w':World} (h:Mp B r M A w) (k:Kx r (aI M A) (aI M' a) w w'):Below B w w' :=
 k.below h.lo (by have:=h.lt;have:=h.lo;omega) (λq b i e=>((h.fam.own q b).lt i e).1)
theorem jj {M M':MV} {A:MA} (b:M'.x.length=M.x.length) (c:M'.cs.length=M.cs.length) (d:M'.ram.length=M.ram.length) (h4:M'.d.xs.length=M.d.xs.length) (e:M'.d.ys.length=M.d.ys.length):∀ q ∈ aI M' A,∃ q0 ∈ aI M A,q0.v=q.v:=by
 intro q a;simp only [aI,List.mem_cons,List.not_mem_nil,or_false] at a;rcases a with rfl|rfl|rfl|rfl|rfl;·exact ⟨aJ A.ax M.x.length A.cx M.x,dm,by rw [b];rfl⟩
 ·exact ⟨aJ A.ac M.cs.length A.cc M.cs,dm,by rw [c];rfl⟩
 ·exact ⟨aF A.ar M.ram.length A.cr M.ram,dm,by rw [d];rfl⟩
 ·exact ⟨aF A.ai M.d.xs.length A.ci M.d.xs,dm,by rw [h4];rfl⟩
 ·exact ⟨aF A.ao M.d.ys.length A.co M.d.ys,dm,by rw [e];rfl⟩
theorem xA (M:MV) (A:MA) (B r:Nat) (w:World) (a:M.cs.length=22) (hl:j7 M) (h:Mp B r M A w):Calls prog 121 #[.p r 0] w λe b=>e=.returned (.tuple #[])/\Mp B r (cC M) A b/\Kx r (aI M A) (aI (cC M) A) w b:=by refine (uB M A r B w.heap.size w a hl h.row h.fam h.ne).mono λe b ⟨g,i,j,c⟩=>⟨g,⟨i,j.low (Nat.le_refl _) c.size,?_,h.lo⟩,Kx.of_keepL c (jj rfl (by simp [cC]) rfl rfl rfl)⟩;intro q k e;obtain ⟨l,f,d⟩:=jj (M:=M) (M':=cC M) (A:=A) rfl (by simp [cC]) rfl rfl rfl q k;exact h.ne l f (by rw [d];exact e)
end Go.Proofs.YtjifdmoehfbihaaGreatDoor
