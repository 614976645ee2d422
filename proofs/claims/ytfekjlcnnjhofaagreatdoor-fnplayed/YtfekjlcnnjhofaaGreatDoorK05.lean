/- Own lemmas. -/
import Derived.Test.YtfekjlcnnjhofaaGreatDoorAut
import Derived.Test.YtfekjlcnnjhofaaGreatDoorK03
import Derived.Test.YtfekjlcnnjhofaaGreatDoorK04
set_option maxRecDepth 100000
set_option maxHeartbeats 6400000
namespace Go.Proofs.YtfekjlcnnjhofaaGreatDoor
open Go.RowKit Tryz
open Go renaming World->A8,bits->A9
open Nat renaming le_refl->C5,lt_of_lt_of_le->C6
open Value renaming slice->A5,int->A6
set_option linter.unusedVariables false
variable {w r:Nat} {A B:A8} {M L:List FRow} {b:MV} {g:MA} (a:A8) (E:MV) (c:MA) (s t y:Nat) (z:A8)
theorem Lm (pc:Int) (L:Option Addr) (nx cx:Nat) (pr:Int) (g cc:Nat) (ar:Option Addr) (P cr:Nat) (t cm:Int) (F:Bool) (r:Option Addr) (E u:Nat) (s:Option Addr) (no z:Nat) (C hd:Int) (hl wt:Bool) (b:Nat) (y D:Int) (w:A8) (c:w.heap[b]?=some (.cells #[.u pc,.slice L nx cx,.i pr,.slice (some ⟨g,0,none⟩) 22 cc,.slice ar P cr,.u t,.u cm,.bool F,.slice r E u,.slice s no z,.i C,.u hd,.bool hl,.bool wt] 29 (0,0))) (d:w.cell? ⟨g,9,none⟩=some (.u y)) (B:w.frozen? ⟨g,9,none⟩=false) (J:g<w.heap.size) (I:∀ j,Bw w j->CB 30 #[.agg #[.u t,.u cm,.bool F,.slice r E u,.slice s no z,.i C]] j (.u D)):Calls prog 23 #[.p b 0] w λe j=>e=.returned (.tuple #[])/\∃ o,Bw w o/\j=o.setCell ⟨g,9,none⟩ (.u (A9 .or .u64 (A9 .andNot .u64 y 2184) D)):=by
 have K:Hid (CB 30 #[.agg #[.u t,.u cm,.bool F,.slice r E u,.slice s no z,.i C]] w.drew (.u D)):=I w.drew (Below.refl _ _).drew;have l:=aq c;have H:=aq J;have G:=aq (And.intro d B);obtain ⟨Y,Z,p2,p3,p4,p5,p6,p7,p8,p9,Q,R,S,T⟩:=aX c;clear I c J;go_enter func23,ntmps23;go_wp2_with fail;go_region_with (first | (go_at_call 30;with_reducible refine K.out.mono ?_;rintro e o ⟨rfl,m⟩;have q:=aq (aa (Below.refl w.heap.size w).drew m);clear m;obtain ⟨q0,q1,q2,q3,q4,q5,q6,q7,q8,q9,U,V,W,X⟩:=aX (aD q.out l.out);have N:=(q.out.cell (p:=⟨g,9,none⟩) H.out).trans G.out.1;have O:o.frozen? ⟨g,9,none⟩=false:=(by have A:=G.out.2;have M:=q.out.block g H.out;unfold World.frozen? at A ⊢;dsimp only at A ⊢;rw [M];exact A)));all_goals go_wp2_with fail
 all_goals refine bodyPost_end (results_none rfl _ _ _) rfl ?_
 all_goals exact ⟨rfl,o,q.out,rfl⟩
def bK (M:MV):MV:=⟨M.pc,M.x,M.pr,M.cs.set 9 (A9 .or .u64 (A9 .andNot .u64 (M.cs.getD 9 0) 2184) (dM M.d)),M.ram,M.d,M.hd,M.hl,M.wt⟩
theorem vm:ak (bK E) c=ak E c:=by simp [ak,bK]
theorem yv (v:Value):a.grownBy (a.setCell ⟨s,t,none⟩ v) (some s):=
 ⟨rfl,rfl,rfl,ep,λk _ w=>Below.heap_setCell a ⟨s,t,none⟩ v k (λh=>w (by rw [h]))⟩
theorem vq (b:E.cs.length=22) (hl:iR E) (f:z.heap[s]?=some (.cells (ak E c) 29 (0,0))) (u:bj t y z (aF E c)) (hb:∀ q ∈ aF E c,q.v.ownBlock≠some s): Calls prog 23 #[.p s 0] z λe j=>e=.returned (.tuple #[])/\j.heap[s]?=some (.cells (ak (bK E) c) 29 (0,0))/\bj t y j (aF (bK E) c)/\jD (aF E c) z j:=by
 have M:aG c.ac E.cs.length c.cc E.cs ∈ aF E c:=ef
 have J:=u.own _ M;have C:=u.msl;obtain ⟨g,F,a,K,H⟩:=C.cs 9 ab;have m:F=0:=by
  rcases J.2 with ⟨e,_⟩|⟨A,cap,p,e,_⟩
  ·have e2:A5 c.ac E.cs.length c.cc=.slice none 0 0:=e;injection e2 with e3
   rw [a] at e3;cases e3
  ·have e2:A5 c.ac E.cs.length c.cc=.slice (some ⟨A,0,none⟩) E.cs.length cap:=e;injection e2 with e3
   rw [a] at e3;injection e3 with e4
   injection e4
 subst m;rw [Nat.zero_add] at H;have d:(aG c.ac E.cs.length c.cc E.cs).v.ownBlock=some g:=by show (A5 c.ac E.cs.length c.cc).ownBlock=_;rw [a];rfl
 have x:g≠s:=λe=>hb _ M (by rw [d,e]);have v:z.frozen? ⟨g,9,none⟩=false:=by
  rcases J.2 with ⟨e,_⟩|⟨A,cap,p,e,L,n,_⟩;·have e2:A5 c.ac E.cs.length c.cc=.slice none 0 0:=e;rw [a] at e2;cases e2
  ·have e2:A5 c.ac E.cs.length c.cc=.slice (some ⟨A,0,none⟩) E.cs.length cap:=e;rw [a] at e2;injection e2 with e3
   injection e3 with e4
   injection e4 with e5
   subst e5;exact dD n 9
 have i:=f;unfold ak at i;rw [a,b] at i;refine (Lm _ _ _ _ _ g _ _ _ _ _ _ _ _ _ _ _ _ _ _ _ _ _ s (E.cs.getD 9 0) (dM E.d) z i H v K (λj N=>tj _ _ _ _ _ _ _ _ _ _ j hl.xs)).mono ?_;rintro e j ⟨rfl,o,h,rfl⟩;have k:=u.below h;have w:=k.own _ M;refine ⟨rfl,?_,?_⟩;·rw [vm];exact fT (aD h f) ⟨g,9,none⟩ _ (λe=>x e.symm)
 ·have B:o.grownBy (o.setCell ⟨g,9,none⟩ (.u (A9 .or .u64 (A9 .andNot .u64 (E.cs.getD 9 0) 2184) (dM E.d)))) (aG c.ac E.cs.length c.cc E.cs).v.ownBlock:=(by rw [d];exact yv _ _ _ _);have D:(o.setCell ⟨g,9,none⟩ (.u (A9 .or .u64 (A9 .andNot .u64 (E.cs.getD 9 0) 2184) (dM E.d)))).ownsRow t 24 1 (.slice c.ac E.cs.length c.cc) E.cs.length ((bK E).cs.map (A6 .u64)):=(by have n:o.ownsRow t 24 1 (.slice c.ac E.cs.length c.cc) E.cs.length (E.cs.map (A6 .u64)):=w;rw [a] at n ⊢;have G:=(n.stored 9 (.u (A9 .or .u64 (A9 .andNot .u64 (E.cs.getD 9 0) 2184) (dM E.d)))).1;rw [ky] at G;exact G);have I:=bj.markL (L1:=[aG c.ax E.x.length c.cx E.x]) (L2:=[aE c.ar E.ram.length c.cr E.ram,aE c.ai E.d.xs.length c.ci E.d.xs,aE c.ao E.d.ys.length c.co E.d.ys]) (r:=aG c.ac E.cs.length c.cc E.cs) k B _ D;refine ⟨?_,(jD.of_below h).trans I.2⟩;have l:(bK E).cs.length=E.cs.length:=(by simp [bK]);unfold aF;rw [l];exact I.1
structure Mp (B r:Nat) (M:MV) (A:MA) (W:A8):Prop where
 row:W.heap[r]?=some (.cells (ak M A) 29 (0,0))
 fam:bj B W.heap.size W (aF M A)
 ne:∀ q ∈ aF M A,q.v.ownBlock≠some r
 lo:B<=r
structure Kx (r:Nat) (L L':List FRow) (w w':A8):Prop where
 os:w'.os=w.os
 tape:w'.tape=w.tape
 output:w'.output=w.output
 size:w.heap.size<=w'.heap.size
 block:∀ k,k<w.heap.size->k≠r->(∀ q ∈ L,q.v.ownBlock≠some k)->w'.heap[k]?=w.heap[k]?
 own:∀ q ∈ L',∀ k,q.v.ownBlock=some k->k<w.heap.size->∃ q0 ∈ L,q0.v.ownBlock=some k
theorem Kx.refl (L:List FRow) (w:A8):Kx s L L w w:=⟨rfl,rfl,rfl,C5 _,λ_ _ _ _=>rfl,λq a k e _=>⟨q,a,e⟩⟩
theorem Kx.trans {g:List FRow} {c:A8} (h:Kx r M L A B) (k:Kx r L g B c):Kx r M g A c :=
 ⟨k.os.trans h.os,k.tape.trans h.tape,k.output.trans h.output,Nat.le_trans h.size k.size,
  λi d l j=>(k.block i (C6 d h.size) l (λq f e=>by obtain ⟨s,o,m⟩:=h.own q f i e d;exact j s o m)).trans (h.block i d l j),
  λq f i e d=>by obtain ⟨t,p,n⟩:=k.own q f i e (C6 d h.size);exact h.own t p i n d⟩
theorem Kx.of_below {r:Nat} {L:List FRow} (h:Bw A B):Kx r L L A B :=
 ⟨h.os,h.tape,h.output,h.size,λk a _ _=>h.block k a,λq b k e _=>⟨q,b,e⟩⟩
theorem Kx.set (v:Value):Kx r L L a (a.setCell ⟨r,s,none⟩ v):=
 ⟨rfl,rfl,rfl,ep,λk _ b _=>Below.heap_setCell a ⟨r,s,none⟩ v k (λe=>b (by rw [e])),λq w k e _=>⟨q,w,e⟩⟩
theorem Kx.of_keepL (h:jD L A B) (hs:∀ q ∈ M,∃ a ∈ L,a.v=q.v):Kx r L M A B :=
 ⟨h.os,h.tape,h.output,h.size,λk d _ f=>h.block k d f,λq g k e _=>by obtain ⟨a,c,b⟩:=hs q g;exact ⟨a,c,by rw [b];exact e⟩⟩
theorem Kx.below (h:Kx r L M A B) (hr:w<=r) (c:w<=A.heap.size) (a:∀ q ∈ L,∀ k,q.v.ownBlock=some k->w<=k):Below w A B :=
 ⟨h.os,h.tape,h.output,h.size,λk d=>h.block k ab ab (λq b e=>by have:=a q b k e;omega)⟩
theorem Mp.below (h:Mp w r b g A) (hb:Bw A B):Mp w r b g B :=
 ⟨aD hb h.row,(h.fam.below hb).low (C5 _) hb.size,h.ne,h.lo⟩
theorem Mp.lt (h:Mp w r b g A):r<A.heap.size:=(Array.getElem?_eq_some_iff.1 h.row).1
theorem Mp.under {M':MV} {a:MA} (h:Mp w r b g A) (k:Kx r (aF b g) (aF M' a) A B):Below w A B :=
 k.below h.lo (by have:=h.lt;have:=h.lo;omega) (λq M i e=>((h.fam.own q M).lt i e).1)
theorem i7 {M M':MV} {A:MA} (b:M'.x.length=M.x.length) (c:M'.cs.length=M.cs.length) (d:M'.ram.length=M.ram.length) (h4:M'.d.xs.length=M.d.xs.length) (e:M'.d.ys.length=M.d.ys.length):∀ q ∈ aF M' A,∃ q0 ∈ aF M A,q0.v=q.v:=by
 intro q a;simp only [aF,List.mem_cons,List.not_mem_nil,or_false] at a;rcases a with rfl|rfl|rfl|rfl|rfl;·exact ⟨aG A.ax M.x.length A.cx M.x,ef,by rw [b];rfl⟩
 ·exact ⟨aG A.ac M.cs.length A.cc M.cs,ef,by rw [c];rfl⟩
 ·exact ⟨aE A.ar M.ram.length A.cr M.ram,ef,by rw [d];rfl⟩
 ·exact ⟨aE A.ai M.d.xs.length A.ci M.d.xs,ef,by rw [h4];rfl⟩
 ·exact ⟨aE A.ao M.d.ys.length A.co M.d.ys,ef,by rw [e];rfl⟩
theorem rU (A:MA) (B r:Nat) (w:A8) (a:E.cs.length=22) (hl:iR E) (h:Mp B r E A w): Calls prog 23 #[.p r 0] w λe b=>e=.returned (.tuple #[])/\Mp B r (bK E) A b/\Kx r (aF E A) (aF (bK E) A) w b:=by refine (vq E A r B w.heap.size w a hl h.row h.fam h.ne).mono λe b ⟨g,i,j,c⟩=>⟨g,⟨i,j.low (C5 _) c.size,?_,h.lo⟩,Kx.of_keepL c (i7 rfl (by simp [bK]) rfl rfl rfl)⟩;intro q k e;obtain ⟨l,f,d⟩:=i7 (M:=E) (M':=bK E) (A:=A) rfl (by simp [bK]) rfl rfl rfl q k;exact h.ne l f (by rw [d];exact e)
