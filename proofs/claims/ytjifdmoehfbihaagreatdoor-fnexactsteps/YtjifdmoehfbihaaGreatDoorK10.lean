/- Own lemmas. -/
import Derived.Test.YtjifdmoehfbihaaGreatDoorAut
import Derived.Test.YtjifdmoehfbihaaGreatDoorK07
import Derived.Test.YtjifdmoehfbihaaGreatDoorK09
set_option maxRecDepth 100000
set_option maxHeartbeats 6400000
namespace Go.Proofs.YtjifdmoehfbihaaGreatDoor
open Go.RowKit Tryz
set_option linter.unusedVariables false
theorem Ip (pc:Int) (L:Option Addr) (nx M:Nat) (pr:Int) (g cc:Nat) (ar:Option Addr) (Q cr:Nat) (t cm:Int) (F:Bool) (r:Option Addr) (E u:Nat) (s:Option Addr) (no z:Nat) (C hd:Int) (hl wt:Bool) (b:Nat) (y D:Int) (w:World) (c:w.heap[b]?=some (.cells #[.u pc,.slice L nx M,.i pr,.slice (some ⟨g,0,none⟩) 22 cc,.slice ar Q cr,.u t,.u cm,.bool F,.slice r E u,.slice s no z,.i C,.u hd,.bool hl,.bool wt] 32 (0,0))) (d:w.cell? ⟨g,9,none⟩=some (.u y)) (B:w.frozen? ⟨g,9,none⟩=false) (J:g<w.heap.size) (I:∀ j,Bw w j->CB 61 #[.agg #[.u t,.u cm,.bool F,.slice r E u,.slice s no z,.i C]] j (.u D)):Calls prog 121 #[.p b 0] w λe j=>e=.returned (.tuple #[])/\∃ o,Bw w o/\j=o.setCell ⟨g,9,none⟩ (.u (bits .or .u64 (bits .andNot .u64 y 2184) D)):=by
 have K:Hid (CB 61 #[.agg #[.u t,.u cm,.bool F,.slice r E u,.slice s no z,.i C]] w.drew (.u D)):=I w.drew (Below.refl _ _).drew;have l:=ak c;have H:=ak J;have G:=ak (And.intro d B);obtain ⟨Z,p1,p2,p3,p4,p5,p6,p7,p8,p9,R,S,T,U⟩:=ae c;clear I c J;go_enter func121,ntmps121;go_wp2_with fail;go_region_with (first | (go_at_call 61;with_reducible refine K.out.mono ?_;rintro e o ⟨rfl,m⟩;have q:=ak (aa (Below.refl w.heap.size w).drew m);clear m;obtain ⟨q0,q1,q2,q3,q4,q5,q6,q7,q8,q9,V,W,X,Y⟩:=ae (an q.out l.out);have O:=(q.out.cell (p:=⟨g,9,none⟩) H.out).trans G.out.1;have P:o.frozen? ⟨g,9,none⟩=false:=e9));all_goals go_wp2_with fail
 all_goals refine bodyPost_end (results_none rfl _ _ _) rfl ?_
 all_goals exact ⟨rfl,o,q.out,rfl⟩
def dH (M:MV):MV:=⟨M.pc,M.x,M.pr,M.cs.set 9 (bits .or .u64 (bits .andNot .u64 (M.cs.getD 9 0) 2184) (cU M.d)),M.ram,M.d,M.hd,M.hl,M.wt⟩
theorem zh (M:MV) (A:MA):aO (dH M) A=aO M A:=by simp [aO,dH]
theorem vP (w:World) (g i:Nat) (v:Value):w.grownBy (w.setCell ⟨g,i,none⟩ v) (some g):=
 ⟨rfl,rfl,rfl,ex,λk _ a=>Below.heap_setCell w ⟨g,i,none⟩ v k (λh=>a (by rw [h]))⟩
theorem BW (M:MV) (A:MA) (b B E:Nat) (w:World) (u:M.cs.length=22) (hl:jF M) (h:w.heap[b]?=some (.cells (aO M A) 32 (0,0))) (v:bp B E w (aH M A)) (hb:∀ q ∈ aH M A,q.v.ownBlock≠some b):Calls prog 121 #[.p b 0] w λe k=>e=.returned (.tuple #[])/\k.heap[b]?=some (.cells (aO (dH M) A) 32 (0,0))/\bp B E k (aH (dH M) A)/\eU (aH M A) w k:=by
 have c:aI A.ac M.cs.length A.cc M.cs ∈ aH M A:=ck
 have K:=v.own _ c;have D:=v.msl;obtain ⟨g,G,a,L,I⟩:=D.cs 9 al;have n:G=0:=by
  rcases K.2 with ⟨e,_⟩|⟨t,cap,s,e,_⟩
  ·have d:Value.slice A.ac M.cs.length A.cc=.slice none 0 0:=e;injection d with e3
   rw [a] at e3;cases e3
  ·have d:Value.slice A.ac M.cs.length A.cc=.slice (some ⟨t,0,none⟩) M.cs.length cap:=e;injection d with e3
   rw [a] at e3;injection e3 with e4
   injection e4
 subst n;rw [Nat.zero_add] at I;have f:(aI A.ac M.cs.length A.cc M.cs).v.ownBlock=some g:=by show (Value.slice A.ac M.cs.length A.cc).ownBlock=_;rw [a];rfl
 have y:g≠b:=λe=>hb _ c (by rw [f,e]);have x:w.frozen? ⟨g,9,none⟩=false:=by
  rcases K.2 with ⟨e,_⟩|⟨t,cap,s,e,N,o,_⟩;·have d:Value.slice A.ac M.cs.length A.cc=.slice none 0 0:=e;rw [a] at d;cases d
  ·have d:Value.slice A.ac M.cs.length A.cc=.slice (some ⟨t,0,none⟩) M.cs.length cap:=e;rw [a] at d;injection d with e3
   injection e3 with e4
   injection e4 with e5
   subst e5;exact gO o 9
 have j:=h;unfold aO at j;rw [a,u] at j;refine (Ip _ _ _ _ _ g _ _ _ _ _ _ _ _ _ _ _ _ _ _ _ _ _ b (M.cs.getD 9 0) (cU M.d) w j I x L (λk O=>rg _ _ _ _ _ _ _ _ _ _ k hl.xs)).mono ?_;rintro e k ⟨rfl,p,i,rfl⟩;have l:=v.below i;have C:=l.own _ c;refine ⟨rfl,?_,?_⟩;·rw [zh];exact eg (an i h) ⟨g,9,none⟩ _ (λe=>y e.symm)
 ·have z:p.grownBy (p.setCell ⟨g,9,none⟩ (.u (bits .or .u64 (bits .andNot .u64 (M.cs.getD 9 0) 2184) (cU M.d)))) (aI A.ac M.cs.length A.cc M.cs).v.ownBlock:=(by rw [f];exact vP _ _ _ _);have F:(p.setCell ⟨g,9,none⟩ (.u (bits .or .u64 (bits .andNot .u64 (M.cs.getD 9 0) 2184) (cU M.d)))).ownsRow B 22 1 (.slice A.ac M.cs.length A.cc) M.cs.length ((dH M).cs.map (Value.int .u64)):=(by have o:p.ownsRow B 22 1 (.slice A.ac M.cs.length A.cc) M.cs.length (M.cs.map (Value.int .u64)):=C;rw [a] at o ⊢;have H:=(o.stored 9 (.u (bits .or .u64 (bits .andNot .u64 (M.cs.getD 9 0) 2184) (cU M.d)))).1;rw [iH] at H;exact H);have J:=bp.markL (L1:=[aI A.ax M.x.length A.cx M.x]) (L2:=[aB A.ar M.ram.length A.cr M.ram,aB A.ai M.d.xs.length A.ci M.d.xs,aB A.ao M.d.ys.length A.co M.d.ys]) (r:=aI A.ac M.cs.length A.cc M.cs) l z _ F;refine ⟨?_,(eU.of_below i).trans J.2⟩;have m:(dH M).cs.length=M.cs.length:=(by simp [dH]);unfold aH;rw [m];exact J.1
structure Mp (B r:Nat) (M:MV) (A:MA) (W:World):Prop where
 row:W.heap[r]?=some (.cells (aO M A) 32 (0,0))
 fam:bp B W.heap.size W (aH M A)
 ne:∀ q ∈ aH M A,q.v.ownBlock≠some r
 lo:B<=r
structure Kx (r:Nat) (L L':List FRow) (w w':World):Prop where
 os:w'.os=w.os
 tape:w'.tape=w.tape
 output:w'.output=w.output
 size:w.heap.size<=w'.heap.size
 block:∀ k,k<w.heap.size->k≠r->(∀ q ∈ L,q.v.ownBlock≠some k)->w'.heap[k]?=w.heap[k]?
 own:∀ q ∈ L',∀ k,q.v.ownBlock=some k->k<w.heap.size->∃ q0 ∈ L,q0.v.ownBlock=some k
theorem Kx.refl (r:Nat) (L:List FRow) (w:World):Kx r L L w w:=⟨rfl,rfl,rfl,Nat.le_refl _,λ_ _ _ _=>rfl,λq a k e _=>⟨q,a,e⟩⟩
theorem Kx.trans {r:Nat} {L1 L2 g:List FRow} {a b c:World} (h:Kx r L1 L2 a b) (k:Kx r L2 g b c):Kx r L1 g a c :=
 ⟨k.os.trans h.os,k.tape.trans h.tape,k.output.trans h.output,Nat.le_trans h.size k.size,
  λi d l j=>(k.block i (Nat.lt_of_lt_of_le d h.size) l (λq f e=>by obtain ⟨s,o,m⟩:=h.own q f i e d;exact j s o m)).trans (h.block i d l j),
  λq f i e d=>by obtain ⟨t,p,n⟩:=k.own q f i e (Nat.lt_of_lt_of_le d h.size);exact h.own t p i n d⟩
theorem Kx.of_below {r:Nat} {L:List FRow} {w w':World} (h:Bw w w'):Kx r L L w w' :=
 ⟨h.os,h.tape,h.output,h.size,λk a _ _=>h.block k a,λq b k e _=>⟨q,b,e⟩⟩
theorem Kx.set {r:Nat} {L:List FRow} (w:World) (i:Nat) (v:Value):Kx r L L w (w.setCell ⟨r,i,none⟩ v):=
 ⟨rfl,rfl,rfl,ex,λk _ b _=>Below.heap_setCell w ⟨r,i,none⟩ v k (λe=>b (by rw [e])),λq a k e _=>⟨q,a,e⟩⟩
theorem Kx.of_keepL {r:Nat} {L L':List FRow} {w w':World} (h:eU L w w') (hs:∀ q ∈ L',∃ a ∈ L,a.v=q.v):Kx r L L' w w' :=
 ⟨h.os,h.tape,h.output,h.size,λk d _ f=>h.block k d f,λq g k e _=>by obtain ⟨a,c,b⟩:=hs q g;exact ⟨a,c,by rw [b];exact e⟩⟩
theorem Kx.below {r B:Nat} {L L':List FRow} {w w':World} (h:Kx r L L' w w') (hr:B<=r) (c:B<=w.heap.size) (a:∀ q ∈ L,∀ k,q.v.ownBlock=some k->B<=k):Below B w w' :=
 ⟨h.os,h.tape,h.output,h.size,λk d=>h.block k al al (λq b e=>by have:=a q b k e;omega)⟩
theorem Mp.below {B r:Nat} {M:MV} {A:MA} {w w':World} (h:Mp B r M A w) (hb:Bw w w'):Mp B r M A w' :=
 ⟨an hb h.row,(h.fam.below hb).low (Nat.le_refl _) hb.size,h.ne,h.lo⟩
theorem Mp.lt {B r:Nat} {M:MV} {A:MA} {w:World} (h:Mp B r M A w):r<w.heap.size:=(Array.getElem?_eq_some_iff.1 h.row).1
theorem Mp.under {B r:Nat} {M M':MV} {A a:MA} {w w':World} (h:Mp B r M A w) (k:Kx r (aH M A) (aH M' a) w w'):Below B w w' :=
 k.below h.lo (by have:=h.lt;have:=h.lo;omega) (λq b i e=>((h.fam.own q b).lt i e).1)
theorem iS {M M':MV} {A:MA} (b:M'.x.length=M.x.length) (c:M'.cs.length=M.cs.length) (d:M'.ram.length=M.ram.length) (e:M'.d.xs.length=M.d.xs.length) (f:M'.d.ys.length=M.d.ys.length):∀ q ∈ aH M' A,∃ q0 ∈ aH M A,q0.v=q.v:=by
 intro q a;simp only [aH,List.mem_cons,List.not_mem_nil,or_false] at a;rcases a with rfl|rfl|rfl|rfl|rfl;·exact ⟨aI A.ax M.x.length A.cx M.x,ck,by rw [b];rfl⟩
 ·exact ⟨aI A.ac M.cs.length A.cc M.cs,ck,by rw [c];rfl⟩
 ·exact ⟨aB A.ar M.ram.length A.cr M.ram,ck,by rw [d];rfl⟩
 ·exact ⟨aB A.ai M.d.xs.length A.ci M.d.xs,ck,by rw [e];rfl⟩
 ·exact ⟨aB A.ao M.d.ys.length A.co M.d.ys,ck,by rw [f];rfl⟩
theorem vQ (M:MV) (A:MA) (B r:Nat) (w:World) (a:M.cs.length=22) (hl:jF M) (h:Mp B r M A w):Calls prog 121 #[.p r 0] w λe b=>e=.returned (.tuple #[])/\Mp B r (dH M) A b/\Kx r (aH M A) (aH (dH M) A) w b:=by refine (BW M A r B w.heap.size w a hl h.row h.fam h.ne).mono λe b ⟨g,i,j,c⟩=>⟨g,⟨i,j.low (Nat.le_refl _) c.size,?_,h.lo⟩,Kx.of_keepL c (iS rfl (by simp [dH]) rfl rfl rfl)⟩;intro q k e;obtain ⟨l,f,d⟩:=iS (M:=M) (M':=dH M) (A:=A) rfl (by simp [dH]) rfl rfl rfl q k;exact h.ne l f (by rw [d];exact e)
end Go.Proofs.YtjifdmoehfbihaaGreatDoor
