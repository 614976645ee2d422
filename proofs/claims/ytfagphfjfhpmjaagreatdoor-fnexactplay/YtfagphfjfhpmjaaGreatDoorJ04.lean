/- Own lemmas. -/
import Derived.Test.YtfagphfjfhpmjaaGreatDoorAuj
import Derived.Test.YtfagphfjfhpmjaaGreatDoorJ03
import Derived.Deep.LoopGhost
set_option maxRecDepth 100000
set_option maxHeartbeats 3200000
namespace Go.Proofs.YtfagphfjfhpmjaaGreatDoor
open Go.RowKit Tryz
set_option linter.unusedVariables false
variable {w n F:World} {k S a g:Nat} {b P:Program} {t:Fr} {c:List KI} {L Rs:Ending->World->Prop} {B:World->Prop} {W:Func} {Q R:List Rw} {A bs:List Nat} {E r s:Array Value} {M f T:TypeId} {l:List FRow} {o:Exit->Act->World->Prop} {C:Act} {G:Array Oper} {J:Bool} {d:Oper} {j:List (Oe × Oe)} (m:Int) (q:Option Addr) (x:MV) (D I:MA) (e:Int) (p y:Nat) (z:Int) (K:World)
structure Mx (w:World) (s r b:Nat) (TS T:TypeId) (ss rs cs:Array Value) (L:List FRow) (wr:World):Prop where
 src:wr.heap[s]?=some (.cells ss TS (0,0))
 res:wr.heap[r]?=some (.cells rs T (0,0))
 row:wr.heap[b]?=some (.cells cs T (0,0))
 fam:aZ (b+1) wr.heap.size wr L
 below:Bw w wr
 h1:w.heap.size<=s
 h2:s<r
 h3:r<b
theorem Mx.put {wr:World} (h:Mx w k S a M f E r s l wr) (i:Nat) (v:Value):Mx w k S a M f E r (s.setIfInBounds i v) l (wr.setCell ⟨a,i,none⟩ v):=by have d:=h.h1;have e:=h.h2;have rs:=h.h3;exact ⟨dS h.src ⟨a,i,none⟩ v a9,dS h.res ⟨a,i,none⟩ v a9,bC h.row i v,(h.fam.set ⟨a,i,none⟩ v (.inl a9)).low (Nat.le_refl _) ep,h.below.setCell (p:=⟨a,i,none⟩) a9 v,d,e,rs⟩
theorem Mx.add {wr:World} (h:Mx w k S a M f E r s l wr) (q:FRow) (d:n.ownsRow wr.heap.size q.t 1 q.v q.n q.xs) (hb:Bw wr n):Mx w k S a M f E r s (l++[q]) n:=by have e:a<wr.heap.size:=(Array.getElem?_eq_some_iff.1 h.row).1;exact ⟨aB hb h.src,aB hb h.res,aB hb h.row,(h.fam.below hb).snoc q _ n.heap.size d (Nat.le_refl _) ab (Nat.le_refl _) hb.size,aa h.below hb,h.h1,h.h2,h.h3⟩
theorem Mx.add2 {wr:World} (h:Mx w k S a M f E r s l wr) (rs q2:FRow) (c:aZ wr.heap.size n.heap.size n [rs,q2]) (hb:Bw wr n):Mx w k S a M f E r s (l++[rs,q2]) n:=by
 have L:a<wr.heap.size:=(Array.getElem?_eq_some_iff.1 h.row).1;have hF:=h.fam.below hb;have m:=hb.size;refine ⟨aB hb h.src,aB hb h.res,aB hb h.row,⟨λq T=>?_,λq T b e=>?_,List.pairwise_append.2 ⟨hF.ne,c.ne,λq T t j b e i=>?_⟩⟩,aa h.below hb,h.h1,h.h2,h.h3⟩
 ·rcases List.mem_append.1 T with T|T;·exact hF.own q T
  ·exact dG (c.own q T) ab
 ·rcases List.mem_append.1 T with T|T;·have:=hF.hi q T b e;omega
  ·exact c.hi q T b e
 ·have:=hF.hi q T b e;have:=((c.own t j).lt b i).1;omega
theorem rW (zs:List Int) (w':World) (d:zs.length=p) (f:p<=1048576) (i:Sl .u64 w' q zs):
 Calls prog 45 #[.slice q p y] w' λe b=>∃ g,e=.returned (.slice (some ⟨g,0,none⟩) p p)/\b.ownsRow w'.heap.size 22 1 (.slice (some ⟨g,0,none⟩) p p) p (zs.map (Value.int .u64))/\Bw w' b :=
 (vV q p y zs w' d f i).mono λe b h=>⟨_,h.1,h.2.1,h.2.2⟩
structure iU (M:MV):Prop where
 x:M.x.length<=1048576
 cs:M.cs.length<=1048576
 ram:M.ram.length<=1048576
 xs:M.d.xs.length<=1048576
 ys:M.d.ys.length<=1048576
theorem wc (hl:iU x) (hs:tA K x D): Calls prog 12 #[.agg #[.u x.pc,.slice D.ax x.x.length D.cx,.i x.pr,.slice D.ac x.cs.length D.cc,.slice D.ar x.ram.length D.cr,.u x.d.t,.u x.d.cm,.bool x.d.so,.slice D.ai x.d.xs.length D.ci,.slice D.ao x.d.ys.length D.co,.i x.d.ir,.u x.hd,.bool x.hl,.bool x.wt]] K λe b=>∃ d f B C A:Nat,e=.returned (.agg (ap x ⟨some ⟨d,0,none⟩,x.x.length,some ⟨f,0,none⟩,x.cs.length,some ⟨B,0,none⟩,x.ram.length,some ⟨C,0,none⟩,x.d.xs.length,some ⟨A,0,none⟩,x.d.ys.length⟩))/\aZ K.heap.size b.heap.size b (aJ x ⟨some ⟨d,0,none⟩,x.x.length,some ⟨f,0,none⟩,x.cs.length,some ⟨B,0,none⟩,x.ram.length,some ⟨C,0,none⟩,x.d.xs.length,some ⟨A,0,none⟩,x.d.ys.length⟩)/\Bw K b:=by have H1:Hid (∀ b,Bw K b->Calls prog 45 #[.slice D.ax x.x.length D.cx] b λe c=>∃ g,e=.returned (.slice (some ⟨g,0,none⟩) x.x.length x.x.length)/\c.ownsRow b.heap.size 22 1 (.slice (some ⟨g,0,none⟩) x.x.length x.x.length) x.x.length (x.x.map (Value.int .u64))/\Bw b c):=λb E=>rW _ _ _ _ b rfl hl.x (hs.x.below E);have H2:Hid (∀ b,Bw K b->Calls prog 45 #[.slice D.ac x.cs.length D.cc] b λe c=>∃ g,e=.returned (.slice (some ⟨g,0,none⟩) x.cs.length x.cs.length)/\c.ownsRow b.heap.size 22 1 (.slice (some ⟨g,0,none⟩) x.cs.length x.cs.length) x.cs.length (x.cs.map (Value.int .u64))/\Bw b c):=λb E=>rW _ _ _ _ b rfl hl.cs (hs.cs.below E);have H3:Hid (∀ b,Bw K b->Calls prog 46 #[.slice D.ar x.ram.length D.cr] b λe c=>∃ g,e=.returned (.slice (some ⟨g,0,none⟩) x.ram.length x.ram.length)/\c.ownsRow b.heap.size 5 1 (.slice (some ⟨g,0,none⟩) x.ram.length x.ram.length) x.ram.length (x.ram.map (Value.int .u8))/\Bw b c):=λb E=>qV _ _ _ _ b rfl hl.ram (hs.ram.below E);have H4:Hid (∀ b,Bw K b->Calls prog 47 #[.agg #[.u x.d.t,.u x.d.cm,.bool x.d.so,.slice D.ai x.d.xs.length D.ci,.slice D.ao x.d.ys.length D.co,.i x.d.ir]] b λe c=>∃ g1 g2:Nat,e=.returned (.agg #[.u x.d.t,.u x.d.cm,.bool x.d.so,.slice (some ⟨g1,0,none⟩) x.d.xs.length x.d.xs.length,.slice (some ⟨g2,0,none⟩) x.d.ys.length x.d.ys.length,.i x.d.ir])/\aZ b.heap.size c.heap.size c (fC (some ⟨g1,0,none⟩) x.d.xs.length x.d.xs.length x.d.xs (some ⟨g2,0,none⟩) x.d.ys.length x.d.ys.length x.d.ys)/\Bw b c):=λb E=>GD _ _ _ _ _ _ _ _ _ _ x.d.xs x.d.ys b rfl rfl hl.xs hl.ys (hs.xs.below E) (hs.ys.below E);have hB3:∀ o1 o2 o3,Bw K (((K.alloc o1).alloc o2).alloc o3):=λo1 o2 o3=>(((Below.refl _ _).alloc (Nat.le_refl _) o1).alloc bc o2).alloc a8 o3;clear hl hs;go_enter func12,ntmps12;go_wp2_with fail;obtain ⟨r0,r1,r2⟩:=EP (w:=K) (o1:=.cells #[.u x.pc,.slice D.ax x.x.length D.cx,.i x.pr,.slice D.ac x.cs.length D.cc,.slice D.ar x.ram.length D.cr,.u x.d.t,.u x.d.cm,.bool x.d.so,.slice D.ai x.d.xs.length D.ci,.slice D.ao x.d.ys.length D.co,.i x.d.ir,.u x.hd,.bool x.hl,.bool x.wt] 28) (o2:=.cells #[.u 0,.slice none 0 0,.i 0,.slice none 0 0,.slice none 0 0,.u 0,.u 0,.bool false,.slice none 0 0,.slice none 0 0,.i 0,.u 0,.bool false,.bool false] 32) (o3:=.cells #[.u x.pc,.slice none 0 0,.i 0,.slice none 0 0,.slice none 0 0,.u 0,.u 0,.bool false,.slice none 0 0,.slice none 0 0,.i 0,.u 0,.bool false,.bool false] 32) (Below.refl _ _);have M0:Hid (Mx K K.heap.size (K.heap.size+1) (K.heap.size+1+1) 28 32 #[.u x.pc,.slice D.ax x.x.length D.cx,.i x.pr,.slice D.ac x.cs.length D.cc,.slice D.ar x.ram.length D.cr,.u x.d.t,.u x.d.cm,.bool x.d.so,.slice D.ai x.d.xs.length D.ci,.slice D.ao x.d.ys.length D.co,.i x.d.ir,.u x.hd,.bool x.hl,.bool x.wt] #[.u 0,.slice none 0 0,.i 0,.slice none 0 0,.slice none 0 0,.u 0,.u 0,.bool false,.slice none 0 0,.slice none 0 0,.i 0,.u 0,.bool false,.bool false] #[.u x.pc,.slice none 0 0,.i 0,.slice none 0 0,.slice none 0 0,.u 0,.u 0,.bool false,.slice none 0 0,.slice none 0 0,.i 0,.u 0,.bool false,.bool false] [] (((K.alloc (.cells #[.u x.pc,.slice D.ax x.x.length D.cx,.i x.pr,.slice D.ac x.cs.length D.cc,.slice D.ar x.ram.length D.cr,.u x.d.t,.u x.d.cm,.bool x.d.so,.slice D.ai x.d.xs.length D.ci,.slice D.ao x.d.ys.length D.co,.i x.d.ir,.u x.hd,.bool x.hl,.bool x.wt] 28)).alloc (.cells #[.u 0,.slice none 0 0,.i 0,.slice none 0 0,.slice none 0 0,.u 0,.u 0,.bool false,.slice none 0 0,.slice none 0 0,.i 0,.u 0,.bool false,.bool false] 32)).alloc (.cells #[.u x.pc,.slice none 0 0,.i 0,.slice none 0 0,.slice none 0 0,.u 0,.u 0,.bool false,.slice none 0 0,.slice none 0 0,.i 0,.u 0,.bool false,.bool false] 32))):=⟨r0,r1,r2,aZ.nil _ _ _,hB3 _ _ _,Nat.le_refl _,ab,ab⟩;clear r0 r1 r2;generalize ((K.alloc (.cells #[.u x.pc,.slice D.ax x.x.length D.cx,.i x.pr,.slice D.ac x.cs.length D.cc,.slice D.ar x.ram.length D.cr,.u x.d.t,.u x.d.cm,.bool x.d.so,.slice D.ai x.d.xs.length D.ci,.slice D.ao x.d.ys.length D.co,.i x.d.ir,.u x.hd,.bool x.hl,.bool x.wt] 28)).alloc (.cells #[.u 0,.slice none 0 0,.i 0,.slice none 0 0,.slice none 0 0,.u 0,.u 0,.bool false,.slice none 0 0,.slice none 0 0,.i 0,.u 0,.bool false,.bool false] 32)).alloc (.cells #[.u x.pc,.slice none 0 0,.i 0,.slice none 0 0,.slice none 0 0,.u 0,.u 0,.bool false,.slice none 0 0,.slice none 0 0,.i 0,.u 0,.bool false,.bool false] 32)=W0 at *;refine (H1.out _ M0.out.below).mono ?_;rintro e w1 ⟨d,rfl,ow1,hb1⟩;have M1:=ak (M0.out.add (aG (some ⟨d,0,none⟩) x.x.length x.x.length x.x) ow1 hb1);clear ow1 hb1 M0;obtain ⟨s0,s1,s2,s3,s4,s5,s6,s7,s8,s9,t,u,y,z⟩:=aS M1.out.src;obtain ⟨R,S,T,U,V,W,X,Y,Z,p9,p,q,r,s⟩:=aS M1.out.row;obtain ⟨G,H,I,J,w,L,N,O,P,Q,j,l,m,o⟩:=dM M1.out.row;go_wp2_with fail;have M2:Hid (Mx K K.heap.size (K.heap.size+1) (K.heap.size+1+1) 28 32 #[.u x.pc,.slice D.ax x.x.length D.cx,.i x.pr,.slice D.ac x.cs.length D.cc,.slice D.ar x.ram.length D.cr,.u x.d.t,.u x.d.cm,.bool x.d.so,.slice D.ai x.d.xs.length D.ci,.slice D.ao x.d.ys.length D.co,.i x.d.ir,.u x.hd,.bool x.hl,.bool x.wt] #[.u 0,.slice none 0 0,.i 0,.slice none 0 0,.slice none 0 0,.u 0,.u 0,.bool false,.slice none 0 0,.slice none 0 0,.i 0,.u 0,.bool false,.bool false] #[.u x.pc,.slice (some ⟨d,0,none⟩) x.x.length x.x.length,.i x.pr,.slice none 0 0,.slice none 0 0,.u 0,.u 0,.bool false,.slice none 0 0,.slice none 0 0,.i 0,.u 0,.bool false,.bool false] [aG (some ⟨d,0,none⟩) x.x.length x.x.length x.x] ((w1.setCell ⟨(K.heap.size+1+1),1,none⟩ (.slice (some ⟨d,0,none⟩) x.x.length x.x.length)).setCell ⟨(K.heap.size+1+1),2,none⟩ (.i x.pr))):=(M1.out.put 1 _).put 2 _;clear s0 R G s1 S H s2 T I s3 U J s4 V w s5 W L s6 X N s7 Y O s8 Z P s9 p9 Q t p j u q l y r m z s o;clear M1;generalize (w1.setCell ⟨K.heap.size+1+1,1,none⟩ (.slice (some ⟨d,0,none⟩) x.x.length x.x.length)).setCell ⟨K.heap.size+1+1,2,none⟩ (.i x.pr)=W1 at *;refine (H2.out _ M2.out.below).mono ?_;rintro e w2 ⟨f,rfl,ow2,hb2⟩;have M3:=ak (M2.out.add (aG (some ⟨f,0,none⟩) x.cs.length x.cs.length x.cs) ow2 hb2);clear ow2 hb2 M2;obtain ⟨s0,s1,s2,s3,s4,s5,s6,s7,s8,s9,t,u,y,z⟩:=aS M3.out.src;obtain ⟨R,S,T,U,V,W,X,Y,Z,p9,p,q,r,s⟩:=aS M3.out.row;obtain ⟨G,H,I,J,w,L,N,O,P,Q,j,l,m,o⟩:=dM M3.out.row;go_wp2_with fail;have M4:Hid (Mx K K.heap.size (K.heap.size+1) (K.heap.size+1+1) 28 32 #[.u x.pc,.slice D.ax x.x.length D.cx,.i x.pr,.slice D.ac x.cs.length D.cc,.slice D.ar x.ram.length D.cr,.u x.d.t,.u x.d.cm,.bool x.d.so,.slice D.ai x.d.xs.length D.ci,.slice D.ao x.d.ys.length D.co,.i x.d.ir,.u x.hd,.bool x.hl,.bool x.wt] #[.u 0,.slice none 0 0,.i 0,.slice none 0 0,.slice none 0 0,.u 0,.u 0,.bool false,.slice none 0 0,.slice none 0 0,.i 0,.u 0,.bool false,.bool false] #[.u x.pc,.slice (some ⟨d,0,none⟩) x.x.length x.x.length,.i x.pr,.slice (some ⟨f,0,none⟩) x.cs.length x.cs.length,.slice none 0 0,.u 0,.u 0,.bool false,.slice none 0 0,.slice none 0 0,.i 0,.u 0,.bool false,.bool false] [aG (some ⟨d,0,none⟩) x.x.length x.x.length x.x,aG (some ⟨f,0,none⟩) x.cs.length x.cs.length x.cs] (w2.setCell ⟨(K.heap.size+1+1),3,none⟩ (.slice (some ⟨f,0,none⟩) x.cs.length x.cs.length))):=M3.out.put 3 _;clear s0 R G s1 S H s2 T I s3 U J s4 V w s5 W L s6 X N s7 Y O s8 Z P s9 p9 Q t p j u q l y r m z s o;clear M3;generalize w2.setCell ⟨K.heap.size+1+1,3,none⟩ (.slice (some ⟨f,0,none⟩) x.cs.length x.cs.length)=W2 at *;refine (H3.out _ M4.out.below).mono ?_;rintro e w3 ⟨B,rfl,ow3,hb3⟩;have M5:=ak (M4.out.add (aw (some ⟨B,0,none⟩) x.ram.length x.ram.length x.ram) ow3 hb3);clear ow3 hb3 M4;obtain ⟨s0,s1,s2,s3,s4,s5,s6,s7,s8,s9,t,u,y,z⟩:=aS M5.out.src;obtain ⟨R,S,T,U,V,W,X,Y,Z,p9,p,q,r,s⟩:=aS M5.out.row;obtain ⟨G,H,I,J,w,L,N,O,P,Q,j,l,m,o⟩:=dM M5.out.row;go_wp2_with fail;have M6:Hid (Mx K K.heap.size (K.heap.size+1) (K.heap.size+1+1) 28 32 #[.u x.pc,.slice D.ax x.x.length D.cx,.i x.pr,.slice D.ac x.cs.length D.cc,.slice D.ar x.ram.length D.cr,.u x.d.t,.u x.d.cm,.bool x.d.so,.slice D.ai x.d.xs.length D.ci,.slice D.ao x.d.ys.length D.co,.i x.d.ir,.u x.hd,.bool x.hl,.bool x.wt] #[.u 0,.slice none 0 0,.i 0,.slice none 0 0,.slice none 0 0,.u 0,.u 0,.bool false,.slice none 0 0,.slice none 0 0,.i 0,.u 0,.bool false,.bool false] #[.u x.pc,.slice (some ⟨d,0,none⟩) x.x.length x.x.length,.i x.pr,.slice (some ⟨f,0,none⟩) x.cs.length x.cs.length,.slice (some ⟨B,0,none⟩) x.ram.length x.ram.length,.u 0,.u 0,.bool false,.slice none 0 0,.slice none 0 0,.i 0,.u 0,.bool false,.bool false] [aG (some ⟨d,0,none⟩) x.x.length x.x.length x.x,aG (some ⟨f,0,none⟩) x.cs.length x.cs.length x.cs,aw (some ⟨B,0,none⟩) x.ram.length x.ram.length x.ram] (w3.setCell ⟨(K.heap.size+1+1),4,none⟩ (.slice (some ⟨B,0,none⟩) x.ram.length x.ram.length))):=M5.out.put 4 _;clear s0 R G s1 S H s2 T I s3 U J s4 V w s5 W L s6 X N s7 Y O s8 Z P s9 p9 Q t p j u q l y r m z s o;clear M5;generalize w3.setCell ⟨K.heap.size+1+1,4,none⟩ (.slice (some ⟨B,0,none⟩) x.ram.length x.ram.length)=W3 at *;refine (H4.out _ M6.out.below).mono ?_;rintro e w4 ⟨C,A,rfl,fm4,hb4⟩;have F:=ak (M6.out.add2 (aw (some ⟨C,0,none⟩) x.d.xs.length x.d.xs.length x.d.xs) (aw (some ⟨A,0,none⟩) x.d.ys.length x.d.ys.length x.d.ys) fm4 hb4);clear fm4 hb4 M6;obtain ⟨s0,s1,s2,s3,s4,s5,s6,s7,s8,s9,t,u,y,z⟩:=aS F.out.src;obtain ⟨R,S,T,U,V,W,X,Y,Z,p9,p,q,r,s⟩:=aS F.out.row;obtain ⟨G,H,I,J,w,L,N,O,P,Q,j,l,m,o⟩:=dM F.out.row;obtain ⟨r0,r1,r2,r3,r4,r5,r6,r7,r8,r9,r10,r11,r12,r13⟩:=aS F.out.res;obtain ⟨y0,y1,y2,y3,y4,y5,y6,y7,y8,y9,y10,y11,y12,y13⟩:=dM F.out.res;go_wp2_with fail;have M8:=(((((((((F.out.put 5 (.u x.d.t)).put 6 (.u x.d.cm)).put 7 (.bool x.d.so)).put 8 (.slice (some ⟨C,0,none⟩) x.d.xs.length x.d.xs.length)).put 9 (.slice (some ⟨A,0,none⟩) x.d.ys.length x.d.ys.length)).put 10 (.i x.d.ir)).put 11 (.u x.hd)).put 12 (.bool x.hl)).put 13 (.bool x.wt));have T1:=qX M8.res (.u x.pc) (.slice (some ⟨d,0,none⟩) x.x.length x.x.length) (.i x.pr) (.slice (some ⟨f,0,none⟩) x.cs.length x.cs.length) (.slice (some ⟨B,0,none⟩) x.ram.length x.ram.length) (.u x.d.t) (.u x.d.cm) (.bool x.d.so) (.slice (some ⟨C,0,none⟩) x.d.xs.length x.d.xs.length) (.slice (some ⟨A,0,none⟩) x.d.ys.length x.d.ys.length) (.i x.d.ir) (.u x.hd) (.bool x.hl) (.bool x.wt);exact bodyPost_ret (results_cell_row results12 _ _ _ _ _ _ _ rfl T1 underlying32 rfl uf) rfl ⟨d,f,B,C,A,rfl,(M8.fam.put14 (K.heap.size+1) (.inl ab) (.u x.pc) (.slice (some ⟨d,0,none⟩) x.x.length x.x.length) (.i x.pr) (.slice (some ⟨f,0,none⟩) x.cs.length x.cs.length) (.slice (some ⟨B,0,none⟩) x.ram.length x.ram.length) (.u x.d.t) (.u x.d.cm) (.bool x.d.so) (.slice (some ⟨C,0,none⟩) x.d.xs.length x.d.xs.length) (.slice (some ⟨A,0,none⟩) x.d.ys.length x.d.ys.length) (.i x.d.ir) (.u x.hd) (.bool x.hl) (.bool x.wt)).low ab eh,nS M8.below ab (.u x.pc) (.slice (some ⟨d,0,none⟩) x.x.length x.x.length) (.i x.pr) (.slice (some ⟨f,0,none⟩) x.cs.length x.cs.length) (.slice (some ⟨B,0,none⟩) x.ram.length x.ram.length) (.u x.d.t) (.u x.d.cm) (.bool x.d.so) (.slice (some ⟨C,0,none⟩) x.d.xs.length x.d.xs.length) (.slice (some ⟨A,0,none⟩) x.d.ys.length x.d.ys.length) (.i x.d.ir) (.u x.hd) (.bool x.hl) (.bool x.wt)⟩
theorem pk (f: -1<=z) (g:z<=1048576) (hn:p<=9223372036854775807): CE 40 #[.slice q p y,.i z] K (.i (if (p:Int)<=z then z-p else -1)):=by
 by_cases h:(p:Int)<=z;·have d:decide (z-(p:Int)<0)=false:=a8;rw [if_pos h];clear h;go_enter func40,ntmps40;exact a01
 ·have d:decide (z-(p:Int)<0)=true:=a8;rw [if_neg h];clear h;go_enter func40,ntmps40;exact a01
def Ra (nx a c b no:Nat) (l:Int):Int:=if (nx:Int)+a+c+b+no<=l then l-nx-a-c-b-no else -1
theorem wg (pr:Int) (ac:Option Addr) (a cc:Nat) (ar:Option Addr) (c cr:Nat) (t cm:Int) (I:Bool) (B:Option Addr) (b E:Nat) (C:Option Addr) (no F:Nat) (H hd:Int) (hl wt:Bool) (l:Int) (w:World) (P:0<=l) (K:l<=1048576) (hx:p<=9223372036854775807) (L:a<=9223372036854775807) (hr:c<=9223372036854775807) (M:b<=9223372036854775807) (N:no<=9223372036854775807): CB 10 #[.agg #[.u m,.slice q p y,.i pr,.slice ac a cc,.slice ar c cr,.u t,.u cm,.bool I,.slice B b E,.slice C no F,.i H,.u hd,.bool hl,.bool wt],.i l] w (.i (Ra p a c b no l)):=by
 have j:=λW (_:Bw w W)=>pk q p y l W ab K hx;obtain ⟨s,i⟩:∃ s:Array Value,s=#[.u m,.slice q p y,.i pr,.slice ac a cc,.slice ar c cr,.u t,.u cm,.bool I,.slice B b E,.slice C no F,.i H,.u hd,.bool hl,.bool wt]:=⟨_,rfl⟩;unfold Ra;rw [<- i];refine bf (S:=Bs w [(s,28)]) (args:=[.agg s,.i l]) [(s,28)] func10 (hs:=by subst i;kernel_rfl) ?_;subst i;obtain ⟨n,d⟩:∃ n,n=if (p:Int)<=l then l-p else -1:=⟨_,rfl⟩
 rw [<- d] at j;cases g:decide (n<0) with
 | true=>exact aU (t:=4) (v:=.i (-1)) Bs.eng {cv:=[(8,jX j)],eq:=[(10,af g)]} 99 (Bs.start _ _) λW h=>⟨by rw [if_neg];have:=of_decide_eq_true g;split at d<;>omega,h.2⟩
 | false =>
 have Q:=of_decide_eq_false g;have r:=λW (_:Bw w W)=>pk ac a cc n W ab (by split at d<;>omega) L;obtain ⟨o,pc⟩:∃ o,o=if (a:Int)<=n then n-a else -1:=⟨_,rfl⟩
 rw [<- pc] at r;cases k:decide (o<0) with
 | true=>exact aU (t:=4) (v:=.i (-1)) Bs.eng {cv:=[(8,jX j),(14,jX r)],eq:=[(10,af g),(16,af k)]} 99 (Bs.start _ _) λW h=>⟨by rw [if_neg];have:=of_decide_eq_true k;split at d<;>split at pc<;>omega,h.2⟩
 | false =>
 have R:=of_decide_eq_false k;have x:=λW (_:Bw w W)=>ke ar c cr o W ab (by split at d<;>split at pc<;>omega) hr;obtain ⟨nx,A⟩:∃ nx,nx=if (c:Int)<=o then o-c else -1:=⟨_,rfl⟩
 rw [<- A] at x;cases u:decide (nx<0) with
 | true=>exact aU (t:=4) (v:=.i (-1)) Bs.eng {cv:=[(8,jX j),(14,jX r),(20,jX x)],eq:=[(10,af g),(16,af k),(22,af u)]} 120 (Bs.start _ _) λW h=>⟨by rw [if_neg];have:=of_decide_eq_true u;split at d<;>split at pc<;>split at A<;>omega,h.2⟩
 | false =>
 have T:=of_decide_eq_false u;have G:=λW (_:Bw w W)=>GE t cm I B b E C no F H nx W ab (by split at d<;>split at pc<;>split at A<;>omega) M N;unfold Jh at G;obtain ⟨D,J⟩:∃ D,D=if (b:Int)+no<=nx then nx-b-no else -1:=⟨_,rfl⟩
 rw [<- J] at G;have f:(if (p:Int)+a+c+b+no<=l then l-p-a-c-b-no else -1)=if D<0 then -1 else D:=by split at d<;>split at pc<;>split at A<;>split at J<;>split<;>split<;>omega
 rw [f];cases z:decide (D<0) with
 | true=>exact aU (t:=4) (v:=.i (-1)) Bs.eng {cv:=[(8,jX j),(14,jX r),(20,jX x),(26,eY G)],eq:=[(10,af g),(16,af k),(22,af u),(28,af z)]} 150 (Bs.start _ _) λW h=>⟨by rw [if_pos (of_decide_eq_true z)],h.2⟩
 | false=>exact aU (t:=4) (v:=.i D) Bs.eng {cv:=[(8,jX j),(14,jX r),(20,jX x),(26,eY G)],eq:=[(10,af g),(16,af k),(22,af u),(28,af z)]} 150 (Bs.start _ _) λW h=>⟨by rw [if_neg (of_decide_eq_false z)],h.2⟩
theorem ju (hl:iU x) (hs:tA K x D) (a:tA K x I): CB 14 #[.agg #[.u x.pc,.slice D.ax x.x.length D.cx,.i x.pr,.slice D.ac x.cs.length D.cc,.slice D.ar x.ram.length D.cr,.u x.d.t,.u x.d.cm,.bool x.d.so,.slice D.ai x.d.xs.length D.ci,.slice D.ao x.d.ys.length D.co,.i x.d.ir,.u x.hd,.bool x.hl,.bool x.wt],.agg #[.u x.pc,.slice I.ax x.x.length I.cx,.i x.pr,.slice I.ac x.cs.length I.cc,.slice I.ar x.ram.length I.cr,.u x.d.t,.u x.d.cm,.bool x.d.so,.slice I.ai x.d.xs.length I.ci,.slice I.ao x.d.ys.length I.co,.i x.d.ir,.u x.hd,.bool x.hl,.bool x.wt]] K (.bool true):=by
 have e:∀ z:List Int,decide (z=z)=true:=λz=>decide_eq_true rfl;have b:=λW (k:Bw K W)=>e x.x ▸ pg D.ax I.ax x.x.length x.x.length D.cx I.cx x.x x.x W rfl rfl hl.x hl.x (hs.x.below k) (a.x.below k);have c:=λW (k:Bw K W)=>e x.cs ▸ pg D.ac I.ac x.cs.length x.cs.length D.cc I.cc x.cs x.cs W rfl rfl hl.cs hl.cs (hs.cs.below k) (a.cs.below k);have d:=λW (k:Bw K W)=>e x.ram ▸ nQ D.ar I.ar x.ram.length x.ram.length D.cr I.cr x.ram x.ram W rfl rfl hl.ram hl.ram (hs.ram.below k) (a.ram.below k);have f:=λW (k:Bw K W)=>CR x.d.t x.d.cm x.d.so D.ai I.ai _ D.ci I.ci D.ao I.ao _ D.co I.co x.d.ir x.d.xs x.d.ys W rfl rfl hl.xs hl.ys (hs.xs.below k) (hs.ys.below k) (a.xs.below k) (a.ys.below k);have n:∀ z:Int,(z != z)=false:=λz=>bc
 have m:∀ z:Bool,(z != z)=false:=λz=>bc
 refine bf (S:=Bs K [(ap x D,32),(ap x I,32)]) (args:=[.agg (ap x D),.agg (ap x I)]) [(ap x D,32),(ap x I,32)] func14 ?_;exact aU (t:=4) (v:=.bool true) Bs.eng {cv:=[(14,eY b),(25,eY c),(31,eY d),(37,eY f)],eq:=[(9,af (n x.pc)),(20,af (n x.pr)),(43,af (n x.hd)),(48,af (m x.hl)),(53,af (m x.wt))]} 300 (Bs.start _ _) λW h=>⟨rfl,h.2⟩
structure eO (L:List FRow) (w w':World):Prop where
 os:w'.os=w.os
 tape:w'.tape=w.tape
 output:w'.output=w.output
 size:w.heap.size<=w'.heap.size
 block:∀ k,k<w.heap.size->(∀ q ∈ L,q.v.ownBlock≠some k)->w'.heap[k]?=w.heap[k]?
theorem eO.trans (h:eO l w n) (k:eO l n F):eO l w F :=
 ⟨k.os.trans h.os,k.tape.trans h.tape,k.output.trans h.output,Nat.le_trans h.size k.size,λi d e=>(k.block i (Nat.lt_of_lt_of_le d h.size) e).trans (h.block i d e)⟩
theorem eO.of_below {L:List FRow} (h:Bw w n):eO L w n:=⟨h.os,h.tape,h.output,h.size,λk a _=>h.block k a⟩
theorem eO.of_grown {q:FRow} (h:w.grownBy n q.v.ownBlock) (c:q ∈ l):eO l w n :=
 ⟨h.os,h.tape,h.output,h.size,λk a b=>h.block k a (λe=>b q c e.symm)⟩
theorem eO.same {L':List FRow} (h:eO l w n) (hs:∀ q ∈ l,∃ a ∈ L',a.v=q.v):eO L' w n :=
 ⟨h.os,h.tape,h.output,h.size,λk d f=>h.block k d (λq g e=>by obtain ⟨a,b,c⟩:=hs q g;exact f a b (by rw [c];exact e))⟩
theorem eO.keep (h:eO l w n) (a:aZ k S w l):nR k S w n :=
 ⟨h.os,h.tape,h.output,h.size,λB c g=>h.block B c (λq b e=>by have d:=((a.own q b).lt B e).1;have f:=a.hi q b B e;omega)⟩
def ee (A:MA) (nx a c b no:Nat) (x cs ram xs ys:List Int):List FRow:=[aG A.ax nx A.cx x,aG A.ac a A.cc cs,aw A.ar c A.cr ram,aw A.ai b A.ci xs,aw A.ao no A.co ys]
theorem mY (h g no:Nat) (x cs ram xs ys i b a c d:List Int):∀ q ∈ ee D p y h g no x cs ram xs ys,∃ q' ∈ ee D p y h g no i b a c d,q'.v=q.v:=by
 intro q e;simp only [ee,List.mem_cons,List.not_mem_nil,or_false] at e ⊢;rcases e with rfl|rfl|rfl|rfl|rfl;·exact ⟨_,.inl rfl,rfl⟩
 ·exact ⟨_,.inr (.inl rfl),rfl⟩
 ·exact ⟨_,.inr (.inr (.inl rfl)),rfl⟩
 ·exact ⟨_,.inr (.inr (.inr (.inl rfl))),rfl⟩
 ·exact ⟨_,.inr (.inr (.inr (.inr rfl))),rfl⟩
theorem aZ.markL {L1 L2:List FRow} {r:FRow} (h:aZ k S w (L1++r::L2)) (a:w.grownBy n r.v.ownBlock) (xs:List Value) (b:n.ownsRow k r.t 1 r.v r.n xs):aZ k S n (L1++⟨r.t,r.v,r.n,xs⟩::L2)/\eO (L1++r::L2) w n :=
 ⟨(h.mark a xs b).1,eO.of_grown a bc⟩
theorem Jt (L:List FRow) (t cm:Int) (U:Bool) (d:Option Addr) (b g:Nat) (f:Option Addr) (c j:Nat) (S k:Int) (xs ys:List Int) (B E:Nat) (w:World) (A:b<=1048576) (C:c<=1048576) (z:0<=k) (O:k<=4294967296) (R:E<=w.heap.size) (N:aZ B E w (L++[aw d b g xs,aw f c j ys])):Calls prog 57 #[.agg #[.u t,.u cm,.bool U,.slice d b g,.slice f c j,.i S],.i k] w λe l=>e=.returned (.i (k+b+c))/\aZ B E l (L++[aw d b g (dC k b),aw f c j (dC (k+b) c)])/\eO (L++[aw d b g xs,aw f c j ys]) w l:=by
 have Q:∀ o,Bw w (w.alloc o):=λo=>(Below.refl _ _).alloc (Nat.le_refl _) o;have sO:∀ q ∈ L++[aw d b g (dC k b),aw f c j ys],∃ q' ∈ L++[aw d b g xs,aw f c j ys],q'.v=q.v:=by
  intro q P;rcases List.mem_append.1 P with h|h;·exact ⟨q,List.mem_append_left _ h,rfl⟩
  ·simp only [List.mem_cons,List.not_mem_nil,or_false] at h;rcases h with rfl|rfl;·exact ⟨_,List.mem_append_right _ (List.mem_cons_self ..),rfl⟩
   ·exact ⟨_,List.mem_append_right _ (List.mem_cons_of_mem _ (List.mem_cons_self ..)),rfl⟩
 have H:Hid (∀ o,Calls prog 56 #[.slice d b g,.i k] (w.alloc o) λe l=>e=.returned (.i (k+b))/\(aZ B E l (L++[aw d b g (dC k b),aw f c j ys])/\eO (L++[aw d b g xs,aw f c j ys]) (w.alloc o) l)):=λo=>by have m:=N.below (Q o);refine (mg d b g B k xs (w.alloc o) A z ab (m.own (aw d b g xs) bc)).mono λe l h=>⟨h.1,?_⟩;exact aZ.markL (L1:=L) (L2:=[aw f c j ys]) (r:=aw d b g xs) m h.2.2 _ h.2.1
 have I:Hid (∀ l,aZ B E l (L++[aw d b g (dC k b),aw f c j ys])->Calls prog 56 #[.slice f c j,.i (k+b)] l λe s=>e=.returned (.i (k+b+c))/\(aZ B E s (L++[aw d b g (dC k b),aw f c j (dC (k+b) c)])/\eO (L++[aw d b g xs,aw f c j ys]) l s)):=λl m=>by refine (mg f c j B (k+b) ys l C ab ab (m.own (aw f c j ys) bc)).mono λe s h=>⟨h.1,?_⟩;have X:aZ B E l ((L++[aw d b g (dC k b)])++aw f c j ys::[]):=(by rw [List.append_assoc];exact m);have M:=aZ.markL (L1:=L++[aw d b g (dC k b)]) (L2:=[]) (r:=aw f c j ys) X h.2.2 _ h.2.1;rw [List.append_assoc,List.append_assoc] at M;exact ⟨M.1,M.2.same sO⟩
 have V:Hid (E<=w.heap.size):=R;have W:=ak N;clear N z O A C R sO;generalize k+(b:Int)+(c:Int)=k2 at *;generalize k+(b:Int)=k1 at *;go_enter func57,ntmps57;go_wp2_with fail;refine (H.out _).mono ?_;rintro e Y ⟨rfl,u,p⟩;have T:Y.heap[w.heap.size]?=some (.cells #[.u t,.u cm,.bool U,.slice d b g,.slice f c j,.i S] 30 (0,0)):=(p.block w.heap.size bc (λq P e=>by have Z:=W.out.hi q P _ e;have:=V.out;omega)).trans (heap_alloc_new w _);obtain ⟨p0,p1,p2,p3,p4,p5⟩:=aH T;have F:=ak u;have J:=ak ((eO.of_below (L:=L++[aw d b g xs,aw f c j ys]) (Q _)).trans p);clear T u p;go_wp2_with fail;refine (I.out _ F.out).mono ?_;rintro e w2 ⟨rfl,y,D⟩;have G:=ak y;have K:=ak (J.out.trans D);clear y D;go_wp2_with fail;go_ret;exact ⟨rfl,G.out,K.out⟩
theorem nF (hl:iU x) (hk0:0<=e) (hk1:e<=1073741824) (hE:y<=K.heap.size) (hf:aZ p y K (ee D x.x.length x.cs.length x.ram.length x.d.xs.length x.d.ys.length x.x x.cs x.ram x.d.xs x.d.ys)): Calls prog 15 #[.agg #[.u x.pc,.slice D.ax x.x.length D.cx,.i x.pr,.slice D.ac x.cs.length D.cc,.slice D.ar x.ram.length D.cr,.u x.d.t,.u x.d.cm,.bool x.d.so,.slice D.ai x.d.xs.length D.ci,.slice D.ao x.d.ys.length D.co,.i x.d.ir,.u x.hd,.bool x.hl,.bool x.wt],.i e] K λk c=>k=.returned (.i (e+x.x.length+x.cs.length+x.ram.length+x.d.xs.length+x.d.ys.length))/\aZ p y c (ee D x.x.length x.cs.length x.ram.length x.d.xs.length x.d.ys.length (bE e x.x.length) (bE (e+x.x.length) x.cs.length) (dC (e+x.x.length+x.cs.length) x.ram.length) (dC (e+x.x.length+x.cs.length+x.ram.length) x.d.xs.length) (dC (e+x.x.length+x.cs.length+x.ram.length+x.d.xs.length) x.d.ys.length))/\eO (ee D x.x.length x.cs.length x.ram.length x.d.xs.length x.d.ys.length x.x x.cs x.ram x.d.xs x.d.ys) K c:=by
 have Y:Hid (∀ c,aZ p y c (ee D x.x.length x.cs.length x.ram.length x.d.xs.length x.d.ys.length x.x x.cs x.ram x.d.xs x.d.ys)->Calls prog 55 #[.slice D.ax x.x.length D.cx,.i (e)] c λk b=>k=.returned (.i (e+x.x.length))/\(aZ p y b (ee D x.x.length x.cs.length x.ram.length x.d.xs.length x.d.ys.length (bE e x.x.length) x.cs x.ram x.d.xs x.d.ys)/\eO (ee D x.x.length x.cs.length x.ram.length x.d.xs.length x.d.ys.length x.x x.cs x.ram x.d.xs x.d.ys) c b)):=λc d=>by refine (nD D.ax x.x.length D.cx p (e) x.x c hl.x ab d9 (d.own (aG D.ax x.x.length D.cx x.x) (by simp [ee]))).mono λk b h=>⟨h.1,?_⟩;have m:=aZ.markL (L1:=[]) (L2:=[aG D.ac x.cs.length D.cc x.cs,aw D.ar x.ram.length D.cr x.ram,aw D.ai x.d.xs.length D.ci x.d.xs,aw D.ao x.d.ys.length D.co x.d.ys]) (r:=aG D.ax x.x.length D.cx x.x) d h.2.2 _ h.2.1;exact ⟨m.1,m.2.same (mY D _ _ _ _ _ x.x x.cs x.ram x.d.xs x.d.ys x.x x.cs x.ram x.d.xs x.d.ys)⟩
 have Z:Hid (∀ c,aZ p y c (ee D x.x.length x.cs.length x.ram.length x.d.xs.length x.d.ys.length (bE e x.x.length) x.cs x.ram x.d.xs x.d.ys)->Calls prog 55 #[.slice D.ac x.cs.length D.cc,.i (e+x.x.length)] c λk b=>k=.returned (.i (e+x.x.length+x.cs.length))/\(aZ p y b (ee D x.x.length x.cs.length x.ram.length x.d.xs.length x.d.ys.length (bE e x.x.length) (bE (e+x.x.length) x.cs.length) x.ram x.d.xs x.d.ys)/\eO (ee D x.x.length x.cs.length x.ram.length x.d.xs.length x.d.ys.length x.x x.cs x.ram x.d.xs x.d.ys) c b)):=λc d=>by refine (nD D.ac x.cs.length D.cc p (e+x.x.length) x.cs c hl.cs ab d9 (d.own (aG D.ac x.cs.length D.cc x.cs) (by simp [ee]))).mono λk b h=>⟨h.1,?_⟩;have m:=aZ.markL (L1:=[aG D.ax x.x.length D.cx (bE e x.x.length)]) (L2:=[aw D.ar x.ram.length D.cr x.ram,aw D.ai x.d.xs.length D.ci x.d.xs,aw D.ao x.d.ys.length D.co x.d.ys]) (r:=aG D.ac x.cs.length D.cc x.cs) d h.2.2 _ h.2.1;exact ⟨m.1,m.2.same (mY D _ _ _ _ _ (bE e x.x.length) x.cs x.ram x.d.xs x.d.ys x.x x.cs x.ram x.d.xs x.d.ys)⟩
 have HM2:Hid (∀ c,aZ p y c (ee D x.x.length x.cs.length x.ram.length x.d.xs.length x.d.ys.length (bE e x.x.length) (bE (e+x.x.length) x.cs.length) x.ram x.d.xs x.d.ys)->Calls prog 56 #[.slice D.ar x.ram.length D.cr,.i (e+x.x.length+x.cs.length)] c λk b=>k=.returned (.i (e+x.x.length+x.cs.length+x.ram.length))/\(aZ p y b (ee D x.x.length x.cs.length x.ram.length x.d.xs.length x.d.ys.length (bE e x.x.length) (bE (e+x.x.length) x.cs.length) (dC (e+x.x.length+x.cs.length) x.ram.length) x.d.xs x.d.ys)/\eO (ee D x.x.length x.cs.length x.ram.length x.d.xs.length x.d.ys.length x.x x.cs x.ram x.d.xs x.d.ys) c b)):=λc d=>by refine (mg D.ar x.ram.length D.cr p (e+x.x.length+x.cs.length) x.ram c hl.ram ab d9 (d.own (aw D.ar x.ram.length D.cr x.ram) (by simp [ee]))).mono λk b h=>⟨h.1,?_⟩;have m:=aZ.markL (L1:=[aG D.ax x.x.length D.cx (bE e x.x.length),aG D.ac x.cs.length D.cc (bE (e+x.x.length) x.cs.length)]) (L2:=[aw D.ai x.d.xs.length D.ci x.d.xs,aw D.ao x.d.ys.length D.co x.d.ys]) (r:=aw D.ar x.ram.length D.cr x.ram) d h.2.2 _ h.2.1;exact ⟨m.1,m.2.same (mY D _ _ _ _ _ (bE e x.x.length) (bE (e+x.x.length) x.cs.length) x.ram x.d.xs x.d.ys x.x x.cs x.ram x.d.xs x.d.ys)⟩
 have HM3:Hid (∀ c,y<=c.heap.size->aZ p y c (ee D x.x.length x.cs.length x.ram.length x.d.xs.length x.d.ys.length (bE e x.x.length) (bE (e+x.x.length) x.cs.length) (dC (e+x.x.length+x.cs.length) x.ram.length) x.d.xs x.d.ys)->Calls prog 57 #[.agg #[.u x.d.t,.u x.d.cm,.bool x.d.so,.slice D.ai x.d.xs.length D.ci,.slice D.ao x.d.ys.length D.co,.i x.d.ir],.i (e+x.x.length+x.cs.length+x.ram.length)] c λk b=>k=.returned (.i (e+x.x.length+x.cs.length+x.ram.length+x.d.xs.length+x.d.ys.length))/\(aZ p y b (ee D x.x.length x.cs.length x.ram.length x.d.xs.length x.d.ys.length (bE e x.x.length) (bE (e+x.x.length) x.cs.length) (dC (e+x.x.length+x.cs.length) x.ram.length) (dC (e+x.x.length+x.cs.length+x.ram.length) x.d.xs.length) (dC (e+x.x.length+x.cs.length+x.ram.length+x.d.xs.length) x.d.ys.length))/\eO (ee D x.x.length x.cs.length x.ram.length x.d.xs.length x.d.ys.length x.x x.cs x.ram x.d.xs x.d.ys) c b)):=λc hE' d=>by refine (Jt [aG D.ax x.x.length D.cx (bE e x.x.length),aG D.ac x.cs.length D.cc (bE (e+x.x.length) x.cs.length),aw D.ar x.ram.length D.cr (dC (e+x.x.length+x.cs.length) x.ram.length)] x.d.t x.d.cm x.d.so D.ai x.d.xs.length D.ci D.ao x.d.ys.length D.co x.d.ir (e+x.x.length+x.cs.length+x.ram.length) x.d.xs x.d.ys p y c hl.xs hl.ys ab d9 hE' d).mono λk b h=>⟨h.1,h.2.1,?_⟩;exact h.2.2.same (mY D _ _ _ _ _ (bE e x.x.length) (bE (e+x.x.length) x.cs.length) (dC (e+x.x.length+x.cs.length) x.ram.length) x.d.xs x.d.ys x.x x.cs x.ram x.d.xs x.d.ys)
 have hB:∀ o,Bw K (K.alloc o):=λo=>(Below.refl _ _).alloc (Nat.le_refl _) o;have HE:Hid (y<=K.heap.size):=hE;have HF:Hid (∀ o,aZ p y (K.alloc o) (ee D x.x.length x.cs.length x.ram.length x.d.xs.length x.d.ys.length x.x x.cs x.ram x.d.xs x.d.ys)):=λo=>hf.below (hB o);have X:Hid (∀ W W',eO (ee D x.x.length x.cs.length x.ram.length x.d.xs.length x.d.ys.length x.x x.cs x.ram x.d.xs x.d.ys) W W'->K.heap.size<W.heap.size->W'.heap[K.heap.size]?=W.heap[K.heap.size]?):=λW W' hk hw=>hk.block _ hw (λq hq k=>by have h1:=hf.hi q hq _ k;omega);clear hf hk0 hk1 hl hE;generalize hL:ee D x.x.length x.cs.length x.ram.length x.d.xs.length x.d.ys.length x.x x.cs x.ram x.d.xs x.d.ys=L0 at *;generalize ee D x.x.length x.cs.length x.ram.length x.d.xs.length x.d.ys.length (bE e x.x.length) x.cs x.ram x.d.xs x.d.ys=L1 at *;generalize ee D x.x.length x.cs.length x.ram.length x.d.xs.length x.d.ys.length (bE e x.x.length) (bE (e+x.x.length) x.cs.length) x.ram x.d.xs x.d.ys=L2 at *;generalize ee D x.x.length x.cs.length x.ram.length x.d.xs.length x.d.ys.length (bE e x.x.length) (bE (e+x.x.length) x.cs.length) (dC (e+x.x.length+x.cs.length) x.ram.length) x.d.xs x.d.ys=L3 at *;generalize ee D x.x.length x.cs.length x.ram.length x.d.xs.length x.d.ys.length (bE e x.x.length) (bE (e+x.x.length) x.cs.length) (dC (e+x.x.length+x.cs.length) x.ram.length) (dC (e+x.x.length+x.cs.length+x.ram.length) x.d.xs.length) (dC (e+x.x.length+x.cs.length+x.ram.length+x.d.xs.length) x.d.ys.length)=L5 at *;clear hL;generalize e+(x.x.length:Int)+(x.cs.length:Int)+(x.ram.length:Int)+(x.d.xs.length:Int)+(x.d.ys.length:Int)=k4 at *;generalize e+(x.x.length:Int)+(x.cs.length:Int)+(x.ram.length:Int)=k3 at *;generalize e+(x.x.length:Int)+(x.cs.length:Int)=k2 at *;generalize e+(x.x.length:Int)=k1 at *;go_enter func15,ntmps15;go_wp2_with fail;refine (Y.out _ (HF.out _)).mono ?_;rintro k w1 ⟨rfl,N,B⟩;have R1:=ak ((X.out _ _ B (by rw [World.size_alloc];omega)).trans (heap_alloc_new K _));have KP1:=ak ((eO.of_below (L:=L0) (hB _)).trans B);have S:=ak N;clear N B;obtain ⟨E,z,C,A,F,G,H,I,J,w,f,g,j,l⟩:=aS R1.out;go_wp2_with fail;refine (Z.out _ S.out).mono ?_;rintro k w2 ⟨rfl,O,s⟩;have R2:=ak ((X.out _ _ s (Array.getElem?_eq_some_iff.1 R1.out).1).trans R1.out);have KP2:=ak (KP1.out.trans s);have T:=ak O;clear O s E z C A F G H I J w f g j l;obtain ⟨E,z,C,A,F,G,H,I,J,w,f,g,j,l⟩:=aS R2.out;go_wp2_with fail;refine (HM2.out _ T.out).mono ?_;rintro k w3 ⟨rfl,P,t⟩;have R3:=ak ((X.out _ _ t (Array.getElem?_eq_some_iff.1 R2.out).1).trans R2.out);have u:=ak (KP2.out.trans t);have U:=ak P;clear P t E z C A F G H I J w f g j l;obtain ⟨E,z,C,A,F,G,H,I,J,w,f,g,j,l⟩:=aS R3.out;go_wp2_with fail;refine (HM3.out _ (Nat.le_trans HE.out u.out.size) U.out).mono ?_;rintro k w4 ⟨rfl,Q,R⟩;have KP4:=ak (u.out.trans R);have V:=ak Q;clear Q R E z C A F G H I J w f g j l;go_wp2_with fail;go_ret;exact ⟨rfl,V.out,KP4.out⟩
theorem nG (hl:iU x) (q:0<=e) (r:e<=1073741824) (f:Sl .u64 K D.ax (bE e x.x.length)) (g:Sl .u64 K D.ac (bE (e+x.x.length) x.cs.length)) (j:Sl .u8 K D.ar (dC (e+x.x.length+x.cs.length) x.ram.length)) (l:Sl .u8 K D.ai (dC (e+x.x.length+x.cs.length+x.ram.length) x.d.xs.length)) (m:Sl .u8 K D.ao (dC (e+x.x.length+x.cs.length+x.ram.length+x.d.xs.length) x.d.ys.length)): CB 16 #[.agg #[.u x.pc,.slice D.ax x.x.length D.cx,.i x.pr,.slice D.ac x.cs.length D.cc,.slice D.ar x.ram.length D.cr,.u x.d.t,.u x.d.cm,.bool x.d.so,.slice D.ai x.d.xs.length D.ci,.slice D.ao x.d.ys.length D.co,.i x.d.ir,.u x.hd,.bool x.hl,.bool x.wt],.i e] K (.i (e+x.x.length+x.cs.length+x.ram.length+x.d.xs.length+x.d.ys.length)):=by
 have d:∀ o,Bw K (K.alloc o):=λo=>(Below.refl _ _).alloc (Nat.le_refl _) o;have t:Hid (∀ o,Calls prog 58 #[.slice D.ax x.x.length D.cx,.i (e)] (K.alloc o) λk c=>k=.returned (.i (e+x.x.length))/\c=K.alloc o):=λo=>nE D.ax x.x.length D.cx (e) (K.alloc o) hl.x ab d9 (f.below (d o));have B:decide (e+(x.x.length:Int)<0)=false:=by simp;omega
 have u:Hid (∀ o,Calls prog 58 #[.slice D.ac x.cs.length D.cc,.i (e+x.x.length)] (K.alloc o) λk c=>k=.returned (.i (e+x.x.length+x.cs.length))/\c=K.alloc o):=λo=>nE D.ac x.cs.length D.cc (e+x.x.length) (K.alloc o) hl.cs ab d9 (g.below (d o));have C:decide (e+(x.x.length:Int)+(x.cs.length:Int)<0)=false:=by simp;omega
 have y:Hid (∀ o,Calls prog 59 #[.slice D.ar x.ram.length D.cr,.i (e+x.x.length+x.cs.length)] (K.alloc o) λk c=>k=.returned (.i (e+x.x.length+x.cs.length+x.ram.length))/\c=K.alloc o):=λo=>mh D.ar x.ram.length D.cr (e+x.x.length+x.cs.length) (K.alloc o) hl.ram ab d9 (j.below (d o));have A:decide (e+(x.x.length:Int)+(x.cs.length:Int)+(x.ram.length:Int)<0)=false:=by simp;omega
 have z:Hid (∀ o,CB 60 #[.agg #[.u x.d.t,.u x.d.cm,.bool x.d.so,.slice D.ai x.d.xs.length D.ci,.slice D.ao x.d.ys.length D.co,.i x.d.ir],.i (e+x.x.length+x.cs.length+x.ram.length)] (K.alloc o) (.i (e+x.x.length+x.cs.length+x.ram.length+x.d.xs.length+x.d.ys.length))):=λo=>An x.d.t x.d.cm x.d.so D.ai x.d.xs.length D.ci D.ao x.d.ys.length D.co x.d.ir (e+x.x.length+x.cs.length+x.ram.length) (K.alloc o) hl.xs hl.ys ab d9 (l.below (d o)) (m.below (d o));have E:decide (e+(x.x.length:Int)+(x.cs.length:Int)+(x.ram.length:Int)+(x.d.xs.length:Int)+(x.d.ys.length:Int)<0)=false:=by simp;omega
 clear f g j l m q r hl;generalize e+(x.x.length:Int)+(x.cs.length:Int)+(x.ram.length:Int)+(x.d.xs.length:Int)+(x.d.ys.length:Int)=I at *;generalize e+(x.x.length:Int)+(x.cs.length:Int)+(x.ram.length:Int)=H at *;generalize e+(x.x.length:Int)+(x.cs.length:Int)=G at *;generalize e+(x.x.length:Int)=F at *;go_enter func16,ntmps16;go_wp2_with fail;refine (t.out _).mono ?_;rintro k s ⟨rfl,b⟩;subst b;go_wp2_with fail;refine (u.out _).mono ?_;rintro k s ⟨rfl,b⟩;subst b;go_wp2_with fail;refine (y.out _).mono ?_;rintro k s ⟨rfl,b⟩;subst b;go_wp2_with fail;refine (z.out _).mono ?_;rintro k s ⟨rfl,p⟩;go_wp2_with fail;go_ret;exact ⟨rfl,aa (d _) p⟩
structure Rb (w:World) (M:MV) (A:MA):Prop where
 sl:tA w M A
 wx:∀ y ∈ M.x,(Lit.int .u64 y).wf=true
 wcs:∀ y ∈ M.cs,(Lit.int .u64 y).wf=true
 wram:∀ y ∈ M.ram,(Lit.int .u8 y).wf=true
 wxs:∀ y ∈ M.d.xs,(Lit.int .u8 y).wf=true
 wys:∀ y ∈ M.d.ys,(Lit.int .u8 y).wf=true
 lx:M.x.length<=9223372036854775807
 lcs:M.cs.length<=9223372036854775807
 lram:M.ram.length<=9223372036854775807
 lxs:M.d.xs.length<=9223372036854775807
 lys:M.d.ys.length<=9223372036854775807
 pc:(Lit.int .u64 M.pc).wf=true
 pr:(Lit.int .i64 M.pr).wf=true
 t:(Lit.int .u64 M.d.t).wf=true
 cm:(Lit.int .u64 M.d.cm).wf=true
 ir:(Lit.int .i64 M.d.ir).wf=true
 hd:(Lit.int .u64 M.hd).wf=true
theorem Aq {zs:List Int} (h:∀ y ∈ zs,(Lit.int .u64 y).wf=true) (k:Nat):0<=zs.getD k 0/\zs.getD k 0<18446744073709551616:=by
 by_cases b:k<zs.length;·have a:=CO (h (zs.getD k 0) (by simp [List.getD,List.getElem?_eq_getElem b]));exact ⟨a.1,by have:=a.2;omega⟩
 ·simp [List.getD,List.getElem?_eq_none (Nat.le_of_not_lt b)]
theorem aZ.rsl {A:MA} {nx c b no:Nat} {x cs ram xs ys:List Int} (h:aZ k S w (ee A nx a c b no x cs ram xs ys)):Sl .u64 w A.ax x/\Sl .u64 w A.ac cs/\Sl .u8 w A.ar ram/\Sl .u8 w A.ai xs/\Sl .u8 w A.ao ys :=
 ⟨gj (h.own (aG A.ax nx A.cx x) (by simp [ee])),gj (h.own (aG A.ac a A.cc cs) (by simp [ee])),gj (h.own (aw A.ar c A.cr ram) (by simp [ee])),gj (h.own (aw A.ai b A.ci xs) (by simp [ee])),gj (h.own (aw A.ao no A.co ys) (by simp [ee]))⟩
def gH (w:World):List Rw->Prop
 | []=>True
 | r::R=>pi r w/\gH w R
theorem pE {w:World} {r:Rw}:∀ {R:List Rw},gH w R->r ∈ R->pi r w
 | [],_,h=>kd
 | _::R,h,a=>by
   rcases List.mem_cons.1 a with rfl|a
   ·exact h.1
   ·exact pE h.2 a
theorem xi (a:gH w Q):oM b (λx=>x=w) (λx=>x=w) Q false (bodyPost b W L):=⟨λ_ h=>h,λfn h r P=>by subst h;exact pE a P,(λh=>kd),cL⟩
theorem PH {listed:Array Bool} {x:Oper × List KI × Bool} (h:Ae t (.sw G k listed::c)=some x):x.2.2=false:=by
 cases k with
 | zero=>cases h
 | succ k =>
   simp only [Ae] at h;repeat (split at h<;>try cases h)
   all_goals rfl
theorem eB {n:List KI} (u:gH w R) (H:Hn b (λx=>x=w) (λx=>x=w)) (m:Nat) {f:Nat} {args:Array Value} {Rc:Ending->World->Prop} (y:Calls b f args w Rc) (h:∀ e a,Rc e a->∃ v F,e=.returned v/\Wg b B (bodyPost b W L) k (nZ (aY b R H k false m n t).1.2.2 (aY b R H k false m n t).1.2.1) (pP (aY b R H k false m n t).1.2.2 (aY b R H k false m n t).1.2.1 v F) a) (hx:(iu n,(aY b R H k false m n t).1.1,iu (aY b R H k false m n t).1.2.1,I8 b k (aY b R H k false m n t).1.2.2 (aY b R H k false m n t).1.2.1)=(true,false,true,some (f,args)):=by kernel_rfl) (he:(aY b R H k false m n t).2.map Prod.fst=(aY b R H k false m n t).2.map Prod.snd:=by kernel_rfl):Wg b B (bodyPost b W L) k n t w:=by
 simp only [Prod.mk.injEq] at hx
 obtain ⟨j,p,g,q⟩:=hx
 refine aK (λx=>x=w) (hn:=j) (ae (xi u) H m rfl (hret:=p) (he:=he) λa c=>?_)
 subst c
 refine aK B (hn:=g) (ij y (hx:=q) λe a z=>?_)
 obtain ⟨v,F,r,s⟩:=h e a z
 refine ⟨v,F,r,λd=>?_,s⟩
 exact absurd d (by
  have:∀ (n:List KI) (t:Fr),iu n=true->vP t n=false:=by
   intro n t i
   unfold vP Ae
   cases n with
   | nil=>rfl
   | cons x n=>cases x with
     | sq=>cases i
     | sk=>cases i
     | sw all m listed =>
       cases hx:Ae t (.sw all m listed::n) with
       | none=>unfold Ae at hx;simp only [hx]
       | some x =>
         have d:=PH hx
         unfold Ae at hx
         simp only [hx]
         exact d
     | ops all l=>cases l with
       | nil=>rfl
       | cons o l=>cases c:wn all t o with
         | none=>simp only [c]
         | some P=>cases P<;>simp only [c]
     | _=>rfl
  rw [this _ _ g];decide)
theorem jI (g:gH w R) (H:Hn b (λx=>x=w) (λx=>x=w)) (m:Nat) {s:Sem Next} {v:Value} {w':World} (F:Nat) (hr:s.run b w=.ok (.value v) w') (h:Wg b B (bodyPost b W L) k (nZ (aY b R H k false m c t).1.2.2 (aY b R H k false m c t).1.2.1) (pP (aY b R H k false m c t).1.2.2 (aY b R H k false m c t).1.2.1 v F) w') (hx:(iu c,(aY b R H k false m c t).1.1,iu (aY b R H k false m c t).1.2.1,vP (aY b R H k false m c t).1.2.2 (aY b R H k false m c t).1.2.1,EW k (aY b R H k false m c t).1.2.2 (aY b R H k false m c t).1.2.1)=(true,false,true,false,some s):=by kernel_rfl) (he:(aY b R H k false m c t).2.map Prod.fst=(aY b R H k false m c t).2.map Prod.snd:=by kernel_rfl):Wg b B (bodyPost b W L) k c t w:=by simp only [Prod.mk.injEq] at hx;obtain ⟨P,Rs,d,e,f⟩:=hx;refine aK (λx=>x=w) (hn:=P) (ae (xi g) H m rfl (hret:=Rs) (he:=he) λj i=>?_);subst i;exact aK B (hn:=d) (fz F (hx:=f) hr (hS:=λa=>by rw [e] at a;cases a) h)
theorem eQ (g:gH w R) (H:Hn b (λx=>x=w) (λx=>x=w)) (m:Nat) {s:Sem Next} {w':World} (hr:s.run b w=.ok .skip w') (h:Wg b B (bodyPost b W L) k (nZ (aY b R H k false m c t).1.2.2 (aY b R H k false m c t).1.2.1) (pP (aY b R H k false m c t).1.2.2 (aY b R H k false m c t).1.2.1 undef 0) w') (hx:(iu c,(aY b R H k false m c t).1.1,iu (aY b R H k false m c t).1.2.1,vP (aY b R H k false m c t).1.2.2 (aY b R H k false m c t).1.2.1,EW k (aY b R H k false m c t).1.2.2 (aY b R H k false m c t).1.2.1)=(true,false,true,false,some s):=by kernel_rfl) (he:(aY b R H k false m c t).2.map Prod.fst=(aY b R H k false m c t).2.map Prod.snd:=by kernel_rfl):Wg b B (bodyPost b W L) k c t w:=by simp only [Prod.mk.injEq] at hx;obtain ⟨P,Rs,d,e,f⟩:=hx;refine aK (λx=>x=w) (hn:=P) (ae (xi g) H m rfl (hret:=Rs) (he:=he) λj i=>?_);subst i;exact aK B (hn:=d) (bx (hx:=f) hr (hS:=λa=>by rw [e] at a;cases a) h)
theorem jv (P:gH w R) (H:Hn b (λx=>x=w) (λx=>x=w)) (m:Nat) (h:∀ a,bK (aY b R H k false m c t).1.2.2 k a->∃ v,(results W a.tmps).run b w=.ok v w/\L (.returned v) w) (hx:(iu c,(aY b R H k false m c t).1.1)=(true,true):=by kernel_rfl) (he:(aY b R H k false m c t).2.map Prod.fst=(aY b R H k false m c t).2.map Prod.snd:=by kernel_rfl):Wg b B (bodyPost b W L) k c t w:=by simp only [Prod.mk.injEq] at hx;exact aK (λx=>x=w) (hn:=hx.1) (kt (xi P) H m rfl (hv:=hx.2) (he:=he) λe a d Rs=>by subst d;exact h a Rs)
theorem gI {F:Fr} (P:gH w R) (H:Hn b (λx=>x=w) (λx=>x=w)) (m:Nat) {t:Nat} {v:Value} (h:L (.returned v) w) (hx:(iu c,(aY b R H k false m c F).1.1,(lk (aY b R H k false m c F).1.2.2 t).map Prod.fst)=(true,true,some v):=by kernel_rfl) (he:(aY b R H k false m c F).2.map Prod.fst=(aY b R H k false m c F).2.map Prod.snd:=by kernel_rfl) (hr:W.results=#[.tmp t]:=by rfl):Wg b B (bodyPost b W L) k c F w:=by simp only [Prod.mk.injEq] at hx;exact jv P H m (hx:=by rw [hx.1,hx.2.1]) (he:=he) λa Rs=>⟨v,by rw [results_tmp hr,Rs.slot hx.2.2],h⟩
theorem Ju {α:Type} {t:Nat} {x:α}:∀ {F:List (Nat × α)},lk F t=some x->(t,x) ∈ F
 | [],h=>kd
 | (s,y)::F,h=>by
   unfold lk at h
   cases a:Nat.beq s t with
   | true =>
     rw [a] at h
     cases h
     have:s=t:=Nat.eq_of_beq_eq_true a
     simp [this]
   | false=>rw [a] at h;exact List.mem_cons_of_mem _ (Ju h)
theorem bK.less {G:Fr} (h:bK t k C) (hs:G.map (λy=>some y.2.1)=G.map λy=>(lk t y.1).map Prod.fst):bK G k C :=
 ⟨h.size,h.nod,λF x e=>by
  have d:=Ju e
  have:=List.map_inj_left.1 hs (F,x) d
  obtain ⟨y,b,c⟩:=Option.map_eq_some_iff.1 this.symm
  have:=h.at_ F y b
  rw [this,c]⟩
def So:List KI->Bool
 | .code (.loop _)::_=>true
 | _=>false
def Ti:List KI->Go.Code
 | .code (.loop c)::_=>c
 | _=>.skip
def OS:List KI->Act->World->Prop
 | .fin R::_=>R
 | _=>λ_ _=>False
theorem jc {n:List KI} {α:Type} (d:α->Fr) (I:Nat->α->World->Prop) (i:Nat) (g:α) (hl:So n=true) (hF:(d g).map (λy=>some y.2.1)=(d g).map λy=>(lk t y.1).map Prod.fst) (r:I i g w) (round:∀ j x w,I j x w->∀ R:Act->World->Prop,(∀ a e P f,P<j->bK (d f) k a->I P f e->R a e)->Wg b B o k (.code (Ti n)::.fin R::n.tail) (d x) w):Wg b B o k n t w:=λa F=>by
 match n,hl with
 | .code (.loop c)::k',_ =>
   show (Go.Code.loop c).wp b (iS b B o k') a w
   refine wp_loop_ghost (λj a w=>∃ x,bK (d x) k a/\I j x w) i ⟨g,F.less hF,r⟩ λj a w s=>?_
   obtain ⟨x,p,q⟩:=s
   exact round j x w q (λh e=>∃ P,P<j/\∃ x,bK (d x) k h/\I P x e) (λh e P f l m Q=>⟨P,l,f,m,Q⟩) a p
theorem C4 {n:List KI} {dr:World->Prop} (E:oM b B dr Q J o) (H:Hn b B dr) (m:Nat) (hS:dr w) {T:Act->World->Prop} (h:∀ a c,dr c->bK (aY b Q H k J m n t).1.2.2 k a->T a c) (hx:((aY b Q H k J m n t).1.1,OS (aY b Q H k J m n t).1.2.1)=(false,T):=by kernel_rfl) (he:(aY b Q H k J m n t).2.map Prod.fst=(aY b Q H k J m n t).2.map Prod.snd:=by kernel_rfl):Wg b B o k n t w:=by
 simp only [Prod.mk.injEq] at hx;refine ae E H m hS (hret:=hx.1) (he:=he) λc f a e=>?_;have P:=h a c f e;rw [<- hx.2] at P;generalize (aY b Q H k J m n t).1.2.1=d at P;cases d with
 | nil=>cases P
 | cons y d=>cases y with
   | fin g=>exact P
   | _=>cases P
theorem fx (P:gH w R) (H:Hn b (λx=>x=w) (λx=>x=w)) (m:Nat) {T:Act->World->Prop} (h:∀ a,bK (aY b R H k false m c t).1.2.2 k a->T a w) (hx:(iu c,(aY b R H k false m c t).1.1,OS (aY b R H k false m c t).1.2.1)=(true,false,T):=by kernel_rfl) (he:(aY b R H k false m c t).2.map Prod.fst=(aY b R H k false m c t).2.map Prod.snd:=by kernel_rfl):Wg b B (bodyPost b W L) k c t w:=by simp only [Prod.mk.injEq] at hx;exact aK (λx=>x=w) (hn:=hx.1) (C4 (T:=T) (xi P) H m rfl (hx:=by rw [hx.2.1,hx.2.2]) (he:=he) λa e d Rs=>by subst d;exact h a Rs)
theorem aP (a:gH w R) (H:Hn b (λx=>x=w) (λx=>x=w)) (m:Nat) (h:Wg b B (bodyPost b W L) k (aY b R H k false m c t).1.2.1 (aY b R H k false m c t).1.2.2 w) (hx:(iu c,(aY b R H k false m c t).1.1,iu (aY b R H k false m c t).1.2.1)=(true,false,true):=by kernel_rfl) (he:(aY b R H k false m c t).2.map Prod.fst=(aY b R H k false m c t).2.map Prod.snd:=by kernel_rfl):Wg b B (bodyPost b W L) k c t w:=by simp only [Prod.mk.injEq] at hx;exact aK (λx=>x=w) (hn:=hx.1) (ae (xi a) H m rfl (hret:=hx.2.1) (he:=he) λRs P=>by subst P;exact aK B (hn:=hx.2.2) h)
def Dw (w W:World):Prop:=∃ d,W={w with drawn:=w.drawn+d}
theorem Dw.refl:Dw K K:=⟨0,rfl⟩
structure Ez (S:World->Prop) (R:List Rw):Prop where
 rows:∀ w,S w->∀ r ∈ R,pi r w
 drew:∀ w,S w->S w.drew
theorem pX {fn:Func} (a:Ez B Q) (hS:B w):oM P B (Dw w) Q true (bodyPost P fn Rs):=
 ⟨λW h=>by
  obtain ⟨d,rfl⟩:=h
  induction d with
  | zero=>exact hS
  | succ d b=>exact a.drew _ b,a.rows,λ_ W h=>by obtain ⟨d,rfl⟩:=h;exact ⟨d+1,rfl⟩,cL⟩
theorem tC (j:Ez B Q) (hS:B w) (H:Hn b B (Dw w)) (m:Nat) {f:Nat} {args:Array Value} {Rc:World->Ending->World->Prop} (l:∀ n,Dw w n->Calls b f args n (Rc n)) (h:∀ n e a,Dw w n->Rc n e a->∃ v F,e=.returned v/\B a/\Wg b B (bodyPost b W L) k (nZ (aY b Q H k true m c t).1.2.2 (aY b Q H k true m c t).1.2.1) (pP (aY b Q H k true m c t).1.2.2 (aY b Q H k true m c t).1.2.1 v F) a) (hx:((aY b Q H k true m c t).1.1,I8 b k (aY b Q H k true m c t).1.2.2 (aY b Q H k true m c t).1.2.1)=(false,some (f,args)):=by kernel_rfl) (he:(aY b Q H k true m c t).2.map Prod.fst=(aY b Q H k true m c t).2.map Prod.snd:=by kernel_rfl):Wg b B (bodyPost b W L) k c t w :=
 aN (pX j hS) H m (Dw.refl w) l (hx:=hx) (he:=he) λn e a P Rs=>by
  obtain ⟨v,F,d,g,i⟩:=h n e a P Rs
  exact ⟨v,F,d,λ_=>g,i⟩
theorem Ar (P:Ez B Q) (hS:B w) (H:Hn b B (Dw w)) (m:Nat) {s:Sem Next} (f:World->World) (hr:∀ n,Dw w n->s.run b n=.ok .skip (f n)) (h:∀ n,Dw w n->B (f n)/\Wg b B (bodyPost b W L) k (nZ (aY b Q H k true m c t).1.2.2 (aY b Q H k true m c t).1.2.1) (pP (aY b Q H k true m c t).1.2.2 (aY b Q H k true m c t).1.2.1 undef 0) (f n)) (hx:((aY b Q H k true m c t).1.1,EW k (aY b Q H k true m c t).1.2.2 (aY b Q H k true m c t).1.2.1)=(false,some s):=by kernel_rfl) (he:(aY b Q H k true m c t).2.map Prod.fst=(aY b Q H k true m c t).2.map Prod.snd:=by kernel_rfl):Wg b B (bodyPost b W L) k c t w:=by simp only [Prod.mk.injEq] at hx;exact ae (pX P hS) H m (Dw.refl w) (hret:=hx.1) (he:=he) λn a=>bx (hx:=hx.2) (hr n a) (hS:=λ_=>(h n a).1) (h n a).2
theorem OT (P:Ez B Q) (hS:B w) (H:Hn b B (Dw w)) (m:Nat) {s:Sem Next} {v:World->Value} (F:Nat) (f:World->World) (hr:∀ n,Dw w n->s.run b n=.ok (.value (v n)) (f n)) (h:∀ n,Dw w n->B (f n)/\Wg b B (bodyPost b W L) k (nZ (aY b Q H k true m c t).1.2.2 (aY b Q H k true m c t).1.2.1) (pP (aY b Q H k true m c t).1.2.2 (aY b Q H k true m c t).1.2.1 (v n) F) (f n)) (hx:((aY b Q H k true m c t).1.1,EW k (aY b Q H k true m c t).1.2.2 (aY b Q H k true m c t).1.2.1)=(false,some s):=by kernel_rfl) (he:(aY b Q H k true m c t).2.map Prod.fst=(aY b Q H k true m c t).2.map Prod.snd:=by kernel_rfl):Wg b B (bodyPost b W L) k c t w:=by simp only [Prod.mk.injEq] at hx;exact ae (pX P hS) H m (Dw.refl w) (hret:=hx.1) (he:=he) λn a=>fz F (hx:=hx.2) (hr n a) (hS:=λ_=>(h n a).1) (h n a).2
theorem yo (P:Ez B Q) (hS:B w) (H:Hn b B (Dw w)) (m:Nat) (h:∀ n a,Dw w n->bK (aY b Q H k true m c t).1.2.2 k a->∃ v,(results W a.tmps).run b n=.ok v n/\L (.returned v) n) (hx:(aY b Q H k true m c t).1.1=true:=by kernel_rfl) (he:(aY b Q H k true m c t).2.map Prod.fst=(aY b Q H k true m c t).2.map Prod.snd:=by kernel_rfl):Wg b B (bodyPost b W L) k c t w :=
 kt (pX P hS) H m (Dw.refl w) (hv:=hx) (he:=he) h
theorem Dw.below (hb:Below k n w) (h:Dw w F):Below k n F:=by
 obtain ⟨d,rfl⟩:=h;induction d with
 | zero=>exact hb
 | succ d a=>exact a.drew
theorem aD {t ty:TypeId} {old cells:Array Value} (b:w.heap[g]?=some (.cells old t (0,0))) (c:(P.info? ty).map (·.size)=some cells.size) (d:old.size=cells.size) (a:cells.all (·.oneCell')=true): (do Instr.storeAt ty (.p g 0) (.agg cells);pure Next.skip:Sem Next).run P w=.ok .skip (w.setRow g cells):=by have:=run_storeVar_row (P:=P) w g t ty old cells b c d a;simp [Instr.storeAt,Instr.sureAddr,this,Result.andThen]
theorem lT {P:Program} {S:World->Prop} {n:Nat} {fn:Func} {Rs:Ending->World->Prop} {k:List KI} {F:Fr} {w:World} {R:List Rw} (hz:Ez S R) (hS:S w) (H:Hn P S (Dw w)) (m:Nat) {r:Nat} {T:TypeId} {d:TypeDesc} {cs:Array Value} {s p u:Nat} {v1 v2:Value} (v:∀ W,S W->S (W.setRow r cs)) (e:∀ W,S W->∃ old t,old.size=cs.size/\W.heap[r]?=some (.cells old t (0,0))) (C:(P.info? T).map (·.size)=some cs.size) (o:cs.all (·.oneCell')=true) (G:P.underlying T=some d) (hd:(match d with | .struct _ | .array _ _=>true | _=>false)=true) (q:fn.results=#[.tmp s,.cell p T,.tmp u]) (hx:((aY P R H n true m k F).1.1,EW n (aY P R H n true m k F).1.2.2 (aY P R H n true m k F).1.2.1)=(false,some (do Instr.storeAt T (.p r 0) (.agg cs);pure Next.skip))) (he:(aY P R H n true m k F).2.map Prod.fst=(aY P R H n true m k F).2.map Prod.snd) (hy:(λ(y:(Bool × List KI × Fr) × List (Oe × Oe))=>(y.1.1,(lk y.1.2.2 s).map Prod.fst,(lk y.1.2.2 p).map Prod.fst,(lk y.1.2.2 u).map Prod.fst,y.2.map Prod.fst)) (aY P R ({}:Hn P S λV=>∃ W,Dw w W/\Dw (W.setRow r cs) V) n true m (nZ (aY P R H n true m k F).1.2.2 (aY P R H n true m k F).1.2.1) (pP (aY P R H n true m k F).1.2.2 (aY P R H n true m k F).1.2.1 undef 0))=(true,some v1,some (.p r 0),some v2,(aY P R ({}:Hn P S λV=>∃ W,Dw w W/\Dw (W.setRow r cs) V) n true m (nZ (aY P R H n true m k F).1.2.2 (aY P R H n true m k F).1.2.1) (pP (aY P R H n true m k F).1.2.2 (aY P R H n true m k F).1.2.1 undef 0)).2.map Prod.snd)) (h:∀ W V,Dw w W->Dw (W.setRow r cs) V->Rs (.returned (.tuple #[v1,.agg cs,v2])) V):Wg P S (bodyPost P fn Rs) n k F w:=by
 have c:∀ {a b:World},S a->Dw a b->S b:=λ{a b} x l=>(pX (P:=P) (fn:=fn) (Rs:=Rs) hz x).sub _ l;refine Ar hz hS H m (λW=>W.setRow r cs) (λW z=>?_) (hx:=hx) (he:=he) λW z=>?_;·obtain ⟨old,t,x,l⟩:=e W (c hS z);exact aD l C x o
 ·have A:=v W (c hS z);refine ⟨A,?_⟩;simp only [Prod.mk.injEq] at hy;obtain ⟨I,J,K,L,M⟩:=hy;have E:oM P S (λV=>∃ W,Dw w W/\Dw (W.setRow r cs) V) R true (bodyPost P fn Rs):=
   ⟨λV ⟨X,g,i⟩=>c (v X (c hS g)) i,hz.rows,λ_ V ⟨X,g,i⟩=>⟨X,g,by obtain ⟨j,rfl⟩:=i;exact ⟨j+1,rfl⟩⟩,cL⟩
  refine kt E _ m ⟨W,z,Dw.refl _⟩ (hv:=I) (he:=M) λV a D B=>?_;obtain ⟨X,g,i⟩:=D;obtain ⟨old,t,x,l⟩:=e X (c hS g);have f:V.heap[r]?=some (.cells cs t (0,0)):=(by obtain ⟨j,rfl⟩:=i;exact setRow_heap X r old cs t (0,0) l);refine ⟨_,?_,h X V g i⟩;rw [<- B.slot J,<- B.slot L];exact bF q a.tmps V r t cs (0,0) d (B.slot K) f G hd C
theorem lV {v old:Value} (a:w.cell? ⟨k,S,none⟩=some old/\w.frozen? ⟨k,S,none⟩=false) (d:(b.info? T).map (·.size)=some 1) (hv:v.cells=#[v]) (e:v.oneCell'=true:=by rfl): (do Instr.storeAt T (.p k S) v;pure Next.skip:Sem Next).run b w=.ok .skip (w.setCell ⟨k,S,none⟩ v):=by
 obtain ⟨t,g,f⟩:=Option.map_eq_some_iff.1 d;have c:(store ⟨k,S,none⟩ v).run b w=.ok () (w.setCell ⟨k,S,none⟩ v):=by rw [run_store b w _ v _ e];simp [a.1,a.2]
 simp [Instr.storeAt,Instr.sureAddr,storeVar,sizeOf,typeInfo,g,f,hv,storeCells,Addr.add,Result.andThen,c]
theorem aR (h:Below k n w) {g:Nat} (b:k<=g) (cs:Array Value):Below k n (w.setRow g cs):=
 ⟨h.os,h.tape,h.output,by rw [setRow_size];exact h.size,λB a=>(setRow_other w g B cs ab).trans (h.block B a)⟩
theorem yp {P:Program} {fn:Func} {F:Fr} {n:Nat} {a:Act} {p u g:Nat} {T t:TypeId} {d:TypeDesc} {cs:Array Value} {v:Value} {w:World} (hk:bK F n a) (h:fn.results=#[.cell p T,.tmp u]) (e:(lk F p).map Prod.fst=some (.p g 0)) (hv:(lk F u).map Prod.fst=some v) (b:w.heap[g]?=some (.cells cs t (0,0))) (f:P.underlying T=some d) (hd:(match d with | .struct _ | .array _ _=>true | _=>false)=true) (c:(P.info? T).map (·.size)=some cs.size):(results fn a.tmps).run P w=.ok (.tuple #[.agg cs,v]) w:=by rw [results_cell_tmp h,hk.slot e,hk.slot hv];simp [asAddr,run_loadVar_row w g t T cs (0,0) d b f hd c]
theorem hO {P:Program} {S:World->Prop} {n:Nat} {fn:Func} {Rs:Ending->World->Prop} {k:List KI} {F:Fr} {w:World} {R:List Rw} (f:gH w R) (H:Hn P (λx=>x=w) (λx=>x=w)) (m:Nat) {r:Nat} {T t:TypeId} {d:TypeDesc} {old cs:Array Value} {p u:Nat} {v:Value} (hr:w.heap[r]?=some (.cells old t (0,0))) (i:old.size=cs.size) (b:cs.all (·.oneCell')=true) (j:P.underlying T=some d) (h:Rs (.returned (.tuple #[.agg cs,v])) (w.setRow r cs)) (e:(P.info? T).map (·.size)=some cs.size:=by kernel_rfl) (hd:(match d with | .struct _ | .array _ _=>true | _=>false)=true:=by rfl) (c:fn.results=#[.cell p T,.tmp u]:=by rfl) (hx:(λ(y:Bool × List KI × Fr)=>(iu k,y.1,iu y.2.1,vP y.2.2 y.2.1,EW n y.2.2 y.2.1,iu (nZ y.2.2 y.2.1))) (aY P R H n false m k F).1=(true,false,true,false,some (do Instr.storeAt T (.p r 0) (.agg cs);pure Next.skip),true):=by kernel_rfl) (he:(aY P R H n false m k F).2.map Prod.fst=(aY P R H n false m k F).2.map Prod.snd:=by kernel_rfl) (hy:∀ X,(λ(z:(Bool × List KI × Fr) × List (Oe × Oe))=>(z.1.1,(lk z.1.2.2 p).map Prod.fst,(lk z.1.2.2 u).map Prod.fst,z.2.map Prod.fst)) (aY P [] ({}:Hn P (λx=>x=X) (λx=>x=X)) n false m (nZ (aY P R H n false m k F).1.2.2 (aY P R H n false m k F).1.2.1) (pP (aY P R H n false m k F).1.2.2 (aY P R H n false m k F).1.2.1 undef 0))=(true,some (.p r 0),some v,(aY P [] ({}:Hn P (λx=>x=X) (λx=>x=X)) n false m (nZ (aY P R H n false m k F).1.2.2 (aY P R H n false m k F).1.2.1) (pP (aY P R H n false m k F).1.2.2 (aY P R H n false m k F).1.2.1 undef 0)).2.map Prod.snd):=by intro _;kernel_rfl):Wg P S (bodyPost P fn Rs) n k F w:=by simp only [Prod.mk.injEq] at hx hy;obtain ⟨l,o,q,s,A,B⟩:=hx;refine eQ f H m (aD hr e i b) ?_ (hx:=by rw [l,o,q,s,A]) (he:=he);exact jv (R:=[]) trivial {} m (λa g=>⟨_,yp g c (hy _).2.1 (hy _).2.2.1 (setRow_heap _ _ _ _ _ _ hr) j hd e,h⟩) (hx:=by rw [B,(hy _).1]) (he:=(hy _).2.2.2)
theorem cT {z:Value} (h:(P.info? T).bind (·.zero)=some z) (w:World):(do pure (.value (<- Instr.alloc T true (.tuple #[]))):Sem Next).run P w=.ok (.value (.p w.heap.size 0)) (w.alloc (.cells z.cells T)):=by obtain ⟨i,a,b⟩:=Option.bind_eq_some_iff.1 h;simp [Instr.alloc,zeroValue,typeInfo,a,b,newVar,newRow]
theorem eC {dr:World->Prop} (E:oM b B dr Q J (bodyPost b W L)) (H:Hn b B dr) (m:Nat) {n:List KI} {F:Fr} {w:World} {t s:Nat} {v u:Value} (hS:dr w) (h:∀ P,dr P->L (.returned (.tuple #[v,u])) P) (hv:((aY b Q H k J m n F).1.1,(lk (aY b Q H k J m n F).1.2.2 t).map Prod.fst,(lk (aY b Q H k J m n F).1.2.2 s).map Prod.fst)=(true,some v,some u):=by kernel_rfl) (he:(aY b Q H k J m n F).2.map Prod.fst=(aY b Q H k J m n F).2.map Prod.snd:=by kernel_rfl) (hr:W.results=#[.tmp t,.tmp s]:=by rfl):Wg b B (bodyPost b W L) k n F w:=by simp only [Prod.mk.injEq] at hv;exact kt E H m hS (hv:=hv.1) (he:=he) λP a d c=>⟨_,by rw [results_tmp2 hr,c.slot hv.2.1,c.slot hv.2.2],h P d⟩
def R1 (w:World) (g:Nat) (cs:Array Value) (t:TypeId) (W:World):Prop:=W.heap[g]?=some (.cells cs t (0,0))/\Bw w W
theorem R1.below (h:R1 w g E M n) (hb:Bw n F):R1 w g E M F:=⟨aB hb h.1,aa h.2 hb⟩
theorem R1.eng {fn:Func}:oM P (R1 w k E M) (R1 w k E M) [⟨k,E,[]⟩] true (bodyPost P fn Rs):=
 ⟨λ_ h=>h,λW h r a=>by rw [List.mem_singleton.1 a];exact ⟨_,_,h.1⟩,λ_ W h=>h.below (Below.refl _ _).drew,cL⟩
theorem R1.new {cs:Array Value} (hb:Bw w n):R1 w n.heap.size cs M ((n.alloc (.cells E M)).setRow n.heap.size cs):=by exact ⟨setRow_heap _ _ _ _ _ _ (heap_alloc_new _ _),aR (hb.alloc hb.size _) hb.size _⟩
def R2 (w:World) (g:Nat) (cs:Array Value) (t:TypeId) (b:Nat) (a:Array Value) (t':TypeId) (W:World):Prop:=R1 w g cs t W/\W.heap[b]?=some (.cells a t' (0,0))
theorem R2.below (h:R2 w g E M k r f n) (hb:Bw n F):R2 w g E M k r f F:=⟨h.1.below hb,aB hb h.2⟩
theorem R2.eng {fn:Func}:oM P (R2 w k E M S r f) (R2 w k E M S r f) [⟨k,E,[]⟩,⟨S,r,[]⟩] true (bodyPost P fn Rs):=
 ⟨λ_ h=>h,λW h a c=>by rcases List.mem_cons.1 c with rfl | c;exact ⟨_,_,h.1.1⟩;rw [List.mem_singleton.1 c];exact ⟨_,_,h.2⟩,λ_ W h=>h.below (Below.refl _ _).drew,cL⟩
theorem fH {j:Nat} (h:w.heap[k]?=some (.cells E M (0,0))) (v:Value):(w.setCell ⟨k,j,none⟩ v).heap[k]?=some (.cells (E.set! j v) M (0,0)):=by have a:=(Array.getElem?_eq_some_iff.1 h).1;simp only [World.setCell];rw [Array.getElem?_modify];simp [h]
theorem cy {i:Nat} {v:Value} (hr:w.heap[k]?=some (.cells E M (0,0))) (e:i<E.size) (c:(b.info? T).map (·.size)=some 1) (hv:v.cells=#[v]) (f:v.oneCell'=true:=by rfl): (do Instr.storeAt T (.p k i) v;pure Next.skip:Sem Next).run b w=.ok .skip (w.setCell ⟨k,i,none⟩ v):=by
 obtain ⟨M,h,g⟩:=Option.map_eq_some_iff.1 c;have d:w.cell? ⟨k,i,none⟩=some E[i]:=by simp [World.cell?,hr,e]
 have a:(store ⟨k,i,none⟩ v).run b w=.ok () (w.setCell ⟨k,i,none⟩ v):=by rw [run_store b w _ v _ f];simp [d,dh hr i]
 simp [Instr.storeAt,Instr.sureAddr,storeVar,sizeOf,typeInfo,h,g,hv,storeCells,Addr.add,Result.andThen,a]
def iw (r:Rw) (w:World):Prop:=∃ t,w.heap[r.b]?=some (.cells r.cs t (0,0))
structure Ag (bs:List Nat) (w W:World):Prop where
 os:W.os=w.os
 tape:W.tape=w.tape
 output:W.output=w.output
 size:w.heap.size<=W.heap.size
 block:∀ k,k<w.heap.size->k ∉ bs->W.heap[k]?=w.heap[k]?
theorem Ag.refl (bs:List Nat) (w:World):Ag bs w w:=⟨rfl,rfl,rfl,Nat.le_refl _,λ_ _ _=>rfl⟩
theorem Ag.trans (h:Ag A w n) (k:Ag A n F):Ag A w F:=⟨k.os.trans h.os,k.tape.trans h.tape,k.output.trans h.output,Nat.le_trans h.size k.size,λi e d=>(k.block i (Nat.lt_of_lt_of_le e h.size) d).trans (h.block i e d)⟩
theorem Ag.below (h:Ag A w n) (k:Bw n F):Ag A w F:=h.trans ⟨k.os,k.tape,k.output,k.size,λi d _=>k.block i d⟩
theorem Ag.drew (h:Ag A w n):Ag A w n.drew:=⟨h.os,h.tape,h.output,h.size,h.block⟩
theorem yq (a:k ∈ A) (w:World) (i:Nat) (v:Value):Ag A w (w.setCell ⟨k,i,none⟩ v):=⟨rfl,rfl,rfl,bc,λg _ b=>Below.heap_setCell w _ v g (λe=>b (by rw [e];exact a))⟩
def sZ {α:Type} (P:Program):Sem α->Rw->Option (α × Rw × List (Addr × Addr))
 | .pure a,r=>some (a,r,[])
 | .load _ a k,r=>match r.cs[a.off]? with
   | none=>none
   | some v=>match sZ P (k v) r with
     | none=>none
     | some x=>some (x.1,x.2.1,(a,⟨r.b,a.off,none⟩)::x.2.2)
 | .store _ a v k,r=>match v.oneCell' with
   | false=>none
   | true=>match r.cs[a.off]? with
     | none=>none
     | some _=>match sZ P k {r with cs:=r.cs.setIfInBounds a.off v} with
       | none=>none
       | some x=>some (x.1,x.2.1,(a,⟨r.b,a.off,none⟩)::x.2.2)
 | .program k,r=>sZ P (k P) r
 | .mark _ k,r=>sZ P k r
 | _,_=>none
theorem MT {α:Type}:∀ (s:Sem α) (r P:Rw) (x:α) (d:List (Addr × Addr)) (w:World),sZ b s r=some (x,P,d)->(∀ e ∈ d,e.1=e.2)->r.b ∈ bs->iw r w->∃ z,s.run b w=.ok x z/\iw P z/\P.b=r.b/\P.tg=r.tg/\Ag [r.b] w z:=by
 intro s;induction s with
 | pure a =>intro r P x d w h _ _ i;simp only [sZ,Option.some.injEq,Prod.mk.injEq] at h;obtain ⟨rfl,rfl,_⟩:=h;exact ⟨w,rfl,i,rfl,rfl,Ag.refl _ _⟩
 | load m a k l =>
   intro r P x d w h g p i;unfold sZ at h;cases q:r.cs[a.off]? with
   | none=>rw [q] at h;cases h
   | some v =>
     rw [q] at h;dsimp only at h;cases j:sZ b (k v) r with
     | none=>rw [j] at h;cases h
     | some y =>rw [j] at h;simp only [Option.some.injEq,Prod.mk.injEq] at h;obtain ⟨A,B,C⟩:=h;subst C;have o:a=⟨r.b,a.off,none⟩:=g (a,⟨r.b,a.off,none⟩) bc;obtain ⟨t,c⟩:=i;have D:w.cell? a=some v:=(by rw [o];simp only [World.cell?,c];simpa using q);simp only [Sem.run,D];exact l v r P x y.2.2 w (by rw [j,<- A,<- B]) (λe h=>g e (by simp [h])) p ⟨t,c⟩
 | store m a v k l =>
   intro r P x d w h g p i;unfold sZ at h;cases n:v.oneCell' with
   | false=>rw [n] at h;cases h
   | true =>
     rw [n] at h;dsimp only at h;cases q:r.cs[a.off]? with
     | none=>rw [q] at h;cases h
     | some u =>
       rw [q] at h;dsimp only at h;cases j:sZ b k {r with cs:=r.cs.setIfInBounds a.off v} with
       | none=>rw [j] at h;cases h
       | some y =>
         rw [j] at h;simp only [Option.some.injEq,Prod.mk.injEq] at h;obtain ⟨A,B,C⟩:=h;subst C;have o:a=⟨r.b,a.off,none⟩:=g (a,⟨r.b,a.off,none⟩) bc;obtain ⟨t,c⟩:=i;have D:w.cell? a=some u:=(by rw [o];simp only [World.cell?,c];simpa using q);have L:w.frozen? a=false:=(by rw [o];simp [World.frozen?,c]);have f:(w.setCell a v).heap[r.b]?=some (.cells (r.cs.setIfInBounds a.off v) t (0,0)):=(by rw [o];exact bC c a.off v);obtain ⟨z,F,G,I,J,H⟩:=l {r with cs:=r.cs.setIfInBounds a.off v} P x y.2.2 (w.setCell a v) (by rw [j,<- A,<- B]) (λe h=>g e (by simp [h])) p ⟨t,f⟩;refine ⟨z,?_,G,I,J,?_⟩
         ·have E:(Sem.store m a v k).run b w=k.run b (w.setCell a v):=by clear o g l F G H f j;cases v<;>first | (simp only [Sem.run,D,L,Bool.false_eq_true,if_false];done) | (cases n;done)
          rw [E];exact F
         ·have K:Ag [r.b] w (w.setCell a v):=(by rw [o];exact yq bc w _ v);exact K.trans H
 | program k l=>intro r P x d w h g p i;exact l b r P x d w h g p i
 | mark m k l=>intro r P x d w h g p i;exact l r P x d w h g p i
 | new=>intro r P x d w h;cases h
 | shape=>intro r P x d w h;cases h
 | freeze=>intro r P x d w h;cases h
 | frozen=>intro r P x d w h;cases h
 | getObj=>intro r P x d w h;cases h
 | setObj=>intro r P x d w h;cases h
 | choose=>intro r P x d w h;cases h
 | sys=>intro r P x d w h;cases h
 | halt=>intro r P x d w h;cases h
structure Hw (P:Program) (T:World->Prop) where
 eq:List (Nat × Vq):=[]
 ov:List (Nat × Ov P T):=[]
def OU (R:List Rw) (w:World):Prop:=∀ r ∈ R,iw r w
theorem iw.in_ {r:Rw} (h:iw r w):pi r w:=let ⟨t,h⟩:=h;⟨t,_,h⟩
theorem Jv {α a:Type} (f:α->a):∀ (l:List (Nat × α)) (d:Nat),lk (l.map λx=>(x.1,f x.2)) d=(lk l d).map f
 | [],_=>rfl
 | (q,y)::l,d=>by
   simp only [List.map_cons,lk]
   cases Nat.beq q d
   ·exact Jv f l d
   ·rfl
theorem Jw {ov:List (Nat × Ov b B)} {eq:List (Nat × Vq)} {v:Value} {es:List (Oe × Oe)} (hk:bK t k C) (h:Jm b Q ov eq t d=some (v,S,es)) (he:∀ e ∈ es,e.1=e.2) {w:World} (c:B w) (g:∀ r ∈ Q,pi r w): (execOp C.eval d).run b w=.ok (.value v) w:=by
 have f:Jm b Q (ov.map λx=>(x.1,(⟨x.2.s,x.2.v,x.2.t,λW P=>by subst P;exact x.2.h _ c⟩:Ov b λW=>W=w))) eq t d=some (v,S,es):=by
  rw [<- h];unfold Jm;split;·rfl
  ·have i:=λo=>Jv (λy:Ov b B=>(⟨y.s,y.v,y.t,λW P=>by subst P;exact y.h _ c⟩:Ov b λW=>W=w)) ov o;cases j:d.dst with
   | none=>rfl
   | some o =>simp only [Option.bind_some,i];cases lk ov o<;>rfl
 exact (C0 hk f he λW P=>by subst P;exact g).1 w rfl
def xj (P:Program) {T:World->Prop} (R:List Rw) (H:Hw P T) (n:Nat) (all:Array Oper):Nat->Array Bool->Fr->Option (Fr × List (Oe × Oe))
 | m,listed,F=>match Region.ready .any all listed with
   | []=>some (F,[])
   | i::is=>match m with
     | 0=>none
     | m+1=>match pU all listed (i::is) with
       | none=>none
       | some j=>match all[j]? with
         | none=>none
         | some o=>match (match wn all F o with | none=>none | some false=>some (undef,0,[]) | some true=>Jm P R H.ov H.eq F o) with
           | none=>none
           | some (v,t,es)=>match rf n F v t o.dst with
             | none=>none
             | some a=>match xj P R H n all m (listed.setIfInBounds j true) a with
               | none=>none
               | some (F2,es2)=>some (F2,es++es2)
theorem Jy {H:Hw b B} (N:B w) (M:OU Q w) (C:Region.noSelect G=true) (L:∀ c a d v w,o (.panic c) (Act.put a d v) w->o (.panic c) a w):∀ (m:Nat) (listed:Array Bool) (F p:Fr) (q:List (Oe × Oe)) (a:Act),xj b Q H k G m listed F=some (p,q)->(∀ e ∈ q,e.1=e.2)->bK F k a->(∀ n,bK p k n->o .normal n w)->wpAnyH b .any G o (λW=>W=w) m listed a w:=by
 intro m;induction m with
 | zero =>
   intro listed F p q a h x R s;unfold xj at h;cases g:Region.ready .any G listed with
   | nil=>rw [g] at h;cases h;exact wpAnyH_done g (s a R) 0
   | cons i is=>rw [g] at h;cases h
 | succ m V =>
   intro listed F p q a h x R s;unfold xj at h;cases g:Region.ready .any G listed with
   | nil=>rw [g] at h;cases h;exact wpAnyH_done g (s a R) _
   | cons i is =>
     rw [g] at h;dsimp only at h;cases D:pU G listed (i::is) with
     | none=>rw [D] at h;cases h
     | some j =>
       rw [D] at h;dsimp only at h;cases A:G[j]? with
       | none=>rw [A] at h;cases h
       | some all =>
         rw [A] at h;dsimp only at h;split at h;·cases h
         ·rename_i v t J f;cases z:rf k F v t all.dst with
          | none=>rw [z] at h;cases h
          | some I =>
            rw [z] at h;dsimp only at h;cases E:xj b Q H k G m (listed.setIfInBounds j true) I with
            | none=>rw [E] at h;cases h
            | some y =>
              obtain ⟨X,K⟩:=y;rw [E] at h;simp only [Option.some.injEq,Prod.mk.injEq] at h;obtain ⟨rfl,rfl⟩:=h;have l:=nW D;have U:YieldsIf b G (λW=>W=w) all v a:=by
               cases u:wn G F all with
               | none=>rw [u] at f;cases f
               | some P =>
                 rw [u] at f;cases P with
                 | false=>simp only [Option.some.injEq,Prod.mk.injEq] at f;exact .inr ⟨kE R u,f.1.symm⟩
                 | true=>exact .inl ⟨kE R u,λW O=>by subst O;exact Jw R f (λe T=>x e (by simp [T])) N λr g=>(M r g).in_⟩
              exact wpAnyH_take A C l.2 (by rw [g];simpa using l.1) (λc a w S=>L c a _ _ w S) U rfl (V _ _ _ _ _ E (λe T=>x e (by simp [T])) (jW z R) s)
inductive Sv where
 | go (k:List KI) (F:Fr) (R:List Rw) (es:List (Oe × Oe))
 | ret
 | stop
def Sp (P:Program) (R:List Rw) (F:Fr) (o:Oper):Option (List Rw × List (Oe × Oe)):=match o.op with
 | .store _ x _=>match o.op.operands.all (kn F) with
   | false=>none
   | true=>match Jl F x with
     | 0=>none
     | j+1=>match R[j]? with
       | none=>none
       | some r=>match sZ P (execOp (ev F) o) r with
         | some (.skip,r',es)=>some (R.set j r',es.map λe=>(.a e.1,.a e.2))
         | _=>none
 | _=>none
def As (P:Program) {T:World->Prop} (H:Hw P T) (n:Nat) (k:List KI) (F:Fr) (R:List Rw):Sv :=
 match k with
 | .ops _ []::k=>.go k F R []
 | .ops all (o::rest)::k=>match (match wn all F o with | none=>none | some false=>some (undef,0,[]) | some true=>Jm P R H.ov H.eq F o) with
   | some (v,t,a)=>match rf n F v t o.dst with
     | some b=>.go (.ops all rest::k) b R a
     | none=>.stop
   | none=>match wn all F o,o.dst with
     | some true,none=>match Sp P R F o with
       | some (R',a)=>.go (.ops all rest::k) F R' a
       | none=>.stop
     | _,_=>.stop
 | .blk _::k=>.go k F R []
 | .code (.region _ ops true)::k=>match Region.noSelect ops&&P.follows .mixedOrders with
   | true=>match xj P R H n ops ops.size (Array.replicate ops.size false) F with
     | some (b,a)=>.go k b R a
     | none=>.stop
   | false=>.stop
 | .code c::k=>match iT P false k F c with
   | .go d b a=>.go d b R a
   | .ret=>.ret
   | .stop=>.stop
 | _=>.stop
theorem Au {α:Type}:∀ {l:List α} {j:Nat} {x:α},l[j]?=some x->l.set j x=l
 | [],_,_,h=>kd
 | y::l,0,x,h=>by simp at h;simp [h]
 | y::l,j+1,x,h=>by simp only [List.set_cons_succ];rw [Au (l:=l) cp]
structure Iv (bs:List Nat) (w:World) (R:List Rw) (W:World):Prop where
 rows:OU R W
 ag:Ag bs w W
 sub:∀ r ∈ R,r.b ∈ bs
 nd:(R.map Rw.b).Nodup
theorem Iv.below (h:Iv A w Q n) (k:Bw n F):Iv A w Q F :=
 ⟨λr b=>let ⟨t,a⟩:=h.rows r b;⟨t,(k.block r.b (Array.getElem?_eq_some_iff.1 a).1).trans a⟩,h.ag.below k,h.sub,h.nd⟩
theorem PI {L:List Rw} {W:Fr} {a:Act} (hk:bK W k a) (h:Sp b Q W d=some (L,j)) (he:∀ e ∈ j,e.1=e.2) (c:Iv A w Q F):∃ u,(execOp a.eval d).run b F=.ok .skip u/\Iv A w L u:=by
 unfold Sp at h
 split at h
 ·rename_i t x y H
  cases C:d.op.operands.all (kn W) with
  | false=>rw [C] at h;cases h
  | true =>
    rw [C] at h
    dsimp only at h
    have D:execOp a.eval d=execOp (ev W) d:=execOp_congr d (λX P e=>by rw [H] at e;cases e) λx T=>hk.eval (Array.all_eq_true_iff_forall_mem.1 C x T)
    rw [D]
    cases M:Jl W x with
    | zero=>rw [M] at h;cases h
    | succ es =>
      rw [M] at h
      dsimp only at h
      cases p:Q[es]? with
      | none=>rw [p] at h;cases h
      | some r =>
        rw [p] at h
        dsimp only at h
        cases J:sZ b (execOp (ev W) d) r with
        | none=>rw [J] at h;cases h
        | some z =>
          obtain ⟨U,K,bs⟩:=z
          rw [J] at h
          cases U with
          | skip =>
            simp only [Option.some.injEq,Prod.mk.injEq] at h
            obtain ⟨rfl,rfl⟩:=h
            have s:=List.mem_of_getElem? p
            obtain ⟨u,N,O,R,Y,l⟩:=MT (bs:=A) _ r K _ bs F J (λe s=>by have:=he (.a e.1,.a e.2) (List.mem_map.2 ⟨e,s,rfl⟩);simpa using this) (c.sub r s) (c.rows r s)
            have E:es<Q.length:=(List.getElem?_eq_some_iff.1 p).1
            have o:(Q.set es K).map Rw.b=Q.map Rw.b:=by
             rw [List.map_set,R]
             have:(Q.map Rw.b)[es]?=some r.b:=by simp [p]
             exact Au this
            refine ⟨u,N,⟨λq I=>?_,c.ag.trans ⟨l.os,l.tape,l.output,l.size,λn S hk=>l.block n S (by simp only [List.mem_singleton];exact λe=>hk (by rw [e];exact c.sub r s))⟩,λq I=>?_,by rw [o];exact c.nd⟩⟩
            ·obtain ⟨i,m⟩:=List.mem_iff_getElem?.1 I
             by_cases g:i=es
             ·subst g
              rw [List.getElem?_set_self E] at m
              cases m
              exact O
             ·rw [List.getElem?_set_ne (Ne.symm g)] at m
              obtain ⟨t,f⟩:=c.rows q (List.mem_of_getElem? m)
              have G:q.b≠r.b:=λe=>g (by
               have B:(Q.map Rw.b)[i]?=some q.b:=by simp [m]
               have v:(Q.map Rw.b)[es]?=some r.b:=by simp [p]
               rw [<- e] at v
               exact (List.getElem?_inj (by simpa using (List.getElem?_eq_some_iff.1 m).1) c.nd).1 (B.trans v.symm))
              exact ⟨t,(l.block q.b (Array.getElem?_eq_some_iff.1 f).1 (by simpa using G)).trans f⟩
            ·have:q.b ∈ (Q.set es K).map Rw.b:=List.mem_map.2 ⟨q,I,rfl⟩
             rw [o] at this
             obtain ⟨V,B,v⟩:=List.mem_map.1 this
             rw [<- v]
             exact c.sub V B
          | _=>cases h
 ·cases h
theorem Jz {H:Hw b B} (D:∀ W,Ag A w W->B W) (C:∀ c a d v w,o (.panic c) (Act.put a d v) w->o (.panic c) a w) {n G:List KI} {F bs:Fr} {R T:List Rw} {es:List (Oe × Oe)} (h:As b H k n F R=.go G bs T es) (he:∀ e ∈ es,e.1=e.2) (f:∀ a W,bK bs k a->Iv A w T W->iS b (λ_=>True) o G .normal a W) (a:Act) (W:World) (hk:bK F k a) (i:Iv A w R W):iS b (λ_=>True) o n .normal a W:=by
 unfold As at h;split at h;·cases h;exact f a W hk i
 ·rename_i all Q rest I;show wpList b all _ (Q::rest) a W;split at h
  ·rename_i v t m g;split at h
   ·rename_i L E;simp only [Sv.go.injEq] at h;obtain ⟨rfl,rfl,rfl,rfl⟩:=h;refine wpList_step λK q=>?_;cases l:wn all F Q with
    | none=>rw [l] at g;cases g
    | some P =>
      rw [l] at g;cases P with
      | false =>simp only [Option.some.injEq,Prod.mk.injEq] at g;obtain ⟨rfl,rfl,rfl⟩:=g;rw [kE hk l,if_neg a6];exact q _ _ (f _ _ (jW E hk) i)
      | true =>rw [if_pos (kE hk l)];show Q.upon b a K _ _;rw [Jw hk g he (D W i.ag) λr p=>(i.rows r p).in_];exact q _ _ (f _ _ (jW E hk) i)
   ·cases h
  ·split at h
   ·rename_i l Y;split at h;·rename_i R2 m z;simp only [Sv.go.injEq] at h;obtain ⟨rfl,rfl,rfl,rfl⟩:=h;obtain ⟨M,U,X⟩:=PI hk z he i;refine wpList_step λK q=>?_;rw [if_pos (kE hk l)];show Q.upon b a K _ _;rw [U];show K (a.put Q.dst undef) M;rw [Y];exact q _ _ (f _ _ hk X)
    ·cases h
   ·cases h
 ·cases h;exact f a W hk i
 ·rename_i Z I;split at h
  ·rename_i u;rw [Bool.and_eq_true] at u;split at h;·rename_i L m y;simp only [Sv.go.injEq] at h;obtain ⟨rfl,rfl,rfl,rfl⟩:=h;have j:Iv A w R W.drew:=⟨λr p=>i.rows r p,i.ag.drew,i.sub,i.nd⟩;refine wp_region_held (S:=λV=>V=W.drew) u.2 ?_;exact Jy (D _ j.ag) j.rows u.1 (λc a d v w s=>by rw [kR] at s ⊢;exact C c a d v w s) _ _ _ _ _ a y he hk λN x=>f N _ x j
   ·cases h
  ·cases h
 ·rename_i c I _;split at h;·rename_i k3 F3 O y;simp only [Sv.go.injEq] at h;obtain ⟨rfl,rfl,rfl,rfl⟩:=h;exact rV (J:=λV=>Iv A w R V) (R:=[]) ⟨λ_ _=>trivial,λ_ _ r p=>(nomatch p),(λs=>by cases s),C⟩ y f a W hk i
  ·cases h
  ·cases h
 ·cases h
def dJ (P:Program) {T:World->Prop} (H:Hw P T) (n:Nat):Nat->List KI->Fr->List Rw->(Bool × List KI × Fr × List Rw) × List (Oe × Oe)
 | 0,k,F,R=>((false,k,F,R),[])
 | m+1,k,F,R=>match As P H n k F R with
   | .stop=>((false,k,F,R),[])
   | .ret=>((true,k,F,R),[])
   | .go d a b c=>match dJ P H n m d a b with
     | (r,es')=>(r,c++es')
theorem yr {P:Program} {T:World->Prop} {H:Hw P T} {n:Nat} {bs:List Nat} {w:World} {Q:Exit->Act->World->Prop} (q:∀ W,Ag bs w W->T W) (p:∀ c a d v w,Q (.panic c) (Act.put a d v) w->Q (.panic c) a w):∀ (m:Nat) (k:List KI) (F:Fr) (R:List Rw),(∀ e ∈ (dJ P H n m k F R).2,e.1=e.2) ->
 (∀ a W,bK (dJ P H n m k F R).1.2.2.1 n a->Iv bs w (dJ P H n m k F R).1.2.2.2 W->if (dJ P H n m k F R).1.1=true then Q .ret a W else iS P (λ_=>True) Q (dJ P H n m k F R).1.2.1 .normal a W)->∀ a W,bK F n a->Iv bs w R W->iS P (λ_=>True) Q k .normal a W
 | 0,k,F,R,_,hf,a,W,hk,hI=>by simpa [dJ] using hf a W hk hI
 | m+1,k,F,R,he,hf,a,W,hk,hI=>by
   cases f:As P H n k F R with
   | stop =>
     have e:dJ P H n (m+1) k F R=((false,k,F,R),[]):=by simp only [dJ,f]
     rw [e] at hf
     simpa using hf a W hk hI
   | ret =>
     have e:dJ P H n (m+1) k F R=((true,k,F,R),[]):=by simp only [dJ,f]
     rw [e] at hf
     have s:Q .ret a W:=by simpa using hf a W hk hI
     unfold As at f
     split at f
     ·cases f
     ·repeat (split at f<;>try cases f)
     ·cases f
     ·repeat (split at f<;>try cases f)
     ·rename_i c y u
      split at f
      ·cases f
      ·rename_i g
       cases c with
       | ret=>exact wp_ret (by rw [yh];exact s)
       | region i t b=>cases b<;>simp only [iT] at g<;>(try split at g)<;>cases g
       | cond=>simp only [iT] at g;repeat (split at g<;>try cases g)
       | exit=>simp only [iT] at g;split at g<;>cases g
       | _=>cases g
      ·cases f
     ·cases f
   | go o h j r =>
     have e:dJ P H n (m+1) k F R=((dJ P H n m o h j).1,r++(dJ P H n m o h j).2):=by simp only [dJ,f]
     rw [e] at he hf
     exact Jz q p f (λx l=>he x (by simp [l])) (yr q p m o h j (λx l=>he x (by simp [l])) hf) a W hk hI
theorem pF (d:Iv A w Q w) (H:Hw b (Ag A w)) (m:Nat) {R1:List Rw} (h:∀ bs,Iv A w R1 bs->Wg b (λ_=>True) (bodyPost b W L) k (dJ b H k m c t Q).1.2.1 (dJ b H k m c t Q).1.2.2.1 bs) (hx:((dJ b H k m c t Q).1.1,(dJ b H k m c t Q).1.2.2.2)=(false,R1):=by kernel_rfl) (he:(dJ b H k m c t Q).2.map Prod.fst=(dJ b H k m c t Q).2.map Prod.snd:=by kernel_rfl):Wg b (λ_=>True) (bodyPost b W L) k c t w:=λa f=>by
 simp only [Prod.mk.injEq] at hx
 refine yr (λ_ h=>h) cL m c t Q (λe g=>List.map_inj_left.1 he e g) (λa bs Rs P=>?_) a w f d
 rw [hx.2] at P
 rw [hx.1,if_neg a6]
 exact h bs P a Rs
theorem gn (g:Iv A w Q w) (H:Hw b (Ag A w)) (m:Nat) {R1:List Rw} {f:Nat} {args:Array Value} {Rc:World->Ending->World->Prop} (i:∀ bs,Iv A w R1 bs->Calls b f args bs (Rc bs)) (h:∀ bs e a,Iv A w R1 bs->Rc bs e a->∃ v F,e=.returned v/\Wg b (λ_=>True) (bodyPost b W L) k (nZ (dJ b H k m c t Q).1.2.2.1 (dJ b H k m c t Q).1.2.1) (pP (dJ b H k m c t Q).1.2.2.1 (dJ b H k m c t Q).1.2.1 v F) a) (hx:((dJ b H k m c t Q).1.1,(dJ b H k m c t Q).1.2.2.2,I8 b k (dJ b H k m c t Q).1.2.2.1 (dJ b H k m c t Q).1.2.1)=(false,R1,some (f,args)):=by kernel_rfl) (he:(dJ b H k m c t Q).2.map Prod.fst=(dJ b H k m c t Q).2.map Prod.snd:=by kernel_rfl):Wg b (λ_=>True) (bodyPost b W L) k c t w:=by simp only [Prod.mk.injEq] at hx;refine pF g H m (hx:=by rw [hx.1,hx.2.1]) (he:=he) λbs P=>ij (i bs P) (hx:=hx.2.2) λe a j=>?_;obtain ⟨v,F,Rs,d⟩:=h bs e a P j;exact ⟨v,F,Rs,λ_=>trivial,d⟩
theorem jf (g:Iv bs w R w) (H:Hw b (Ag bs w)) (m:Nat) {R1:List Rw} (h:∀ n a,Iv bs w R1 n->bK (dJ b H k m c t R).1.2.2.1 k a->∃ v,(results W a.tmps).run b n=.ok v n/\L (.returned v) n) (hx:((dJ b H k m c t R).1.1,(dJ b H k m c t R).1.2.2.2)=(true,R1):=by kernel_rfl) (he:(dJ b H k m c t R).2.map Prod.fst=(dJ b H k m c t R).2.map Prod.snd:=by kernel_rfl):Wg b (λ_=>True) (bodyPost b W L) k c t w:=λa i=>by
 simp only [Prod.mk.injEq] at hx
 refine yr (λ_ h=>h) cL m c t R (λe j=>List.map_inj_left.1 he e j) (λa n P Rs=>?_) a w i g
 rw [hx.2] at Rs
 rw [hx.1,if_pos rfl]
 obtain ⟨v,d,f⟩:=h n a Rs P
 exact bodyPost_ret d P.nod f
theorem uk {F:Fr} (P:Iv A w Q w) (H:Hw b (Ag A w)) (m:Nat) {R1:List Rw} {t:Nat} {v:Value} (h:∀ bs,Iv A w R1 bs->L (.returned v) bs) (hx:((dJ b H k m c F Q).1.1,(dJ b H k m c F Q).1.2.2.2,(lk (dJ b H k m c F Q).1.2.2.1 t).map Prod.fst)=(true,R1,some v):=by kernel_rfl) (he:(dJ b H k m c F Q).2.map Prod.fst=(dJ b H k m c F Q).2.map Prod.snd:=by kernel_rfl) (hr:W.results=#[.tmp t]:=by rfl):Wg b (λ_=>True) (bodyPost b W L) k c F w:=by simp only [Prod.mk.injEq] at hx;exact jf P H m (hx:=by rw [hx.1,hx.2.1]) (he:=he) λbs a Rs d=>⟨v,by rw [results_tmp hr,d.slot hx.2.2],h bs Rs⟩
theorem oN (P:Iv A w Q w) (H:Hw b (Ag A w)) (m:Nat) {R1:List Rw} (h:∀ bs,Iv A w R1 bs->L (.returned (.tuple #[])) bs) (hx:((dJ b H k m c t Q).1.1,(dJ b H k m c t Q).1.2.2.2)=(true,R1):=by kernel_rfl) (he:(dJ b H k m c t Q).2.map Prod.fst=(dJ b H k m c t Q).2.map Prod.snd:=by kernel_rfl) (hr:W.results=#[]:=by rfl):Wg b (λ_=>True) (bodyPost b W L) k c t w :=
 jf P H m (hx:=hx) (he:=he) λbs a Rs _=>⟨_,results_none hr _ _ _,h bs Rs⟩
theorem gp (P:Iv A w Q w) (H:Hw b (Ag A w)) (m:Nat) {R1:List Rw} (h:∀ bs,Iv A w R1 bs->L (.returned (.tuple #[])) bs) (hx:((dJ b H k m c t Q).1.1,(dJ b H k m c t Q).1.2.2.2)=(false,R1):=by kernel_rfl) (hz:(dJ b H k m c t Q).1.2.1.isEmpty=true:=by kernel_rfl) (he:(dJ b H k m c t Q).2.map Prod.fst=(dJ b H k m c t Q).2.map Prod.snd:=by kernel_rfl) (hr:W.results=#[]:=by rfl):Wg b (λ_=>True) (bodyPost b W L) k c t w :=
 pF P H m (hx:=hx) (he:=he) λbs Rs a d=>by
  rw [List.isEmpty_iff.1 hz]
  exact bodyPost_end (results_none hr _ _ _) d.nod (h bs Rs)
theorem Iv.eng {fn:Func}:oM P (Iv A w Q) (Iv A w Q) Q true (bodyPost P fn Rs):=⟨λ_ h=>h,λ_ h r a=>(h.rows r a).in_,λ_ _ h=>⟨λr a=>h.rows r a,h.ag.drew,h.sub,h.nd⟩,cL⟩
def wh (s j:Nat):Fr->Fr
 | []=>[]
 | x::F=>(match Nat.beq x.1 s with | true=>(x.1,x.2.1,j) | false=>x)::wh s j F
theorem yt (s j t:Nat):∀ (F:Fr) (x:Value × Nat),lk (wh s j F) t=some x->∃ y,lk F t=some y/\y.1=x.1
 | [],_,h=>kd
 | (d,v,g)::F,x,h=>by
   unfold wh at h
   cases b:Nat.beq d s with
   | true =>
     simp only [b,lk] at h ⊢
     cases a:Nat.beq d t with
     | true=>rw [a] at h;cases h;exact ⟨_,rfl,rfl⟩
     | false=>rw [a] at h;exact yt s j t F x h
   | false =>
     simp only [b,lk] at h ⊢
     cases a:Nat.beq d t with
     | true=>rw [a] at h;cases h;exact ⟨_,rfl,rfl⟩
     | false=>rw [a] at h;exact yt s j t F x h
theorem bK.tag (h:bK t k C) (s j:Nat):bK (wh s j t) k C:=⟨h.size,h.nod,λF x d=>by
 obtain ⟨y,b,c⟩:=yt s j F t x d
 rw [<- c]
 exact h.at_ F y b⟩
theorem aL (h:Wg b B o k c (wh p y t) w):Wg b B o k c t w:=λa P=>h a (P.tag p y)
theorem n6 (z:Calls b S E w L) (hx:(EW k t c).map (λs=>s.run b w)=some (.ok (.enter S E) w)) (h:∀ e g,L e g->∃ v F,e=.returned v/\(vP t c=true->B g)/\Wg b B o k (nZ t c) (pP t c v F) g):Wg b B o k c t w:=λa j=>by
 obtain ⟨s,f,r⟩:=Option.map_eq_some_iff.1 hx;unfold EW at f;unfold nZ pP vP at h;cases p:Ae t c with
 | none=>rw [p] at f;cases f
 | some y =>
   obtain ⟨n,args,P⟩:=y;rw [p] at f h;dsimp only at f h;split at f
   ·rename_i i;cases f;rw [Bool.and_eq_true,Bool.and_eq_true] at i;have l:execOp a.eval n=execOp (ev t) n:=execOp_congr n (λD P e=>by have:=i.1.2;rw [e] at this;cases this) λx hx=>j.eval (Array.all_eq_true_iff_forall_mem.1 i.1.1 x hx);refine uj p j λK u=>?_;show n.upon b a K _ _;rw [l,r];refine z.mono λe g A=>?_;obtain ⟨v,F,rfl,Q,C⟩:=h e g A;refine u _ _ Q (C _ ?_);cases m:n.dst with
    | none=>exact j
    | some d=>have q:=i.2;rw [m] at q;exact j.put q v F
   ·cases f
end Go.Proofs.YtfagphfjfhpmjaaGreatDoor
