/- Own lemmas. -/
import Derived.Test.YtfagphfjfhpmjaaGreatDoorAuj
import Derived.Test.YtfagphfjfhpmjaaGreatDoorJ16
namespace Go.Proofs.YtfagphfjfhpmjaaGreatDoor
open Go.RowKit Tryz
open IntKind renaming u64->Uz
set_option linter.unusedVariables false
variable {M:MV} {w g:World} {t A n:Nat} {x:MA} {D:TV} {p:List Rw} {R:List Nat} {W:Array Value} {l:List FRow} (V:DV) (b:MV) (c:Int × MV × Int) (f:Wf) (s:List Int) (B:Nat) (E:List Int) (L d e:Int) (k:List Int) (m o:Int) (z:Bool)
theorem Iv.ez:Ez (Iv R w p) p:=⟨λ_ h r a=>(h.rows r a).in_,λ_ h=>⟨λr a=>h.rows r a,h.ag.drew,h.sub,h.nd⟩⟩
theorem Iv.two {d:Array Value} (e:iw ⟨t,W,[]⟩ w) (f:iw ⟨A,d,[]⟩ w) (c:t≠A):Iv [t,A] w [⟨t,W,[]⟩,⟨A,d,[]⟩] w :=
 ⟨λr a=>by
  simp only [List.mem_cons,List.not_mem_nil,or_false] at a
  rcases a with rfl|rfl
  ·exact e
  ·exact f,Ag.refl _ _,λr a=>by
  simp only [List.mem_cons,List.not_mem_nil,or_false] at a
  rcases a with rfl|rfl<;>simp,ta⟩
theorem ny (k:Iv [n] w p g) (f:aZ t A w l) (d:n<t):aZ t A g l:=f.mono λi b c a=>k.ag.block i a tk
theorem tK {W':World} {E:Nat} {c:Array Value} (a:Iv [t] w [⟨t,W,[]⟩] g) (k:Iv [t,A] g p W') (f:aZ n E g l) (hb:w.heap.size<=A) (L:w.heap.size<=n) (m:E<=g.heap.size) (hx:A<n\/E<=A) (R:t<w.heap.size) (row:iw ⟨t,c,[]⟩ W'):Iv [t] w [⟨t,c,[]⟩] W'/\aZ w.heap.size W'.heap.size W' l:=by
 refine ⟨⟨λr d=>by rw [List.mem_singleton] at d;subst d;exact row,⟨k.ag.os.trans a.ag.os,k.ag.tape.trans a.ag.tape,k.ag.output.trans a.ag.output,Nat.le_trans a.ag.size k.ag.size,λi h e=>?_⟩,λr d=>by rw [List.mem_singleton] at d;subst d;simp,bc⟩,?_⟩;·rw [List.mem_singleton] at e;exact (k.ag.block i (Nat.lt_of_lt_of_le h a.ag.size) lh).trans (a.ag.block i h (by rw [List.mem_singleton];exact e))
 ·exact (f.mono λi cs o j=>k.ag.block i j lh).low L (Nat.le_trans m k.ag.size)
theorem Iv.dw {V:World} (h:Iv R w p g) (d:Dw g V):Iv R w p V:=h.below (d.below (Below.refl _ _))
theorem Iv.set (h:Iv R w p g) {b:Nat} (hb:b ∉ R) (bs:w.heap.size<=b) (cs:Array Value):Iv R w p (g.setRow b cs):=
 ⟨λr c=>let ⟨t,a⟩:=h.rows r c;⟨t,(setRow_other g _ _ cs (λe=>hb (by rw [<- e];exact h.sub r c))).trans a⟩,⟨h.ag.os,h.ag.tape,h.ag.output,by rw [setRow_size];exact h.ag.size,λk f d=>(setRow_other g _ _ cs ab).trans (h.ag.block k f d)⟩,h.sub,h.nd⟩
def nz (t:TV) (V:Int × MV × Int) (addr:Int):TV:=if V.2.2 != 0 then {t with up:=true,cz:=IntKind.i64.wrap (V.2.2-16),vl:=addr} else t
theorem vx (Y:D.ld=.func (.func 50) #[] #[]) (h:iw ⟨A,bz M x D,[]⟩ w) (hA:∀ W,Iv [A] w [⟨A,bz M x D,[]⟩] W->Calls prog 220 #[.func (.func 50) #[] #[],.agg (ap M x),.u L,.i d,.i e,.u m] W (wP W c)): Calls prog 166 #[.p A 0,.u L,.i d,.i e,.u m] w λsize w'=>∃ C,size=.returned (.tuple #[.u (if c.2.2 != 0 then 0 else c.1),.bool (!(c.2.2 != 0))])/\Iv [A] w [⟨A,bz c.2.1 C (nz D c L),[]⟩] w'/\aZ w.heap.size w'.heap.size w' (aJ c.2.1 C):=by
 have t:A<w.heap.size:=let ⟨_,f⟩:=h;(Array.getElem?_eq_some_iff.1 f).1;refine fj (args:=[.p A 0,.u L,.i d,.i e,.u m]) (Iv [A] w [⟨A,bz M x D,[]⟩]) func166 ?_;refine aL 0 1 ?_;refine ae Iv.eng {eq:=[(19,⟨_,_,0,Y⟩)]} 60 (Iv.one h) λl g=>?_;refine mr (i:=12) (j:=17) ?_ ?_
 ·refine lY (hA l g) λsize w1 f=>?_;obtain ⟨C,rfl,F1,y⟩:=f;refine ⟨_,0,rfl,g.below y,?_⟩;refine OT (v:=λW=>.p W.heap.size 0) Iv.ez (g.below y) {} 60 2 (λW=>W.alloc (.cells (ap au zeroA) 32)) (λW _=>cT (z:=.agg (ap au zeroA)) a4 W) λo P=>?_;have u:=((g.below y).dw P).below (bal o (.cells (ap au zeroA) 32));refine ⟨u,?_⟩;have z2:=P.size;have s0:=g.ag.size;have s1:=y.size;refine Ar Iv.ez u {} 60 (λW=>W.setRow o.heap.size (ap c.2.1 C)) (λW addr=>aD (t:=32) (ty:=32) (old:=ap au zeroA) (by obtain ⟨j,rfl⟩:=addr;exact heap_alloc_new _ _) a4 rfl (cj _ _)) λq r=>?_;have z3:q.heap.size=o.heap.size+1:=(by rw [r.size,World.size_alloc]);have E:=(u.dw r).set (b:=o.heap.size) tk ab (ap c.2.1 C);refine ⟨E,?_⟩;have Z:iw ⟨o.heap.size,ap c.2.1 C,[]⟩ (q.setRow o.heap.size (ap c.2.1 C)):=⟨32,setRow_heap _ _ _ _ _ _ (by obtain ⟨j,rfl⟩:=r;exact heap_alloc_new _ _)⟩;have Q:aZ l.heap.size w1.heap.size (q.setRow o.heap.size (ap c.2.1 C)) (aJ c.2.1 C):=(r.fam ((P.fam F1).mono λk _ _ u=>heap_alloc_old _ _ u)).mono λk _ _ _=>setRow_other _ _ _ _ ab;have z4:(q.setRow o.heap.size (ap c.2.1 C)).heap.size=q.heap.size:=setRow_size _ _ _;refine ae (pX Iv.ez E) {} 60 (Dw.refl _) λV s=>?_;refine aK (λ_=>True) ?_;refine aL 13 2 ?_;have F:=E.dw s;have I:=s.fam Q;have z5:=s.size;have r5:iw ⟨o.heap.size,ap c.2.1 C,[]⟩ V:=let ⟨T,U⟩:=Z;⟨T,by obtain ⟨j,rfl⟩:=s;exact U⟩;have H:=Iv.two F.row1 r5 ab;unfold nz;obtain ⟨B,kind⟩:∃ B,(c.2.2 != 0)=B:=⟨_,rfl⟩;rw [kind];cases B with
  | true =>refine gn (R1:=[⟨A,bz c.2.1 C D,[]⟩,⟨o.heap.size,ap c.2.1 C,[]⟩]) H {eq:=[(37,af kind)]} 60 (λW X=>jZ (IntKind.i64.wrap (c.2.2-16)) L (M:=c.2.1) (A:=C) (t:=D) (X.rows ⟨A,bz c.2.1 C D,[]⟩ bc)) λW6 size w7 J f=>⟨_,0,f.1,?_⟩;obtain ⟨S,R⟩:=tK F J I ab ab ab ab t (J.rows ⟨A,bz c.2.1 C D,[]⟩ bc);refine jf (Iv.one f.2.row1) {} 40 λN a n p=>⟨.tuple #[.u 0,.bool false],i4,C,rfl,(S.then1 f.2).then1 n,?_⟩;exact (ny n (ny f.2 R t) t).low (Nat.le_refl _) (Nat.le_trans f.2.ag.size n.ag.size)
  | false =>refine jf (R1:=[⟨A,bz c.2.1 C D,[]⟩,⟨o.heap.size,ap c.2.1 C,[]⟩]) H {eq:=[(37,af kind)]} 60 λN a n p=>⟨.tuple #[.u c.1,.bool true],i2,C,rfl,?_⟩;exact tK F n I ab ab ab ab t (n.rows ⟨A,bz c.2.1 C D,[]⟩ bc)
 ·have K:=g.below (bal l (.cells (ap au zeroA) 32));refine nI (v:=.p l.heap.size 0) 2 (cT (T:=32) (z:=.agg (ap au zeroA)) a4 l) K ?_;refine tC (Rc:=λW=>wP W c) Iv.ez K {} 60 (λW addr=>hA W (K.dw addr)) λW1 size w2 O f=>?_;obtain ⟨C,rfl,F2,G⟩:=f;have u:=(K.dw O).below G;refine ⟨_,0,rfl,u,?_⟩;have s0:=g.ag.size;have z1:W1.heap.size=l.heap.size+1:=(by rw [O.size,World.size_alloc]);have s2:=G.size;have q2:w2.heap[l.heap.size]?=some (.cells (ap au zeroA) 32 (0,0)):=aB G (by obtain ⟨j,rfl⟩:=O;exact heap_alloc_new _ _);refine Ar Iv.ez u {} 60 (λW=>W.setRow l.heap.size (ap c.2.1 C)) (λW addr=>aD (t:=32) (ty:=32) (old:=ap au zeroA) (by obtain ⟨j,rfl⟩:=addr;exact q2) a4 rfl (cj _ _)) λq r=>?_;have z3:=r.size;have E:=(u.dw r).set (b:=l.heap.size) tk ab (ap c.2.1 C);refine ⟨E,?_⟩;have Z:iw ⟨l.heap.size,ap c.2.1 C,[]⟩ (q.setRow l.heap.size (ap c.2.1 C)):=⟨32,setRow_heap _ _ _ _ _ _ (by obtain ⟨j,rfl⟩:=r;exact q2)⟩;have Q:aZ W1.heap.size w2.heap.size (q.setRow l.heap.size (ap c.2.1 C)) (aJ c.2.1 C):=(r.fam F2).mono λk _ _ _=>setRow_other _ _ _ _ ab;have z4:(q.setRow l.heap.size (ap c.2.1 C)).heap.size=q.heap.size:=setRow_size _ _ _;refine ae (pX Iv.ez E) {} 60 (Dw.refl _) λV s=>?_;refine aK (λ_=>True) ?_;refine aL 13 2 ?_;have F:=E.dw s;have I:=s.fam Q;have z5:=s.size;have r5:iw ⟨l.heap.size,ap c.2.1 C,[]⟩ V:=let ⟨T,U⟩:=Z;⟨T,by obtain ⟨j,rfl⟩:=s;exact U⟩;have H:=Iv.two F.row1 r5 ab;unfold nz;obtain ⟨B,kind⟩:∃ B,(c.2.2 != 0)=B:=⟨_,rfl⟩;rw [kind];cases B with
  | true =>refine gn (R1:=[⟨A,bz c.2.1 C D,[]⟩,⟨l.heap.size,ap c.2.1 C,[]⟩]) H {eq:=[(37,af kind)]} 60 (λW X=>jZ (IntKind.i64.wrap (c.2.2-16)) L (M:=c.2.1) (A:=C) (t:=D) (X.rows ⟨A,bz c.2.1 C D,[]⟩ bc)) λW6 size w7 J f=>⟨_,0,f.1,?_⟩;obtain ⟨S,R⟩:=tK F J I ab ab ab ab t (J.rows ⟨A,bz c.2.1 C D,[]⟩ bc);refine jf (Iv.one f.2.row1) {} 40 λN a n p=>⟨.tuple #[.u 0,.bool false],i4,C,rfl,(S.then1 f.2).then1 n,?_⟩;exact (ny n (ny f.2 R t) t).low (Nat.le_refl _) (Nat.le_trans f.2.ag.size n.ag.size)
  | false =>refine jf (R1:=[⟨A,bz c.2.1 C D,[]⟩,⟨l.heap.size,ap c.2.1 C,[]⟩]) H {eq:=[(37,af kind)]} 60 λN a n p=>⟨.tuple #[.u c.1,.bool true],i2,C,rfl,?_⟩;exact tK F n I ab ab ab ab t (n.rows ⟨A,bz c.2.1 C D,[]⟩ bc)
theorem Of (y:D.fm=mU f L z) (addr g:Int) (k:D.ld=.func (.func 50) #[] #[]) (h:iw ⟨t,bz M x D,[]⟩ w) (u:∀ W,Iv [t] w [⟨t,bz M x D,[]⟩] W->Calls prog 220 #[.func (.func 50) #[] #[],.agg (ap M x),.u addr,.i L,.i 3,.u g] W (wP W c)): Calls prog 175 #[.p t 0,.u addr,.u g] w λe b=>∃ C,e=.returned (.bool (!(c.2.2 != 0)))/\Iv [t] w [⟨t,bz c.2.1 C (nz D c addr),[]⟩] b/\aZ w.heap.size b.heap.size b (aJ c.2.1 C):=by
 have j:t<w.heap.size:=let ⟨_,V⟩:=h;(Array.getElem?_eq_some_iff.1 V).1;refine fj (args:=[.p t 0,.u addr,.u g]) (Iv [t] w [⟨t,bz M x D,[]⟩]) func175 ?_;refine aL 0 1 ?_;cases f;all_goals
  refine ae Iv.eng {cv:=[(13,vQ λW a=>qs _ L z y a.row1)]} 60 (Iv.one h) λo q=>?_
  refine n6 (yZ L z o) a4 λe B V=>⟨_,0,V.1,fi a4,?_⟩
  have r:=q.below V.2
  refine aN (Rc:=λW e b=>∃ C,e=.returned (.tuple #[.u (if c.2.2 != 0 then 0 else c.1),.bool (!(c.2.2 != 0))])/\Iv [t] W [⟨t,bz c.2.1 C (nz D c addr),[]⟩] b/\aZ W.heap.size b.heap.size b (aJ c.2.1 C)) Iv.eng {} 60 r (λW a=>vx c addr L 3 g k a.row1 λm i=>u m (a.then1 i)) λW e A a V=>?_
  obtain ⟨C,rfl,l,p⟩:=V
  refine ⟨_,0,rfl,fi a4,?_⟩
  refine aK (λ_=>True) ?_
  exact uk (t:=6) (v:=.bool (!(c.2.2 != 0))) (Iv.one l.row1) {} 40 λs d=>⟨C,rfl,(a.then1 l).then1 d,(ny d p (Nat.lt_of_lt_of_le j a.ag.size)).low a.ag.size d.ag.size⟩
def sP (t:TV) (V:Int × MV × Int) (addr:Int) (n:Nat) (s:Bool):TV:=if V.2.2 != 0 then nz t V addr else {t with rs:=if s then av (8*n) V.1 else V.1}
theorem Qs (hn:B=1\/B=2\/B=4\/B=8) (A:D.fm=mU f B z) (addr:Int) (y:D.ld=.func (.func 50) #[] #[]) (h:iw ⟨t,bz M x D,[]⟩ w) (J:∀ W,Iv [t] w [⟨t,bz M x D,[]⟩] W->Calls prog 220 #[.func (.func 50) #[] #[],.agg (ap M x),.u addr,.i B,.i 2,.u 0] W (wP W c)): Calls prog 172 #[.p t 0,.u addr] w λe i=>∃ C,e=.returned (.tuple #[.u (if c.2.2 != 0 then 0 else c.1),.bool (!(c.2.2 != 0))])/\Iv [t] w [⟨t,bz c.2.1 C (sP D c addr B z),[]⟩] i/\aZ w.heap.size i.heap.size i (aJ c.2.1 C):=by
 have j:t<w.heap.size:=let ⟨_,d⟩:=h;(Array.getElem?_eq_some_iff.1 d).1;have V:∀ W,Iv [t] w [⟨t,bz M x D,[]⟩] W->_:=λW b=>vx c addr B 2 0 y b.row1 λF u=>J F (b.then1 u);unfold sP;unfold nz at *;obtain ⟨p,g⟩:∃ p,(c.2.2 != 0)=p:=⟨_,rfl⟩;simp only [g] at V ⊢;refine fj (args:=[.p t 0,.u addr]) (Iv [t] w [⟨t,bz M x D,[]⟩]) func172 ?_;refine aL 0 1 ?_;cases f;all_goals
  refine ae Iv.eng {cv:=[(12,vQ λW b=>qs _ B z A b.row1)]} 60 (Iv.one h) λG I=>?_
  refine n6 (yZ B z G) a4 λe L d=>⟨_,0,d.1,fi a4,?_⟩
  have n:=I.below d.2
  cases p
  ·refine aN (Rc:=λW e i=>∃ C,e=.returned (.tuple #[.u c.1,.bool true])/\Iv [t] W [⟨t,bz c.2.1 C D,[]⟩] i/\aZ W.heap.size i.heap.size i (aJ c.2.1 C)) Iv.eng {} 60 n V λW e E b d=>?_
   obtain ⟨C,rfl,k,q⟩:=d
   refine ⟨_,0,rfl,fi a4,?_⟩
   refine aK (Iv [t] E [⟨t,bz c.2.1 C D,[]⟩]) ?_
   have H:=(ny (Iv.one k.row1) q (Nat.lt_of_lt_of_le j b.ag.size)).low (B':=w.heap.size) b.ag.size (Nat.le_refl _)
   refine ae Iv.eng {cv:=[(20,vQ λW b=>qs _ B z A b.row1)]} 60 (Iv.one k.row1) λs l=>?_
   refine n6 (H6 B z c.1 hn s) a4 λe N d=>⟨_,0,d.1,fi a4,?_⟩
   have o:=l.below d.2
   refine aK (λ_=>True) ?_
   refine jf (R1:=[⟨t,bz c.2.1 C {D with rs:=if z then av (8*B) c.1 else c.1},[]⟩]) (Iv.one o.row1) {} 60 λK a r m=>⟨.tuple #[.u c.1,.bool true],by rw [results_tmp2 rfl,m.slot (v:=.u c.1) a4,m.slot (v:=.bool true) a4],C,rfl,((b.then1 k).then1 o).then1 r,?_⟩
   exact (ny r (ny o H j) j).low (Nat.le_refl _) (Nat.le_trans o.ag.size r.ag.size)
  ·refine aN (Rc:=λW e i=>∃ C,e=.returned (.tuple #[.u 0,.bool false])/\Iv [t] W [⟨t,bz c.2.1 C _,[]⟩] i/\aZ W.heap.size i.heap.size i (aJ c.2.1 C)) Iv.eng {} 60 n V λW e E b d=>?_
   obtain ⟨C,rfl,k,q⟩:=d
   refine ⟨_,0,rfl,fi a4,?_⟩
   refine aK (λ_=>True) ?_
   refine jf (Iv.one k.row1) {} 40 λs a l m=>⟨.tuple #[.u 0,.bool false],by rw [results_tmp2 rfl,m.slot (v:=.u 0) a4,m.slot (v:=.bool false) a4],C,rfl,(b.then1 k).then1 l,(ny l q (Nat.lt_of_lt_of_le j b.ag.size)).low b.ag.size l.ag.size⟩
def xO (t:TV) (code addr:Int):TV:=if code != 0 then {t with up:=true,cz:=code,vl:=addr} else t
theorem Qt (kind:Int) (g:D.ld=.func (.func 50) #[] #[]) (h:iw ⟨A,bz M x D,[]⟩ w) (G:∀ W,Iv [A] w [⟨A,bz M x D,[]⟩] W->CB 256 #[.slice x.ac M.cs.length x.cc,.i M.pr,.i kind] W (.i e)) (s:∀ W,Iv [A] w [⟨A,bz M x D,[]⟩] W->Calls prog 50 #[.slice x.ar M.ram.length x.cr,.slice x.ac M.cs.length x.cc,.i e,.u m,.i kind] W λz l=>∃ (b:Option Addr) (c:Nat),z=.returned (.tuple #[.u L,.i d,.slice b k.length c])/\l.ownsRow W.heap.size 5 1 (.slice b k.length c) k.length (k.map (Value.int .u8))/\Bw W l): Calls prog 232 #[.p A 0,.u m,.i kind] w λz l=>∃ (b:Option Addr) (c:Nat),z=.returned (.tuple #[.u (if d != 0 then 0 else L),.bool (!(d != 0))])/\Iv [A] w [⟨A,bz {M with ram:=k} {x with ar:=b,cr:=c} (xO D d m),[]⟩] l/\l.ownsRow w.heap.size 5 1 (.slice b k.length c) k.length (k.map (Value.int .u8)):=by
 have H:A<w.heap.size:=let ⟨_,code⟩:=h;(Array.getElem?_eq_some_iff.1 code).1;refine fj (args:=[.p A 0,.u m,.i kind]) (Iv [A] w [⟨A,bz M x D,[]⟩]) func232 ?_;refine aL 0 1 ?_;refine aN Iv.eng {eq:=[(15,⟨_,_,0,g⟩)],cv:=[(37,jb Iv.below G)]} 60 (Iv.one h) s λJ z to B code=>?_;obtain ⟨b,c,rfl,I,u⟩:=code;have r:=B.below u;refine ⟨_,0,rfl,λ_=>r,?_⟩;refine ae (pX Iv.ez r) {} 60 (Dw.refl _) λE y=>?_;refine aK (λ_=>True) ?_;have p:=r.dw y;have t:E.ownsRow w.heap.size 5 1 (.slice b k.length c) k.length (k.map (Value.int .u8)):=by obtain ⟨j,rfl⟩:=y;exact ew (dG I B.ag.size) λzs _=>rfl
 have keep:∀ {W V:World} {R:List Rw},Iv [A] W R V->W.ownsRow w.heap.size 5 1 (.slice b k.length c) k.length (k.map (Value.int .u8))->V.ownsRow w.heap.size 5 1 (.slice b k.length c) k.length (k.map (Value.int .u8)):=λ{W V R} zs o=>ew o λi z=>zs.ag.block i (o.lt i z).2 (by rw [List.mem_singleton];have:=(o.lt i z).1;omega);unfold xO;obtain ⟨q,f⟩:∃ q,(d != 0)=q:=⟨_,rfl⟩;rw [f];cases q with
 | true =>refine gn (R1:=[⟨A,bz {M with ram:=k} {x with ar:=b,cr:=c} D,[]⟩]) (Iv.one p.row1) {eq:=[(50,af f)]} 60 (λW s=>jZ d m s.row1) λK z N C code=>⟨_,0,code.1,?_⟩;exact jf (Iv.one code.2.row1) {} 40 λF a addr n=>⟨.tuple #[.u 0,.bool false],by rw [results_tmp2 rfl,n.slot (v:=.u 0) a4,n.slot (v:=.bool false) a4],b,c,rfl,((p.then1 C).then1 code.2).then1 addr,keep addr (keep code.2 (keep C t))⟩
 | false =>exact jf (R1:=[⟨A,bz {M with ram:=k} {x with ar:=b,cr:=c} D,[]⟩]) (Iv.one p.row1) {eq:=[(50,af f)]} 60 λF a addr n=>⟨.tuple #[.u L,.bool true],by rw [results_tmp2 rfl,n.slot (v:=.u L) a4,n.slot (v:=.bool true) a4],b,c,rfl,p.then1 addr,keep addr t⟩
def pu (op a y:Int):Int:=if op=88\/op=91 then bits .or .u64 a y else if op=89\/op=92 then bits .andNot .u64 a y else y
theorem IE {g:MA} {x:Int} (h:iw ⟨t,bz M g D,[]⟩ w) (l:D.op=87\/D.op=88\/D.op=89\/D.op=90\/D.op=91\/D.op=92) (f:g.ax=some ⟨A,n,none⟩) (j:0<=D.ra/\D.ra<M.x.length) (hb:A≠t) (hx:w.cell? ⟨A,n+D.ra.toNat,none⟩=some (.u x)): Calls prog 237 #[.p t 0,.u L] w λe d=>e=.returned (.u (pu D.op L (if 90<=D.op then Uz.wrap D.ra else x)))/\Iv [t] w [⟨t,bz M g D,[]⟩] d:=by
 have i:∀ (p:Addr) v,p.block=A->w.cell? p=some v->∀ W,Iv [t] w [⟨t,bz M g D,[]⟩] W->W.cell? p=some v:=λp v b m W a=>by rw [<- m];simp only [World.cell?,a.ag.block p.block (lA m) (by rw [b];simpa using hb)]
 refine fj (args:=[.p t 0,.u L]) (Iv [t] w [⟨t,bz M g D,[]⟩]) func237 ?_;refine aL 0 1 ?_;rcases l with q | q | q | q | q | q;·exact aU (t:=4) (v:=.u x) Iv.eng {eq:=[(12,cZ .i64 q),(24,cZ .i64 q)],cv:=[(7,vQ λW a=>J7 a.row1 f j hb (i _ _ rfl hx W a))]} 200 (Iv.one h) λd k=>⟨by simp [pu,q],k⟩
 ·exact aU (t:=4) (v:=.u (bits .or .u64 L x)) Iv.eng {eq:=[(12,cZ .i64 q),(24,cZ .i64 q)],cv:=[(7,vQ λW a=>J7 a.row1 f j hb (i _ _ rfl hx W a))]} 200 (Iv.one h) λd k=>⟨by simp [pu,q],k⟩
 ·exact aU (t:=4) (v:=.u (bits .andNot .u64 L x)) Iv.eng {eq:=[(12,cZ .i64 q),(24,cZ .i64 q)],cv:=[(7,vQ λW a=>J7 a.row1 f j hb (i _ _ rfl hx W a))]} 200 (Iv.one h) λd k=>⟨by simp [pu,q],k⟩
 ·exact aU (t:=4) (v:=.u (Uz.wrap D.ra)) Iv.eng {eq:=[(12,cZ .i64 q),(24,cZ .i64 q)],cv:=[(7,vQ λW a=>J7 a.row1 f j hb (i _ _ rfl hx W a))]} 200 (Iv.one h) λd k=>⟨by simp [pu,q],k⟩
 ·exact aU (t:=4) (v:=.u (bits .or .u64 L (Uz.wrap D.ra))) Iv.eng {eq:=[(12,cZ .i64 q),(24,cZ .i64 q)],cv:=[(7,vQ λW a=>J7 a.row1 f j hb (i _ _ rfl hx W a))]} 200 (Iv.one h) λd k=>⟨by simp [pu,q],k⟩
 ·exact aU (t:=4) (v:=.u (bits .andNot .u64 L (Uz.wrap D.ra))) Iv.eng {eq:=[(12,cZ .i64 q),(24,cZ .i64 q)],cv:=[(7,vQ λW a=>J7 a.row1 f j hb (i _ _ rfl hx W a))]} 200 (Iv.one h) λd k=>⟨by simp [pu,q],k⟩
theorem Og (h:iw ⟨A,bz M x D,[]⟩ w) (v:∀ W,Iv [A] w [⟨A,bz M x D,[]⟩] W->Calls prog 271 #[.slice x.ac M.cs.length x.cc,.i M.pr,.bool (D.op==96)] W λe pc=>∃ (a:Option Addr) (c:Nat),e=.returned (.tuple #[.slice a s.length c,.i L,.u d,.bool z])/\(z=true->pc.ownsRow W.heap.size 22 1 (.slice a s.length c) s.length (s.map (Value.int .u64)))/\Bw W pc): Calls prog 238 #[.p A 0] w λe pc=>e=.returned (.tuple #[])/\if z then ∃ (a:Option Addr) (c:Nat),Iv [A] w [⟨A,bz {M with cs:=s,pr:=L} {x with ac:=a,cc:=c} {D with nx:=d},[]⟩] pc/\pc.ownsRow w.heap.size 22 1 (.slice a s.length c) s.length (s.map (Value.int .u64)) else Iv [A] w [⟨A,bz M x {D with up:=true,cz:=2,vl:=D.wd},[]⟩] pc:=by
 have y:A<w.heap.size:=let ⟨_,b⟩:=h;(Array.getElem?_eq_some_iff.1 b).1;refine fj (args:=[.p A 0]) (Iv [A] w [⟨A,bz M x D,[]⟩]) func238 ?_;refine aL 0 1 ?_;refine aN Iv.eng {} 60 (Iv.one h) v λB e E r b=>?_;obtain ⟨a,c,rfl,m,n⟩:=b;have f:=r.below n;refine ⟨_,0,rfl,λ_=>f,?_⟩;cases z with
 | true =>refine ae (pX Iv.ez f) {} 60 (Dw.refl _) λp q=>?_;refine aK (λ_=>True) ?_;have l:=f.dw q;have o:p.ownsRow w.heap.size 22 1 (.slice a s.length c) s.length (s.map (Value.int .u64)):=(by obtain ⟨j,rfl⟩:=q;exact ew (dG (m rfl) r.ag.size) λk _=>rfl);exact gp (R1:=[⟨A,bz {M with cs:=s,pr:=L} {x with ac:=a,cc:=c} {D with nx:=d},[]⟩]) (Iv.one l.row1) {} 60 λC cs=>⟨rfl,a,c,l.then1 cs,ew o λi e=>cs.ag.block i (o.lt i e).2 (by rw [List.mem_singleton];have:=(o.lt i e).1;omega)⟩
 | false =>refine aN Iv.eng {} 60 f (λW g=>oU g.row1) λp e F l b=>⟨_,0,b.1,fi a4,?_⟩;refine aK (λ_=>True) ?_;exact oN (Iv.one b.2.row1) {} 40 λt u=>⟨rfl,(l.then1 b.2).then1 u⟩
theorem iG {P:Program} {S:World->Prop} {fn:Func} {Rs:Ending->World->Prop} {k:List KI} {F:Fr} (H:Hn P (λx=>x=w) (λx=>x=w)) (m:Nat) (hx:(iu k,(aY P [] H n false m k F).1.1,iu (aY P [] H n false m k F).1.2.1,(aY P [] H n false m k F).1.2.1.isEmpty)=(true,false,true,true)) (he:(aY P [] H n false m k F).2.map Prod.fst=(aY P [] H n false m k F).2.map Prod.snd) (hr:fn.results=#[]) (h:Rs (.returned (.tuple #[])) w):Wg P S (bodyPost P fn Rs) n k F w:=by simp only [Prod.mk.injEq] at hx;refine aP (R:=[]) (by simp [gH]) H m (hx:=by rw [hx.1,hx.2.1,hx.2.2.1]) (he:=he) λa b=>?_;rw [List.isEmpty_iff.1 hx.2.2.2];exact bodyPost_end (results_none hr _ _ _) b.nod h
theorem LD (h:iw ⟨t,bz M x D,[]⟩ w) (q:D.op=93):Calls prog 181 #[.p t 0] w λe d=>e=.returned (.tuple #[])/\Iv [t] w [⟨t,bz M x {D with up:=true,cz:=IntKind.i64.wrap (8+M.pr),vl:=0},[]⟩] d:=by refine fj (args:=[.p t 0]) (λ_=>True) func181 ?_;refine aL 0 1 ?_;refine gn (Iv.one h) {eq:=[(6,cZ .i64 q)]} 80 (R1:=[⟨t,bz M x D,[]⟩]) (λW a=>jZ (IntKind.i64.wrap (8+M.pr)) 0 a.row1) λW e d a c=>⟨_,0,c.1,?_⟩;exact a0l
theorem IF (h:iw ⟨t,bz M x D,[]⟩ w) (q:D.op=94):Calls prog 181 #[.p t 0] w λe d=>e=.returned (.tuple #[])/\Iv [t] w [⟨t,bz M x {D with up:=true,cz:=3,vl:=M.pc},[]⟩] d:=by refine fj (args:=[.p t 0]) (λ_=>True) func181 ?_;refine aL 0 1 ?_;refine gn (Iv.one h) {eq:=[(6,cZ .i64 q)]} 80 (R1:=[⟨t,bz M x D,[]⟩]) (λW a=>jZ 3 M.pc a.row1) λW e d a c=>⟨_,0,c.1,?_⟩;exact a0l
theorem LE (h:iw ⟨A,bz M x D,[]⟩ w) (q:D.op=97\/D.op=98):Calls prog 181 #[.p A 0] w λe f=>e=.returned (.tuple #[])/\Iv [A] w [⟨A,if M.pr==0 then bz M x {D with up:=true,cz:=2,vl:=D.wd} else bz {M with wt:=D.op==97} x D,[]⟩] f:=by
 refine fj (args:=[.p A 0]) (λ_=>True) func181 ?_;refine aL 0 1 ?_;obtain ⟨p,c⟩:∃ p,(M.pr==0)=p:=⟨_,rfl⟩;rw [c];cases p with
 | true =>
   rcases q with q|q;all_goals
    refine gn (Iv.one h) {eq:=[(6,cZ .i64 q),(39,af c)]} 80 (R1:=[⟨A,bz M x D,[]⟩]) (λW b=>oU b.row1) λW e f b d=>⟨_,0,d.1,?_⟩
    exact oN (Iv.one d.2.row1) {} 40 λi a=>⟨rfl,(b.then1 d.2).then1 a⟩
 | false =>rcases q with q | q;all_goals exact gp (R1:=[⟨A,bz {M with wt:=D.op==97} x D,[]⟩]) (Iv.one h) {eq:=[(6,cZ .i64 q),(39,af c)]} 80 λi a=>⟨rfl,a⟩
theorem IG {Rc:World->Ending->World->Prop} (h:iw ⟨t,bz M x D,[]⟩ w) (q:D.op=95\/D.op=96) (d:∀ W,Iv [t] w [⟨t,bz M x D,[]⟩] W->Calls prog 238 #[.p t 0] W (Rc W)) (f:∀ W e a,Iv [t] w [⟨t,bz M x D,[]⟩] W->Rc W e a->e=.returned (.tuple #[])):Calls prog 181 #[.p t 0] w λe a=>e=.returned (.tuple #[])/\∃ W,Iv [t] w [⟨t,bz M x D,[]⟩] W/\Rc W e a:=by
 refine fj (args:=[.p t 0]) (λ_=>True) func181 ?_;refine aL 0 1 ?_;rcases q with q | q;all_goals
  refine gn (Iv.one h) {eq:=[(6,cZ .i64 q)]} 80 (R1:=[⟨t,bz M x D,[]⟩]) d λW e a b c=>?_
  obtain rfl:=f W e a b c
  exact ⟨_,0,rfl,iG {} 40 a4 a4 rfl ⟨rfl,W,b,c⟩⟩
structure Gd (M:MV):Prop where
 ok:gE M=true
 mw:MW M
 ux:∀ j,U (M.x.getD j 0)
 pc:U M.pc
 hd:U M.hd
theorem cP (h:gE M=true):(bits .and .u64 M.pc 3==0)=true/\gR M.x.length M.x=true/\be M.cs.length M.cs M.pr=true/\bq M.ram.length=true/\kP M.d.xs.length M.d.ys.length M.d.ir=true/\(M.hl||(M.hd==0))=true/\lD M=true:=by unfold gE at h;simp only [Bool.and_eq_true] at h;obtain ⟨⟨⟨⟨⟨⟨a,b⟩,c⟩,d⟩,e⟩,f⟩,g⟩:=h;exact ⟨a,b,c,d,e,f,g⟩
theorem kN {M:MV} (a:(bits .and .u64 M.pc 3==0)=true) (b:gR M.x.length M.x=true) (c:be M.cs.length M.cs M.pr=true) (d:bq M.ram.length=true) (e:kP M.d.xs.length M.d.ys.length M.d.ir=true) (f:(M.hl||(M.hd==0))=true) (g:lD M=true):gE M=true:=by unfold gE;rw [a,b,c,d,e,f,g];rfl
theorem Gd.len (h:Gd M):iU M:=by obtain ⟨_,a,c,d,e,_,_⟩:=cP h.ok;unfold gR at a;rw [Bool.and_eq_true,decide_eq_true_eq] at a;have b:=km c;have g:=gu d;have f:=uo e;exact ⟨ab,ab,ab,ab,ab⟩
theorem Gd.mem (h:Gd M) {R:List Int} (hl:R.length=M.ram.length) (i:∀ y ∈ R,(Lit.int .u8 y).wf=true):Gd (bG M R):=by obtain ⟨a,b,c,d,e,f,g⟩:=cP h.ok;exact ⟨kN (M:=bG M R) a b c (by show bq R.length=true;rw [hl];exact d) e f g,⟨h.mw.cs,i,h.mw.xs,h.mw.ys⟩,h.ux,h.pc,h.hd⟩
theorem Gd.free (h:Gd M):Gd (lB M):=by obtain ⟨a,b,c,d,e,g,f⟩:=cP h.ok;exact ⟨kN (M:=lB M) a b c d e rfl f,⟨h.mw.cs,h.mw.ram,h.mw.xs,h.mw.ys⟩,h.ux,h.pc,(show U 0 from ⟨a6,a6⟩)⟩
theorem Gd.let_ (h:Gd M) (pa:Int):Gd (nO M pa):=by
 unfold nO;split;·exact h.free
 ·exact h
theorem IH (p:Int->Prop) (h:∀ a b c:Bool,p (Uz.wrap (Uz.wrap (Uz.wrap (8*gv a)+Uz.wrap (128*gv b))+Uz.wrap (2048*gv c)))):p (dD V):=h _ _ _
theorem LF:bits .and .u64 (dD V) 2184=dD V:=by refine IH V (λx=>bits .and .u64 x 2184=x) ?_;decide +kernel
theorem Oh:U (dD V):=bI _
theorem Cd {i:Nat} (a:i<64):bt (dD V) i=(bt (dD V) i&&bt 2184 i):=by have:=az (dD V) 2184 i;rw [LF] at this;exact this
theorem Gd.dev (h:Gd M) {D:DV} (t:kP D.xs.length D.ys.length D.ir=true) (hb:dp D):Gd (bL (ch M D)):=by
 obtain ⟨o,p,w,q,x,r,y⟩:=cP h.ok;obtain ⟨d,f,l,_,_,_⟩:=aI h.ok;have s:=dX f 9 ab;have n:bits .and .u64 (M.cs.getD 9 0) 2730=M.cs.getD 9 0:=beq_iff_eq.1 s;have u:fy 9 (bits .or .u64 (bits .andNot .u64 (M.cs.getD 9 0) 2184) (dD D))=true:=by show (bits .and .u64 (bits .or .u64 (bits .andNot .u64 (M.cs.getD 9 0) 2184) (dD D)) 2730==bits .or .u64 (bits .andNot .u64 (M.cs.getD 9 0) 2184) (dD D))=true;refine beq_iff_eq.2 (bu _ _ (aj _ _ _) (aj _ _ _) λi c=>?_);have v:bt (M.cs.getD 9 0) i=(bt (M.cs.getD 9 0) i&&bt 2730 i):=(by have:=az (M.cs.getD 9 0) 2730 i;rw [n] at this;exact this);have m:=Cd D c;rw [az,cg,aA _ _ _ c];have k:∀ j,j<64->∀ a b:Bool,(a=(a&&bt 2730 j))->(b=(b&&bt 2184 j))->(((a&&!bt 2184 j)||b)&&bt 2730 j)=((a&&!bt 2184 j)||b):=bb;exact k i c _ _ v m
 have g:br 22 (M.cs.set 9 (bits .or .u64 (bits .andNot .u64 (M.cs.getD 9 0) 2184) (dD D)))=true:=cE M.cs d f 9 ab _ u;refine ⟨kN (M:=bL (ch M D)) o p ?_ q t r ?_,⟨?_,h.mw.ram,hb.1,hb.2⟩,h.ux,h.pc,h.hd⟩;·show be (M.cs.set 9 _).length (M.cs.set 9 _) M.pr=true;unfold be;rw [List.length_set,d,l,Bool.and_true];exact g
 ·show (bits .and .u64 ((M.cs.set 9 (bits .or .u64 (bits .andNot .u64 (M.cs.getD 9 0) 2184) (dD D))).getD 9 0) 2184==dD D)=true;have e:(M.cs.set 9 (bits .or .u64 (bits .andNot .u64 (M.cs.getD 9 0) 2184) (dD D))).getD 9 0=bits .or .u64 (bits .andNot .u64 (M.cs.getD 9 0) 2184) (dD D):=(by rw [List.getD_eq_getElem?_getD,List.getElem?_set_self ab];rfl);rw [e];refine beq_iff_eq.2 (bu _ _ (aj _ _ _) (Oh D) λi c=>?_);have m:=Cd D c;rw [az,cg,aA _ _ _ c];have k:∀ j,j<64->∀ a b:Bool,(b=(b&&bt 2184 j))->(((a&&!bt 2184 j)||b)&&bt 2184 j)=b:=bb;exact k i c _ _ m
 ·intro j;show U ((M.cs.set 9 (bits .or .u64 (bits .andNot .u64 (M.cs.getD 9 0) 2184) (dD D))).getD j 0);rw [List.getD_eq_getElem?_getD,List.getElem?_set];split
  ·split;·exact aj .or (bits .andNot .u64 (M.cs.getD 9 0) 2184) (dD D)
   ·exact ⟨a6,a6⟩
  ·have:=h.mw.cs j;rw [List.getD_eq_getElem?_getD] at this;exact this
theorem LH (h:dp V) (k:Nat):dp (jq V k).2.1:=by
 have b:dp zeroD:=⟨λy a=>(nomatch a),λy a=>(nomatch a)⟩;unfold jq;split;·exact h
 ·exact h
 ·exact h
 ·exact ⟨λy a=>h.1 y (List.mem_of_mem_drop a),h.2⟩
 ·exact h
 ·exact h
 ·exact b
theorem LJ (h:dp V) (x addr size:Int):dp (fL V x (gC addr size)).1:=by
 have n:dp zeroD:=⟨λy a=>(nomatch a),λy a=>(nomatch a)⟩;have c:=EZ V x;have g:=E4 V x;have i:=E5 V x;have b:(fL V x 3).1.xs=V.xs/\((fL V x 3).1.ys=V.ys\/(fL V x 3).1.ys=V.ys++[IntKind.u8.wrap x]):=by
  by_cases d:V.ys.length<4096;·rw [yA _ _ d];exact ⟨rfl,Or.inr rfl⟩
  ·rw [yB _ _ d];exact ⟨rfl,Or.inl rfl⟩
 obtain ⟨q,j⟩:∃ q,fL V x 4=(⟨V.t,V.cm,V.so,V.xs,V.ys,q⟩,true):=⟨_,E6 V x⟩;have l:=E7 V x;have m:=E8 V x;generalize (bits .and .u64 x 1==1)=r at c;have f:(Lit.int .u8 (IntKind.u8.wrap x)).wf=true:=ze (y:=IntKind.u8.wrap x) (by rw [IntKind.wrap_u8];omega);generalize IntKind.u8.wrap x=z at b f;refine jM addr size (λk=>dp (fL V x k).1) (λ_ _=>?_) (λ_ _=>?_) (λ_ _=>?_) (λ_ _=>?_) (λ_ _=>?_) (λ_ _=>?_) (λ_ _ _ _ _ _=>?_);·show dp (fL V x 0).1;rw [c];exact ⟨h.1,h.2⟩
 ·show dp (fL V x 1).1;rw [g];exact ⟨h.1,h.2⟩
 ·show dp (fL V x 2).1;rw [i];exact ⟨h.1,h.2⟩
 ·show dp (fL V x 3).1;refine ⟨by rw [b.1];exact h.1,λy a=>?_⟩;rcases b.2 with e | e<;>rw [e] at a;·exact h.2 y a
  ·rcases List.mem_append.1 a with a|a;·exact h.2 y a
   ·rw [List.mem_singleton.1 a];exact f
 ·have e:(fL V x 4).1=⟨V.t,V.cm,V.so,V.xs,V.ys,q⟩:=congrArg Prod.fst j;exact e ▸ (⟨h.1,h.2⟩:dp ⟨V.t,V.cm,V.so,V.xs,V.ys,q⟩)
 ·show dp (fL V x 5).1;rw [l];exact h
 ·show dp (fL V x 6).1;rw [m];exact n
theorem Gd.at_ (h:Gd M) (pa size kind x:Int):Gd (sA M pa size kind x).2.1:=by
 obtain ⟨_,_,_,_,c,_,_⟩:=cP h.ok;have a:dp M.d:=⟨h.mw.xs,h.mw.ys⟩;unfold sA;split
 ·split;·exact (h.mem (kI _ _ _ _) (Kw _ h.mw.ram _ _ _)).let_ pa
  ·exact h
 ·split
  ·split;·rename_i b;exact h.dev (FL _ _ c b) (LH _ a _)
   ·exact h
  ·split
   ·split;·rename_i b;exact (h.dev (FQ _ _ _ _ c b) (LJ _ a _ _ _)).let_ pa
    ·exact h
   ·exact h
theorem Gd.marked (h:Gd M) (F:Fd):Gd (bG M (bo M.ram F)):=h.mem (kj _ _) (zf _ h.mw.ram F)
theorem Gd.acc (h:Gd M) (addr size kind x:Int):Gd (aC M addr size kind x).2.1:=by
 unfold aC;split;·exact h
 ·unfold yV;split;·exact h.marked _
  ·split;·exact h.marked _
   ·exact (h.marked _).at_ _ _ _ _
theorem Ce:(nO b L).pc=b.pc/\(nO b L).x=b.x/\(nO b L).pr=b.pr/\(nO b L).wt=b.wt:=by unfold nO;split<;>exact ⟨rfl,rfl,rfl,rfl⟩
theorem Oi:(sA b L d e m).2.1.pc=b.pc/\(sA b L d e m).2.1.x=b.x/\(sA b L d e m).2.1.pr=b.pr/\(sA b L d e m).2.1.wt=b.wt:=by
 unfold sA;split
 ·split;·exact Ce (bG b _) L
  ·exact ⟨rfl,rfl,rfl,rfl⟩
 ·split;·split<;>exact ⟨rfl,rfl,rfl,rfl⟩
  ·split
   ·split;·exact Ce (bL (ch b _)) L
    ·exact ⟨rfl,rfl,rfl,rfl⟩
   ·exact ⟨rfl,rfl,rfl,rfl⟩
theorem i8:(aC b L d e m).2.1.pc=b.pc/\(aC b L d e m).2.1.x=b.x/\(aC b L d e m).2.1.pr=b.pr/\(aC b L d e m).2.1.wt=b.wt:=by
 unfold aC;split;·exact ⟨rfl,rfl,rfl,rfl⟩
 ·unfold yV;split;·exact ⟨rfl,rfl,rfl,rfl⟩
  ·split;·exact ⟨rfl,rfl,rfl,rfl⟩
   ·exact Oi (bG b _) _ _ _ _
theorem vy (lv:Nat):(db s L d e m o lv).code=0\/(db s L d e m o lv).code=eI e\/(db s L d e m o lv).code=dz e:=by
 unfold db;split;·exact Or.inr (Or.inl rfl)
 ·split;·exact Or.inr (Or.inl rfl)
  ·split;·exact Or.inr (Or.inl rfl)
   ·split
    ·split;·exact Or.inl rfl
     ·exact Or.inr (Or.inr rfl)
    ·exact Or.inl rfl
theorem En (zs:List Int) (n:Nat) (l:List Int) (p va kind:Int):∀ a T,(bJ zs n l p va kind a T).code=0\/(bJ zs n l p va kind a T).code=eI kind\/(bJ zs n l p va kind a T).code=dz kind:=by
 intro a;induction a with
 | zero =>
   intro T;rw [gK];split
   ·split
    ·split;·exact Or.inr (Or.inl rfl)
     ·split;·rw [if_pos (show kG _ 0=true from by unfold kG;simp)];exact Or.inr (Or.inl rfl)
      ·exact vy _ _ _ _ _ _ _
    ·exact Or.inr (Or.inr rfl)
   ·exact Or.inr (Or.inr rfl)
 | succ a b =>
   intro T;rw [gK];split
   ·split
    ·split;·exact Or.inr (Or.inl rfl)
     ·split
      ·split;·exact Or.inr (Or.inl rfl)
       ·exact b _
      ·exact vy _ _ _ _ _ _ _
    ·exact Or.inr (Or.inr rfl)
   ·exact Or.inr (Or.inr rfl)
theorem xP:(bT s B E L d e).code=0\/(bT s B E L d e).code=eI e\/(bT s B E L d e).code=dz e:=by
 unfold bT;split;·exact Or.inl rfl
 ·split;·exact Or.inr (Or.inl rfl)
  ·exact En _ _ _ _ _ _ _ _
theorem LK:eI L=12\/eI L=13\/eI L=15:=by
 unfold eI;repeat' split
 all_goals simp
theorem II:dz L=1\/dz L=5\/dz L=7:=by
 unfold dz;repeat' split
 all_goals simp
theorem lI:∃ c:Nat,c<16/\(bT s B E L d e).code=c:=by
 have a:=LK e;have b:=II e;rcases xP s B E L d e with h|h|h;·exact ⟨0,ab,h⟩
 ·rcases a with kind|kind|kind;·exact ⟨12,ab,yn⟩
  ·exact ⟨13,ab,yn⟩
  ·exact ⟨15,ab,yn⟩
 ·rcases b with kind|kind|kind;·exact ⟨1,ab,yn⟩
  ·exact ⟨5,ab,yn⟩
  ·exact ⟨7,ab,yn⟩
theorem tL:∃ c:Nat,c<16/\ig L=c+16:=by
 unfold ig;split;·exact ⟨1,ab,rfl⟩
 ·split;·exact ⟨5,ab,rfl⟩
  ·exact ⟨7,ab,rfl⟩
theorem Oj:∃ c:Nat,c<16/\oo L=c+16:=by
 unfold oo;split;·exact ⟨0,ab,rfl⟩
 ·split;·exact ⟨4,ab,rfl⟩
  ·exact ⟨6,ab,rfl⟩
theorem Ok:(sA b L d e m).2.2=0\/∃ c:Nat,c<16/\(sA b L d e m).2.2=c+16:=by
 unfold sA;split;·split<;>exact Or.inl rfl
 ·split
  ·split;·exact Or.inl rfl
   ·exact Or.inr (tL e)
  ·split
   ·split;·exact Or.inl rfl
    ·exact Or.inr (tL e)
   ·exact Or.inr (tL e)
theorem LL:(aC b L d e m).2.2=0\/∃ c:Nat,c<16/\(aC b L d e m).2.2=c+16:=by
 unfold aC;split;·exact Or.inr (Oj e)
 ·unfold yV;split;·obtain ⟨c,a,kind⟩:=lI b.ram b.ram.length b.cs (fV b.cs b.pr e) L e;refine Or.inr ⟨c,a,?_⟩;show wrap64 ((bT b.ram b.ram.length b.cs (fV b.cs b.pr e) L e).code+16)=_;rw [kind];unfold wrap64;omega
  ·split;·exact Or.inr (tL e)
   ·exact Ok _ _ _ _ _
end Go.Proofs.YtfagphfjfhpmjaaGreatDoor
