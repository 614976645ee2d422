/- Own lemmas. -/
import Derived.Test.YtjifdmoehfbihaaGreatDoorAut
import Derived.Test.YtjifdmoehfbihaaGreatDoorK29
import Derived.Test.YtjifdmoehfbihaaGreatDoorK33
import Derived.Test.YtjifdmoehfbihaaGreatDoorK34
set_option maxRecDepth 100000
namespace Go.Proofs.YtjifdmoehfbihaaGreatDoor
open Go.RowKit Tryz
open IntKind renaming u64->Uz
set_option linter.unusedVariables false
theorem TA {a:Int} (b:U a) (n:Nat):U (a/2^n):=by have c:(0:Int)<2^n:=Int.pow_pos ab;refine ⟨Int.ediv_nonneg b.1 ab,?_⟩;have:a/2^n<=a:=Int.ediv_le_self _ b.1;have:=b.2;omega
theorem MN {a b:Int} (c:U a) (hb:U b):U (kB a b):=by unfold kB;refine ⟨Int.ediv_nonneg (Int.mul_nonneg c.1 hb.1) ab,Int.ediv_lt_of_lt_mul ab ?_⟩;have d:a*b<=a*18446744073709551616:=Int.mul_le_mul_of_nonneg_left (by have:=hb.2;omega) c.1;have e:a*18446744073709551616<18446744073709551616*18446744073709551616:=Int.mul_lt_mul_of_pos_right c.2 ab;omega
theorem UB (f:AF) {a b:Int} (d:U a) (hb:U b):U (f.v a b):=by
 have g:∀ c:Bool,U (DD c):=λc=>by cases c<;>exact ⟨bb,bb⟩
 have e:U (fX a b):=by unfold fX;split;exact aP _;exact MN d hb
 cases f<;>unfold AF.v<;>dsimp only;·exact aP _
 ·exact g _
 ·exact g _
 ·exact af _ _ _
 ·exact af _ _ _
 ·exact af _ _ _
 ·exact aP _
 ·exact TA d _
 ·exact aP _
 ·exact aP _
 ·exact aP _
 ·unfold l5;split;exact aP _;exact e
 ·exact e
 ·exact MN d hb
 ·split;exact ⟨bb,bb⟩;exact aP _
 ·split;exact ⟨bb,bb⟩;exact aP _
 ·split;exact d;exact aP _
 ·split;·exact d
  ·rw [Int.tmod_eq_emod_of_nonneg d.1];have h:=Int.emod_nonneg a (show b≠0 by assumption);have i:=Int.emod_lt_of_pos a (show 0<b by have:=hb.1;omega);exact ⟨h,by have:=hb.2;omega⟩
theorem TB (op:Int) {a b:Int} (c:U a) (hb:U b):U (mV op a b):=by
 unfold mV;split
 ·cases nX (op-22).toNat with
  | d f=>exact UB f c hb
  | w f l r=>exact bf _
 ·exact kO
theorem Gd.al4 {M:MV} (h:Gd M):M.pc%4=0:=by have a:=(eI h.ok).1;rw [O4 _ h.pc] at a;exact eq_of_beq a
theorem Sf {x:Int} (h:U x) (h4:x%4=0):bits .and .u64 x 3=0:=by rw [O4 _ h,h4]
theorem Sg {M:MV} (h:Gd M):bits .and .u64 (Uz.wrap (M.pc+4)) 3=0:=Sf (aP _) (by have:=h.al4;rw [IntKind.wrap_u64];omega)
theorem Sh {x:Int} (h:U x) (he:x%2=0) (g:(bits .and .u64 x 2 != 0)=false):bits .and .u64 x 3=0:=by
 have k:bits .and .u64 x 2=0:=ul
 refine br _ _ (af _ _ _) kO λi l=>?_;have d:bt x 0=false:=by have:bits .and .u64 x 1=x%2:=cy x 1 h.1 h.2 ab;rw [he] at this;have q:=au x 1 0;rw [this] at q;have a:bt 0 0=false:=bb;have b:bt 1 0=true:=bb;rw [a,b,Bool.and_true] at q;exact q.symm
 have f:bt x 1=false:=by have q:=au x 2 1;rw [k] at q;have a:bt 0 1=false:=bb;have b:bt 2 1=true:=bb;rw [a,b,Bool.and_true] at q;exact q.symm
 rw [au];have key:∀ j,j<64->∀ c:Bool,(j=0->c=false)->(j=1->c=false)->(c&&bt 3 j)=bt 0 j:=bv
 exact key i l _ (λe=>by rw [e];exact d) (λe=>by rw [e];exact f)
theorem Jz (x:Int):bits .andNot .u64 x 1%2=0:=by
 have a:=af .andNot x 1;have d:bits .and .u64 (bits .andNot .u64 x 1) 1=bits .andNot .u64 x 1%2:=cy _ 1 a.1 a.2 ab;rw [<- d];refine br _ _ (af _ _ _) kO λi b=>?_;rw [au,aw _ _ _ b];have key:∀ j,j<64->∀ c:Bool,((c&&!bt 1 j)&&bt 1 j)=bt 0 j:=bv
 exact key i b _
theorem MO {l:List Int} (h:∀ j,U (l.getD j 0)) (n:Int):U (dq l n):=by
 unfold dq;split;·exact kO
 ·split;·exact ⟨bb,bb⟩
  ·split;·exact af _ _ _
   ·split;·exact af _ _ _
    ·split;·exact af _ _ _
     ·exact h _
theorem GF (l:List Int) (h:l.length=22) (n x:Int):bits .and .u64 ((bU l n x).getD 9 0) 2184=bits .and .u64 (l.getD 9 0) 2184:=by
 have d:∀ m,(∀ i,i<64->(bt m i&&bt 2184 i)=false)->bits .and .u64 (iB (l.getD 9 0) m x) 2184=bits .and .u64 (l.getD 9 0) 2184:=λm p=>by
  refine br _ _ (af _ _ _) (af _ _ _) λi f=>?_;unfold iB;rw [au,cn,au,aw _ _ _ f,au];have:=p i f;cases j:bt 2184 i;·simp
  ·rw [j,Bool.and_true] at this;rw [this];simp
 have set:∀ k,k≠9->∀ v,(l.set k v).getD 9 0=l.getD 9 0:=λk o v=>jM l k 9 v o;have a:∀ v,(l.set 9 v).getD 9 0=v:=λv=>rD l 9 v ab;have q:∀ i,i<64->∀ c:Bool,((c&&bt 2 i)&&bt 2184 i)=false:=bv
 have b:∀ i,i<64->(bt 546 i&&bt 2184 i)=false:=bv
 unfold bU;split;·rfl
 ·split;·rw [set 0 ab]
  ·split;·rw [set 3 ab]
   ·split;·rw [a];exact d _ λi f=>by rw [au];exact q i f _
    ·unfold fN;split;·rw [a];exact d _ b
     ·split
      ·split;·rw [set 15 ab]
       ·rfl
      ·split;·rw [set 16 ab]
       ·rename_i r _ _;have s:=qW n;have g:(cK n).toNat≠9\/cK n=-1:=ab;split
        ·split;·rfl
         ·rw [set _ ab]
        ·rcases g with e|e;·rw [set _ e]
         ·rw [e];exact congrArg (λy=>bits .and .u64 y 2184) (set 0 ab _)
theorem Gd.cs_ {M:MV} (h:Gd M) {l:List Int} (hz:l.length=22) (a:bq 22 l=true) (m:∀ j,U (l.getD j 0)) (k:bits .and .u64 (l.getD 9 0) 2184=bits .and .u64 (M.cs.getD 9 0) 2184):Gd (iz M l):=by
 obtain ⟨c,d,n,e,f,g,i⟩:=eI h.ok;obtain ⟨_,_,b,_,_,_⟩:=ay h.ok;refine ⟨kJ (M:=iz M l) c d ?_ e f g ?_,⟨m,h.mw.ram,h.mw.xs,h.mw.ys⟩,h.ux,h.pc,h.hd⟩;·show aX l.length l M.pr=true;unfold aX;rw [hz,a,b];rfl
 ·show (bits .and .u64 (l.getD 9 0) 2184==dD M.d)=true;rw [k];exact i
theorem Gd.priv {M:MV} (h:Gd M) {p:Int} (j:bC p=true):Gd (gi M p):=by obtain ⟨c,d,k,e,f,g,i⟩:=eI h.ok;obtain ⟨a,b,_,_,_,_⟩:=ay h.ok;refine ⟨kJ (M:=gi M p) c d ?_ e f g i,⟨h.mw.cs,h.mw.ram,h.mw.xs,h.mw.ys⟩,h.ux,h.pc,h.hd⟩;show aX M.cs.length M.cs p=true;unfold aX;rw [a,b,j];rfl
def Gw (M:MV):Prop:=Gd M/\Ud M.d
theorem iN {M:MV} (h:Gw M) {k:Nat} (hk:k<16) (i:Bool) {v:Int} (hv:U v):Gw (aK M k i v):=⟨h.1.trap hk i hv,h.2⟩
theorem zR {M:MV} (h:Gw M) {rd x to:Int} (a:0<=rd) (b:rd<=31) (hx:U x) (c:U to) (h4:bits .and .u64 to 3=0):Gw (aT M rd x to):=⟨h.1.done a b hx c h4,h.2⟩
theorem jx {M:MV} (h:Gw M) (a n kind:Int) {x:Int} (hx:U x):Gw (aC M a n kind x).2.1:=⟨h.1.acc a n kind x,zK h.2 a n kind hx⟩
theorem kP {M:MV} (h:Gw M) {a n kind x v:Int} (hx:U x) (b:((aC M a n kind x).2.2 != 0)=true) (hv:U v):Gw (cF (aC M a n kind x) 0 v).1:=by unfold cF;exact iN (jx h a n kind hx) (jW rfl b).2 false hv
theorem MP {M:MV} (h:Gw M) (a kind:Int):Gw (cZ M a kind):=⟨h.1.marked _,h.2⟩
theorem iq {M:MV} (h:Gw M) {rd x:Int} (a:0<=rd) (b:rd<=31) (hx:U x) {N:MV} (c:Gw N) (e:N.pc=M.pc):Gw (aT N rd x (Uz.wrap (M.pc+4))):=zR c a b hx (aP _) (by rw [<- e];exact Sg c.1)
theorem Pn {M:MV} (h:Gw M) {i:Ins} (d:jA i) (g:3<=i.op) (e:i.op<=10) (a b:Int):Gw (nz M i a b (Uz.wrap i.imm)).1:=by
 have c:U (fE M i a b (Uz.wrap i.imm))/\fE M i a b (Uz.wrap i.imm)%2=0:=by
  have j:=h.1.al4;unfold fE;split;·exact ⟨af .andNot _ 1,Jz _⟩
  ·rename_i k;split;·refine ⟨aP _,?_⟩;rw [IntKind.wrap_u64];omega
   ·refine ⟨aP _,?_⟩;have:=d.even ab;rw [IntKind.wrap_u64,IntKind.wrap_u64];omega
 unfold nz;split;·exact iN h bb false c.1
 ·rename_i f;refine zR h ?_ ?_ (aP _) c.1 (Sh c.1 c.2 i6);·split;exact Int.le_refl 0;exact d.rd0
  ·split;decide;exact d.rd31
theorem Po {M:MV} (h:Gw M) {i:Ins} (e:jA i) (c:11<=i.op) (d:i.op<=17) {a:Int} (f:U a):Gw (lI M i a).1:=by
 have g:jt i.op<=8:=by obtain ⟨b,m,k,l,j⟩:=i;dsimp only at c d ⊢;obtain rfl|rfl|rfl|rfl|rfl|rfl|rfl:b=11\/b=12\/b=13\/b=14\/b=15\/b=16\/b=17:=ab;all_goals decide
 unfold lI;dsimp only;split;·exact kP h kO ‹_› f
 ·refine iq (jx h a _ 2 kO) e.rd0 e.rd31 ?_ (jx h a _ 2 kO) rfl;split;·exact aP _
  ·exact sU h.1 h.2 a _ g 2 0
theorem MQ {M:MV} (h:Gw M) {i:Ins} {a b:Int} (c:U a) (hb:U b):Gw (lJ M i a b).1:=by
 unfold lJ;dsimp only;split;·exact kP h hb ‹_› c
 ·exact iq (jx h a _ 3 hb) bb bb kO (jx h a _ 3 hb) rfl
theorem zS {M:MV} (h:Gw M) {b:Bool} {a:Int} (c:U a) (hb:b=true\/a=0):Gw (bZ M b a):=⟨h.1.hold c hb,h.2⟩
theorem Pp {M:MV} (h:Gw M) {i:Ins} (f:jA i) {a b:Int} (g:U a) (hb:U b):Gw (hZ M i a b).1:=by
 have p:bp i.op<=8:=by unfold bp;split<;>decide
 have d:=MP h a 3;have q:∀ kind,(cZ M a kind).pc=M.pc:=λ_=>rfl;unfold hZ;split
 ·unfold SJ;dsimp only;split;·exact kP h kO ‹_› g
  ·have o:=jx h a (bp i.op) 2 kO;have e:=(iJ M a (bp i.op) 2 0).1;exact iq h f.rd0 f.rd31 (aP _) (zS (MP o a 2) (tM _ _ _ _ _ _ g) (Or.inl rfl)) e
 ·split;·exact iN h bb false g
  ·split;·obtain ⟨c,j,k⟩:=lG M.ram M.ram.length M.cs (fR M.cs M.pr 3) a 3;have l:(cg M a 3).code=c:=k;rw [l,Int.toNat_natCast];exact iN d j false g
   ·split
    ·unfold TU;split
     ·dsimp only;split;·exact kP d hb ‹_› g
      ·exact iq d f.rd0 f.rd31 kO (zS (jx d a _ 3 hb) kO (Or.inr rfl)) (iJ (cZ M a 3) a (bp i.op) 3 b).1
     ·exact iq d f.rd0 f.rd31 ⟨bb,bb⟩ (zS d kO (Or.inr rfl)) rfl
    ·unfold Pi;dsimp only;split;·rename_i k;unfold cF;exact iN (jx d a _ 2 kO) (zJ rfl k).2.2 false g
     ·have m:=jx d a (bp i.op) 2 kO;have n:U (iI i.op (aC (cZ M a 3) a (bp i.op) 2 0).1 b):=GD _ (sU d.1 d.2 a _ p 2 0) hb;split;·exact kP m n ‹_› g
      ·exact iq d f.rd0 f.rd31 (aP _) (jx m a _ 3 n) ((iJ _ _ _ _ _).1.trans (iJ _ _ _ _ _).1)
theorem Si {M:MV} (h:Gw M) {i:Ins} (j:jA i) {a w:Int} (l:U a) (o:U w):Gw (ml M i a w).1:=by
 unfold ml;split;·exact iN h bb false o
 ·rename_i g;have n:=MO h.1.mw.cs i.imm;have d:=iq h j.rd0 j.rd31 n h rfl;have b:jf M.cs.length M.cs i.imm M.pr=true:=by
   cases q:jf M.cs.length M.cs i.imm M.pr;·rw [q] at g;exact absurd rfl g
   ·rfl
  have f:dj i.imm=true:=(by unfold jf at b;simp only [Bool.and_eq_true] at b;exact b.1.1.2);have k:U (tB i a (dq M.cs i.imm)):=by
   have m:U (lK i a):=(by unfold lK;split;exact aP _;exact l);unfold tB;split;·exact af _ _ _
   ·split;·exact af _ _ _
    ·exact m
  dsimp only;split;·generalize aT M i.rd (dq M.cs i.imm) (Uz.wrap (M.pc+4))=N at d ⊢;obtain ⟨c,e,_,_,_,_⟩:=ay d.1.ok;exact ⟨d.1.cs_ (by rw [pk];exact c) (sK _ c d.1.mw.cs e _ _ k f) (Gc _ d.1.mw.cs _ _ k) (GF _ c _ _),d.2⟩
  ·exact d
theorem vX (s:Int) (h:U s) (a:fy 0 s=true) (m:Bool):bC (cW s m)=true:=by
 cases m with
 | true=>exact vq s h a
 | false =>show bC (wrap64 (ak s 8))=true;rw [rL s 8 h];split<;>decide +kernel
theorem Sj {M:MV} (h:Gw M) {i:Ins} (g:jA i) {w:Int} (d:U w):Gw (jN M i w).1:=by
 obtain ⟨b,a,f,_,_,_⟩:=ay h.1.ok;have u0:=h.1.mw.cs 0;have c:=dR a 0 ab;unfold jN;split;·refine iN h ?_ false kO;unfold oB;split;decide;split<;>decide
 ·split;·exact iN h bb false h.1.pc
  ·split
   ·split;·exact iN h bb false d
    ·have e:Gd (iz M (M.cs.set 0 (cL (M.cs.getD 0 0) (i.op==96)))):=h.1.cs_ (by rw [List.length_set];exact b) (cH _ b a 0 ab _ (BT _ u0 _ c)) (jp _ h.1.mw.cs 0 _ (qJ _ _)) (by rw [jM _ 0 9 _ ab]);refine zR ⟨e.priv (vX _ u0 c _),h.2⟩ bb bb kO ?_ ?_;·unfold eg;split;exact h.1.mw.cs 6;exact h.1.mw.cs 12
     ·unfold eg;split;·exact UM _ (Or.inl (dR a 6 ab))
      ·exact UM _ (Or.inr (dR a 12 ab))
   ·split;·exact iN h bb false d
    ·split;·exact iq h bb bb kO (N:=fj M true) ⟨h.1.wait true,h.2⟩ rfl
     ·exact iq h bb bb kO h rfl
theorem Pq {M:MV} (h:Gw M) {i:Ins} (a:jA i) {w:Int} (d:U w):Gw (cR M i w).1:=by
 have b:=h.1.ux i.a.toNat;have c:=h.1.ux i.b.toNat;have e:=a.op1;unfold cR;dsimp only;split;·exact iq h a.rd0 a.rd31 (aP _) h rfl
 split;·exact iq h a.rd0 a.rd31 (aP _) h rfl
 split;·exact Pn h a ab ‹_› _ _
 split;·exact Po h a ab ‹_› (aP _)
 split;·exact MQ h (aP _) c
 split;·exact iq h a.rd0 a.rd31 (TB _ b (by split;exact c;exact aP _)) h rfl
 split;·exact Pp h a b c
 split;·exact iq h bb bb kO h rfl
 split;·exact Si h a b d
 ·exact Sj h a d
theorem Ps {M:MV} (h:Gw M) (g:∀ l p,0<=fG l p->∃ k:Nat,k<16/\fG l p=k):Gw (fL M).1:=by
 have a:Gw (fj M false):=⟨h.1.wait false,h.2⟩;unfold fL;split;·exact h
 ·split;·rename_i f;obtain ⟨k,b,e⟩:=g _ _ f;rw [e,Int.toNat_natCast];exact iN a b true kO
  ·dsimp only;split;·exact kP a kO ‹_› (jx a M.pc 4 1 kO).1.pc
   ·have c:=sU a.1 a.2 M.pc 4 ab 1 0;split;·exact iN (jx a M.pc 4 1 kO) bb false c
    ·rename_i i d;exact Pq (jx a M.pc 4 1 kO) (zO d) c
theorem bx.swap {B E E':Nat} {w:World} {L1 L2:List FRow} {r:FRow} (h:bx B E w (L1++r::L2)) (q:FRow) (f:w.ownsRow E q.t 1 q.v q.n q.xs) (o:B<=E) (p:E<=E') (t:w.heap.size<=E'):bx B E' w (L1++q::L2):=by
 have d:∀ s ∈ L1++q::L2,s=q\/s ∈ L1++r::L2:=λs c=>by
  simp only [List.mem_append,List.mem_cons] at c ⊢;rcases c with c|c|c;·exact Or.inr (Or.inl c)
  ·exact Or.inl c
  ·exact Or.inr (Or.inr (Or.inr c))
 refine ⟨λs c=>?_,λs c k e=>?_,?_⟩
 ·rcases d s c with rfl|c;·exact cN f o
  ·exact h.own s c
 ·rcases d s c with rfl|c;·exact Nat.lt_of_lt_of_le (f.lt k e).2 t
  ·exact Nat.lt_of_lt_of_le (h.hi s c k e) p
 ·have j:=h.ne;rw [List.pairwise_append,List.pairwise_cons] at j ⊢;obtain ⟨l,⟨u,m⟩,n⟩:=j;refine ⟨l,⟨λs c k e e2=>?_,m⟩,λa i b g k e e2=>?_⟩;·have:=(f.lt k e).1;have:=h.hi s (by simp [c]) k e2;omega
  ·rcases List.mem_cons.1 g with rfl|g;·have:=(f.lt k e2).1;have:=h.hi a (by simp [i]) k e;omega
   ·exact n a i b (by simp [g]) k e e2
theorem bx.other {B E:Nat} {w w':World} {L:List FRow} (h:bx B E w L) (hk:∀ q ∈ L,∀ k,q.v.ownBlock=some k->w'.heap[k]?=w.heap[k]?):bx B E w' L:=⟨λr a=>fH (h.own r a) (hk r a),h.hi,h.ne⟩
theorem zT {g:Nat} {L1 L2:List FRow} {r q:FRow} (h:∀ s ∈ L1++r::L2,s.v.ownBlock≠some g) (b:q.v.ownBlock≠some g):∀ s ∈ L1++q::L2,s.v.ownBlock≠some g:=λs a=>by
 simp only [List.mem_append,List.mem_cons] at a;rcases a with a|rfl|a;·exact h s (by simp [a])
 ·exact b
 ·exact h s (by simp [a])
structure Tq (B g:Nat) (w0:World) (M:MV) (A:MA) (t:TV) (w:World):Prop where
 row:g8 ⟨g,bH M A t,[]⟩ w
 fam:bx B w.heap.size w (aI M A)
 ne:∀ q ∈ aI M A,q.v.ownBlock≠some g
 le:B<=w.heap.size
 os:w.os=w0.os
 tape:w.tape=w0.tape
 output:w.output=w0.output
 size:w0.heap.size<=w.heap.size
 block:∀ k,k<B->k≠g->w.heap[k]?=w0.heap[k]?
 t0:qV w0
 tb:0<B
 tn:0≠g
section
variable {B g : Nat} {w0 w w' : World} {M M' : MV} {A A' : MA} {t t' : TV}
theorem Tq.tab (h:Tq B g w0 M A t w):qV w:=λj a=>by have:=h.t0 j a;simp only [World.cell?,h.block _ h.tb h.tn];exact this
theorem Tq.sl (h:Tq B g w0 M A t w):sa w M A:=by obtain ⟨a,b,c,d,e⟩:=bx.rsl (A:=A) (x:=M.x) (cs:=M.cs) (ram:=M.ram) (xs:=M.d.xs) (ys:=M.d.ys) h.fam;exact ⟨a,b,c,d,e⟩
theorem Tq.glt (h:Tq B g w0 M A t w):g<w.heap.size:=let ⟨_,a⟩:=h.row;(Array.getElem?_eq_some_iff.1 a).1
theorem Tq.other {R:List Rw} {E:Nat} (h:Tq B g w0 M A t w) (f:bx B E w (aI M A)) (k:Iv [g] w R w'):bx B E w' (aI M A):=f.other λq a i e=>k.ag.block i ((f.own q a).lt i e).2 (by rw [List.mem_singleton];exact λe2=>h.ne q a (by rw [e,e2]))
theorem Tq.iv1 (h:Tq B g w0 M A t w) (k:Iv [g] w [⟨g,bH M' A' t',[]⟩] w') (f:bx B w'.heap.size w' (aI M' A')) (a:∀ q ∈ aI M' A',q.v.ownBlock≠some g):Tq B g w0 M' A' t' w' :=
 ⟨k.row1,f,a,Nat.le_trans h.le k.ag.size,k.ag.os.trans h.os,k.ag.tape.trans h.tape,k.ag.output.trans h.output,Nat.le_trans h.size k.ag.size,λi c b=>(k.ag.block i (Nat.lt_of_lt_of_le c h.le) (by rw [List.mem_singleton];exact b)).trans (h.block i c b),h.t0,h.tb,h.tn⟩
theorem Tq.iv (h:Tq B g w0 M A t w) (k:Iv [g] w [⟨g,bH M' A t',[]⟩] w') (a:aI M' A=aI M A):Tq B g w0 M' A t' w' :=
 h.iv1 k (by rw [a];exact (h.other h.fam k).low (Nat.le_refl _) k.ag.size) (by rw [a];exact h.ne)
theorem Tq.new (h:Tq B g w0 M A t w) (k:Iv [g] w [⟨g,bH M' A' t',[]⟩] w') (f:bx w.heap.size w'.heap.size w' (aI M' A')):Tq B g w0 M' A' t' w':=h.iv1 k (f.low h.le (Nat.le_refl _)) (λq a e=>by have:=((f.own q a).lt g e).1;have:=h.glt;omega)
theorem Tq.iv0 (h:Tq B g w0 M A t w):Iv [g] w [⟨g,bH M A t,[]⟩] w:=Iv.one h.row
theorem Tq.below (h:Tq B g w0 M A t w) (hb:Bw w w'):Tq B g w0 M A t w':=h.iv (h.iv0.below hb) rfl
theorem Tq.ram (h:Tq B g w0 M A t w) {zs:List Int} {a:Option Addr} {c:Nat} (k:Iv [g] w [⟨g,bH {M with ram:=zs} {A with ar:=a,cr:=c} t',[]⟩] w') (o:w'.ownsRow w.heap.size 5 1 (.slice a zs.length c) zs.length (zs.map (Value.int .u8))):Tq B g w0 (bL M zs) {A with ar:=a,cr:=c} t' w':=by refine h.iv1 (M':=bL M zs) k ?_ (zT (L1:=[aJ A.ax M.x.length A.cx M.x,aJ A.ac M.cs.length A.cc M.cs]) (L2:=[aF A.ai M.d.xs.length A.ci M.d.xs,aF A.ao M.d.ys.length A.co M.d.ys]) (r:=aF A.ar M.ram.length A.cr M.ram) (q:=aF a zs.length c zs) h.ne λe=>by have:=(o.lt g e).1;have:=h.glt;omega);have f:=h.other h.fam k;exact bx.swap (L1:=[aJ A.ax M.x.length A.cx M.x,aJ A.ac M.cs.length A.cc M.cs]) (r:=aF A.ar M.ram.length A.cr M.ram) (L2:=[aF A.ai M.d.xs.length A.ci M.d.xs,aF A.ao M.d.ys.length A.co M.d.ys]) f (aF a zs.length c zs) o h.le k.ag.size (Nat.le_refl _)
theorem Tq.csrs (h:Tq B g w0 M A t w) {zs:List Int} {b:Option Addr} {c:Nat} (a:M'.x=M.x/\M'.cs=zs/\M'.ram=M.ram/\M'.d=M.d) (k:Iv [g] w [⟨g,bH M' {A with ac:=b,cc:=c} t',[]⟩] w') (o:w'.ownsRow w.heap.size 22 1 (.slice b zs.length c) zs.length (zs.map (Value.int .u64))):Tq B g w0 M' {A with ac:=b,cc:=c} t' w':=by
 have d:=zT (L1:=[aJ A.ax M.x.length A.cx M.x]) (L2:=[aF A.ar M.ram.length A.cr M.ram,aF A.ai M.d.xs.length A.ci M.d.xs,aF A.ao M.d.ys.length A.co M.d.ys]) (r:=aJ A.ac M.cs.length A.cc M.cs) (q:=aJ b zs.length c zs) h.ne λe=>by have:=(o.lt g e).1;have:=h.glt;omega
 have f:=h.other h.fam k;have s:=bx.swap (L1:=[aJ A.ax M.x.length A.cx M.x]) (r:=aJ A.ac M.cs.length A.cc M.cs) (L2:=[aF A.ar M.ram.length A.cr M.ram,aF A.ai M.d.xs.length A.ci M.d.xs,aF A.ao M.d.ys.length A.co M.d.ys]) f (aJ b zs.length c zs) o h.le k.ag.size (Nat.le_refl _);refine h.iv1 k ?_ ?_;·unfold aI;rw [a.1,a.2.1,a.2.2.1,a.2.2.2];exact s
 ·unfold aI;rw [a.1,a.2.1,a.2.2.1,a.2.2.2];exact d
theorem rT {n:Nat} {a:Option Addr} {c:Nat} {xs:List Int} (h:w.ownsRow B 22 1 (.slice a xs.length c) xs.length (xs.map (Value.int .u64))) (hn:xs.length=n) (i:0<n):∃ b,a=some ⟨b,0,none⟩/\B<=b/\∀ j,j<n->w.cell? ⟨b,j,none⟩=some (.u (xs.getD j 0))/\w.frozen? ⟨b,j,none⟩=false:=by obtain ⟨b,g,e,f⟩:=jC h ab;simp only [Value.slice.injEq,true_and] at e;obtain ⟨d,e2⟩:=e;refine ⟨b,d,f,λj k=>?_⟩;rw [d] at h;refine ⟨?_,h.frozenAt j⟩;rw [h.cellAt j ab];rw [List.getElem?_map,List.getElem?_eq_getElem (show j<xs.length by omega),List.getD_eq_getElem?_getD,List.getElem?_eq_getElem (show j<xs.length by omega)];rfl
theorem Tq.atX (h:Tq B g w0 M A t w) (a:M.x.length=32):∃ b,A.ax=some ⟨b,0,none⟩/\b≠g/\∀ j,j<32->w.cell? ⟨b,j,none⟩=some (.u (M.x.getD j 0))/\w.frozen? ⟨b,j,none⟩=false:=by have f:w.ownsRow B 22 1 (.slice A.ax M.x.length A.cx) M.x.length (M.x.map (Value.int .u64)):=h.fam.own (aJ A.ax M.x.length A.cx M.x) dm;obtain ⟨b,c,i,d⟩:=rT f a ab;exact ⟨b,c,λe=>h.ne (aJ A.ax M.x.length A.cx M.x) dm (by show (Value.slice A.ax M.x.length A.cx).ownBlock=_;rw [c,e];rfl),d⟩
theorem Tq.atC (h:Tq B g w0 M A t w) (a:M.cs.length=22):∃ b,A.ac=some ⟨b,0,none⟩/\b≠g/\∀ j,j<22->w.cell? ⟨b,j,none⟩=some (.u (M.cs.getD j 0))/\w.frozen? ⟨b,j,none⟩=false:=by have f:w.ownsRow B 22 1 (.slice A.ac M.cs.length A.cc) M.cs.length (M.cs.map (Value.int .u64)):=h.fam.own (aJ A.ac M.cs.length A.cc M.cs) dm;obtain ⟨b,c,i,d⟩:=rT f a ab;exact ⟨b,c,λe=>h.ne (aJ A.ac M.cs.length A.cc M.cs) dm (by show (Value.slice A.ac M.cs.length A.cc).ownBlock=_;rw [c,e];rfl),d⟩
theorem Tq.good (h:Tq B g w0 M A t w):vL M.ram.length A.ar A.cr:=B9 (h.fam.own (aF A.ar M.ram.length A.cr M.ram) dm)
theorem Tq.setX (h:Tq B g w0 M A t w) {b:Nat} (hb:A.ax=some ⟨b,0,none⟩) (i:Nat) (v:Int):Tq B g w0 (xM M (M.x.set i v)) A t (w.setCell ⟨b,i,none⟩ (.u v)):=by
 have j:w.ownsRow B 22 1 (.slice A.ax M.x.length A.cx) M.x.length (M.x.map (Value.int .u64)):=h.fam.own (aJ A.ax M.x.length A.cx M.x) dm;rw [hb] at j;have f:=j.stored i (.u v);rw [mC] at f;have u:=(j.lt b rfl).1;have x:w.grownBy (w.setCell ⟨b,i,none⟩ (.u v)) (aJ A.ax M.x.length A.cx M.x).v.ownBlock:=by simp only [aJ];rw [hb];exact f.2
 have y:=bx.mark (L1:=[]) (r:=aJ A.ax M.x.length A.cx M.x) (L2:=[aJ A.ac M.cs.length A.cc M.cs,aF A.ar M.ram.length A.cr M.ram,aF A.ai M.d.xs.length A.ci M.d.xs,aF A.ao M.d.ys.length A.co M.d.ys]) h.fam x ((M.x.set i v).map (Value.int .u64)) qh;have a:(w.setCell ⟨b,i,none⟩ (.u v)).heap.size=w.heap.size:=aO _ _ _;have m:aI (xM M (M.x.set i v)) A=[]++⟨(aJ A.ax M.x.length A.cx M.x).t,(aJ A.ax M.x.length A.cx M.x).v,(aJ A.ax M.x.length A.cx M.x).n,(M.x.set i v).map (Value.int .u64)⟩::[aJ A.ac M.cs.length A.cc M.cs,aF A.ar M.ram.length A.cr M.ram,aF A.ai M.d.xs.length A.ci M.d.xs,aF A.ao M.d.ys.length A.co M.d.ys]:=by simp [aI,xM,aJ]
 have c:∀ k,k≠b->(w.setCell ⟨b,i,none⟩ (.u v)).heap[k]?=w.heap[k]?:=λk c=>Below.heap_setCell w _ _ k c;have d:g≠b:=λe=>h.ne (aJ A.ax M.x.length A.cx M.x) dm (by show (Value.slice A.ax M.x.length A.cx).ownBlock=_;rw [hb,e];rfl);refine ⟨?_,?_,(λq z=>by obtain ⟨C,n,l⟩:=jj (M:=M) (M':=xM M (M.x.set i v)) (A:=A) (show (M.x.set i v).length=M.x.length by simp) rfl rfl rfl rfl q z;rw [<- l];exact h.ne C n),by rw [a];exact h.le,h.os,h.tape,h.output,by rw [a];exact h.size,λk o p=>(c k ab).trans (h.block k o p),h.t0,h.tb,h.tn⟩;·obtain ⟨T,s⟩:=h.row;refine ⟨T,(c g d).trans (s.trans ?_)⟩;simp [bH,xM]
 ·rw [m,a];exact y.1
theorem Tq.setC (h:Tq B g w0 M A t w) {b:Nat} (hb:A.ac=some ⟨b,0,none⟩) (i:Nat) (v:Int):Tq B g w0 (cM M (M.cs.set i v)) A t (w.setCell ⟨b,i,none⟩ (.u v)):=by
 have j:w.ownsRow B 22 1 (.slice A.ac M.cs.length A.cc) M.cs.length (M.cs.map (Value.int .u64)):=h.fam.own (aJ A.ac M.cs.length A.cc M.cs) dm;rw [hb] at j;have f:=j.stored i (.u v);rw [mC] at f;have u:=(j.lt b rfl).1;have x:w.grownBy (w.setCell ⟨b,i,none⟩ (.u v)) (aJ A.ac M.cs.length A.cc M.cs).v.ownBlock:=by simp only [aJ];rw [hb];exact f.2
 have y:=bx.mark (L1:=[aJ A.ax M.x.length A.cx M.x]) (r:=aJ A.ac M.cs.length A.cc M.cs) (L2:=[aF A.ar M.ram.length A.cr M.ram,aF A.ai M.d.xs.length A.ci M.d.xs,aF A.ao M.d.ys.length A.co M.d.ys]) h.fam x ((M.cs.set i v).map (Value.int .u64)) qh;have a:(w.setCell ⟨b,i,none⟩ (.u v)).heap.size=w.heap.size:=aO _ _ _;have m:aI (cM M (M.cs.set i v)) A=[aJ A.ax M.x.length A.cx M.x]++⟨(aJ A.ac M.cs.length A.cc M.cs).t,(aJ A.ac M.cs.length A.cc M.cs).v,(aJ A.ac M.cs.length A.cc M.cs).n,(M.cs.set i v).map (Value.int .u64)⟩::[aF A.ar M.ram.length A.cr M.ram,aF A.ai M.d.xs.length A.ci M.d.xs,aF A.ao M.d.ys.length A.co M.d.ys]:=by simp [aI,cM,aJ]
 have c:∀ k,k≠b->(w.setCell ⟨b,i,none⟩ (.u v)).heap[k]?=w.heap[k]?:=λk c=>Below.heap_setCell w _ _ k c;have d:g≠b:=λe=>h.ne (aJ A.ac M.cs.length A.cc M.cs) dm (by show (Value.slice A.ac M.cs.length A.cc).ownBlock=_;rw [hb,e];rfl);refine ⟨?_,?_,(λq z=>by obtain ⟨C,n,l⟩:=jj (M:=M) (M':=cM M (M.cs.set i v)) (A:=A) rfl (show (M.cs.set i v).length=M.cs.length by simp) rfl rfl rfl q z;rw [<- l];exact h.ne C n),by rw [a];exact h.le,h.os,h.tape,h.output,by rw [a];exact h.size,λk o p=>(c k ab).trans (h.block k o p),h.t0,h.tb,h.tn⟩;·obtain ⟨T,s⟩:=h.row;refine ⟨T,(c g d).trans (s.trans ?_)⟩;simp [bH,cM]
 ·rw [m,a];exact y.1
theorem Tq.acc (h:Tq B g w0 M A t w) (a:Gd M) {addr size kind x:Int} (f:iW size=true) (b:1<=kind) (c:kind<=3) (d:kind=1->size=4) (i:U addr) (hx:U x):Calls prog 200 #[.func (.func 40) #[] #[],.agg (aq M A),.u addr,.i size,.i kind,.u x] w (xe w (aC M addr size kind x)):=by
 have q:vC M size kind=true:=by
  unfold vC;rw [a.ok,f,decide_eq_true ⟨b,c⟩];by_cases e:kind=1;·rw [d e];simp
  ·simp [e]
 have e:tN M addr size kind x=aC M addr size kind x:=by unfold tN;rw [if_pos q]
 rw [<- e];exact zE M A addr size kind x w a.len h.sl a.mw a.hd i hx h.tab (λ_=>h.good)
end
def wN (op:Int):Nat:=2^((bT (op-1).toNat).f3z%4).toNat
def wS (op:Int):Bool:=decide ((bT (op-1).toNat).f3z<4)
def ew (op:Int):Value :=
 if op<3 then .iface 176 (.agg #[])
 else if op<11 then .iface 177 (.agg #[])
 else if op<18 then mN .ld (wN op) (wS op)
 else if op<22 then mN .st (wN op) (wS op)
 else if op<63 then .iface 176 (.agg #[])
 else if op<85 then (if op=63\/op=74 then mN .hd (wN op) (wS op) else if op=64\/op=75 then mN .sc (wN op) (wS op) else mN .am (wN op) (wS op))
 else if op<87 then .iface 188 (.agg #[])
 else if op<93 then .iface 189 (.agg #[])
 else .iface 190 (.agg #[])
theorem MR:∀ k,k<98->0<=(bT k).f3z/\(bT k).f3z<8/\((10<=k/\k<=16)->wN ((k:Nat)+1:Int)=jt ((k:Nat)+1:Int)/\wS ((k:Nat)+1:Int)=decide (k<14))/\((17<=k/\k<=20)->wN ((k:Nat)+1:Int)=2^(k-17))/\((62<=k/\k<=83)->wN ((k:Nat)+1:Int)=bp ((k:Nat)+1:Int)/\wS ((k:Nat)+1:Int)=true):=by
 have h:(List.range 98).all (λk=>decide (0<=(bT k).f3z/\(bT k).f3z<8/\((10<=k/\k<=16)->wN ((k:Nat)+1:Int)=jt ((k:Nat)+1:Int)/\wS ((k:Nat)+1:Int)=decide (k<14))/\((17<=k/\k<=20)->wN ((k:Nat)+1:Int)=2^(k-17))/\((62<=k/\k<=83)->wN ((k:Nat)+1:Int)=bp ((k:Nat)+1:Int)/\wS ((k:Nat)+1:Int)=true)))=true:=al
 intro k a;exact of_decide_eq_true (List.all_eq_true.1 h k pp)
theorem GG {op:Int} (a:1<=op) (h:op<=98):0<=(bT (op-1).toNat).f3z/\(bT (op-1).toNat).f3z<8/\((11<=op/\op<=17)->wN op=jt op/\wS op=decide (op-11<4))/\((18<=op/\op<=21)->wN op=2^(op-18).toNat)/\((63<=op/\op<=84)->wN op=bp op/\wS op=true):=by
 obtain ⟨k,rfl⟩:∃ k:Nat,op=(k:Int)+1:=⟨(op-1).toNat,ab⟩;obtain ⟨a,c,d,f,g⟩:=MR k ab;rw [show ((k:Int)+1-1).toNat=k from ab];refine ⟨a,c,λe=>?_,λe=>?_,λe=>g ab⟩
 ·obtain ⟨b,e2⟩:=d ab;refine ⟨b,e2.trans ?_⟩;by_cases q:k<14;·rw [decide_eq_true q,decide_eq_true ab]
  ·rw [decide_eq_false q,decide_eq_false ab]
 ·rw [f ab,show ((k:Int)+1-18).toNat=k-17 from ab]
theorem sY (op:Int) (J:1<=op) (u:op<=98) (w:World):CB 205 #[.i op] w (.agg #[.i (wN op:Nat),.bool (wS op)]):=by
 obtain ⟨N,Z,_⟩:=GG J u;have B:rl op=true:=decide_eq_true ⟨J,u⟩;have f:=λW=>xC op (sT ab ab) W;have H:wG op=(bT (op-1).toNat).val:=by unfold wG;rw [B];rfl
 rw [H,B] at f;unfold wN wS;generalize bT (op-1).toNat=R at *;obtain ⟨i,I,o,z,m⟩:=R;unfold Row.val at f;dsimp only at f;generalize Fm.str I=l at f;generalize (Row.mk i I o z m).f3z=y at *;refine bz (S:=Bs w [(#[.i 0,.bool false],179)]) (args:=[.i op]) [(#[.i 0,.bool false],179)] func205 ?_;refine aN Bs.eng {} 40 (Bs.start _ _) (λG _=>f G) ?_;rintro G e Y L ⟨rfl,M⟩;refine ⟨_,0,rfl,gm al,?_⟩;have v:=L.below M;refine ae Bs.eng {} 3 v λb q=>?_;refine dU 2 (dW (T:=232) (z:=noRow) al b) ?_;refine bJ (aG (g:=b.heap.size) (t:=232) (ty:=232) (old:=#[.string ⟨#[]⟩,.string ⟨#[]⟩,.u 0,.u 0,.u 0]) (cells:=#[.string i,.string l,.u o,.u y,.u m]) (heap_alloc_new _ _) al rfl al) ?_;have X:w.heap.size<b.heap.size:=(Array.getElem?_eq_some_iff.1 (q.1 0 _ rfl)).1;have D:Bw b ((b.alloc (.cells noRow.cells 232)).setRow b.heap.size #[.string i,.string l,.u o,.u y,.u m]):=bm (bal _ _) (Nat.le_refl _) _;have E:g8 ⟨b.heap.size,#[.string i,.string l,.u o,.u y,.u m],[]⟩ ((b.alloc (.cells noRow.cells 232)).setRow b.heap.size #[.string i,.string l,.u o,.u y,.u m]):=⟨_,setRow_heap _ _ _ _ _ _ (heap_alloc_new _ _)⟩;generalize (b.alloc (.cells noRow.cells 232)).setRow b.heap.size #[.string i,.string l,.u o,.u y,.u m]=r at D E ⊢;have j:=q.below D;have p:Iv [w.heap.size,b.heap.size] r [⟨w.heap.size,#[.i 0,.bool false],[]⟩,⟨b.heap.size,#[.string i,.string l,.u o,.u y,.u m],[]⟩] r:=Iv.two ⟨_,j.1 0 _ rfl⟩ E ab;refine aH (Iv [w.heap.size,b.heap.size] r [⟨w.heap.size,#[.i 0,.bool false],[]⟩,⟨b.heap.size,#[.string i,.string l,.u o,.u y,.u m],[]⟩]) ?_;refine an (R:=[]) trivial {} 3 ?_;refine ze ?_;have fin:∀ (n:Nat) (s:Bool) (k:List KI) (F:Fr) (c:World),Iv [w.heap.size,b.heap.size] r [⟨w.heap.size,#[.i 0,.bool false],[]⟩,⟨b.heap.size,#[.string i,.string l,.u o,.u y,.u m],[]⟩] c->gZ k=true->((ch prog ({}:Hw prog (Ag [w.heap.size,b.heap.size] c)) Tryz.f205.ntmps 40 k (wO 2 1 F) [⟨w.heap.size,#[.i 0,.bool false],[]⟩,⟨b.heap.size,#[.string i,.string l,.u o,.u y,.u m],[]⟩]).1.1,(ch prog ({}:Hw prog (Ag [w.heap.size,b.heap.size] c)) Tryz.f205.ntmps 40 k (wO 2 1 F) [⟨w.heap.size,#[.i 0,.bool false],[]⟩,⟨b.heap.size,#[.string i,.string l,.u o,.u y,.u m],[]⟩]).1.2.2.2)=(true,[⟨w.heap.size,#[.i n,.bool s],[]⟩,⟨b.heap.size,#[.string i,.string l,.u o,.u y,.u m],[]⟩]) ->
  (ch prog ({}:Hw prog (Ag [w.heap.size,b.heap.size] c)) Tryz.f205.ntmps 40 k (wO 2 1 F) [⟨w.heap.size,#[.i 0,.bool false],[]⟩,⟨b.heap.size,#[.string i,.string l,.u o,.u y,.u m],[]⟩]).2.map Prod.fst=(ch prog ({}:Hw prog (Ag [w.heap.size,b.heap.size] c)) Tryz.f205.ntmps 40 k (wO 2 1 F) [⟨w.heap.size,#[.i 0,.bool false],[]⟩,⟨b.heap.size,#[.string i,.string l,.u o,.u y,.u m],[]⟩]).2.map Prod.snd ->
  (lk (ch prog ({}:Hw prog (Ag [w.heap.size,b.heap.size] c)) Tryz.f205.ntmps 40 k (wO 2 1 F) [⟨w.heap.size,#[.i 0,.bool false],[]⟩,⟨b.heap.size,#[.string i,.string l,.u o,.u y,.u m],[]⟩]).1.2.2.1 2).map Prod.fst=some (.p w.heap.size 0) ->
  n=2^(y%4).toNat/\s=decide (y<4)->Wg prog (Iv [w.heap.size,b.heap.size] r [⟨w.heap.size,#[.i 0,.bool false],[]⟩,⟨b.heap.size,#[.string i,.string l,.u o,.u y,.u m],[]⟩]) (bodyPost prog Tryz.f205 λe w'=>e=.returned (.agg #[.i (2^(y%4).toNat:Nat),.bool (decide (y<4))])/\Bw w w') Tryz.f205.ntmps k F c:=by
  intro n s k F c d hn hx he U A
  refine aH (λ_=>True) (hn:=hn) ?_
  refine aL 2 1 ?_
  have O:=Iv.two (d.rows _ (List.mem_cons_self ..)) (d.rows _ (List.mem_cons_of_mem _ (List.mem_cons_self ..))) (λe=>by have:=d.nd;simp [e] at this)
  refine iw O {} 40 (hx:=hx) (he:=he) λQ a K C=>?_
  obtain ⟨P,V⟩:=K.rows _ (List.mem_cons_self ..)
  have x:=d.ag.trans K.ag
  refine ⟨_,results_cell_row results205 a.tmps Q w.heap.size P _ (0,0) _ (C.slot U) V underlying179 rfl rfl,by rw [<- A.1,<- A.2],?_⟩
  exact ⟨x.os.trans j.2.os,x.tape.trans j.2.tape,x.output.trans j.2.output,Nat.le_trans j.2.size x.size,λk C=>(x.block k (Nat.lt_of_lt_of_le C j.2.size) lx).trans (j.2.block k C)⟩
 have LU:=λW=>(bu y 0 2 N ab bb bb W).mono λe w' k=>And.intro k.1 (show Bw W w' by rw [k.2];exact (Below.refl _ _).drew);have h:=λW=>(bu y 2 1 N ab bb bb W).mono λe w' k=>And.intro k.1 (show Bw W w' by rw [k.2];exact (Below.refl _ _).drew);clear L v q M H f X D E;obtain rfl | rfl | rfl | rfl | rfl | rfl | rfl | rfl:y=0\/y=1\/y=2\/y=3\/y=4\/y=5\/y=6\/y=7:=ab
 ·refine ae Iv.eng {cv:=[(12,jy Iv.below λW _=>LU W),(16,jy Iv.below λW _=>h W)]} 40 (p.below (Below.refl _ _).drew) λc d=>?_;exact fin 1 true _ _ c d al al al al bv
 ·refine ae Iv.eng {cv:=[(12,jy Iv.below λW _=>LU W),(16,jy Iv.below λW _=>h W)]} 40 (p.below (Below.refl _ _).drew) λc d=>?_;exact fin 2 true _ _ c d al al al al bv
 ·refine ae Iv.eng {cv:=[(12,jy Iv.below λW _=>LU W),(16,jy Iv.below λW _=>h W)]} 40 (p.below (Below.refl _ _).drew) λc d=>?_;exact fin 4 true _ _ c d al al al al bv
 ·refine ae Iv.eng {cv:=[(12,jy Iv.below λW _=>LU W),(16,jy Iv.below λW _=>h W)]} 40 (p.below (Below.refl _ _).drew) λc d=>?_;exact fin 8 true _ _ c d al al al al bv
 ·refine ae Iv.eng {cv:=[(12,jy Iv.below λW _=>LU W),(16,jy Iv.below λW _=>h W)]} 40 (p.below (Below.refl _ _).drew) λc d=>?_;exact fin 1 false _ _ c d al al al al bv
 ·refine ae Iv.eng {cv:=[(12,jy Iv.below λW _=>LU W),(16,jy Iv.below λW _=>h W)]} 40 (p.below (Below.refl _ _).drew) λc d=>?_;exact fin 2 false _ _ c d al al al al bv
 ·refine ae Iv.eng {cv:=[(12,jy Iv.below λW _=>LU W),(16,jy Iv.below λW _=>h W)]} 40 (p.below (Below.refl _ _).drew) λc d=>?_;exact fin 4 false _ _ c d al al al al bv
 ·refine ae Iv.eng {cv:=[(12,jy Iv.below λW _=>LU W),(16,jy Iv.below λW _=>h W)]} 40 (p.below (Below.refl _ _).drew) λc d=>?_;exact fin 8 false _ _ c d al al al al bv
theorem rU (op:Int) (b:63<=op) (c:op<=84) (w:World):CB 206 #[.i op] w (if op=63\/op=74 then mN .hd (wN op) (wS op) else if op=64\/op=75 then mN .sc (wN op) (wS op) else mN .am (wN op) (wS op)):=by
 have a:=λW (_:Bw w W)=>sY op ab ab W;generalize wN op=n at *;generalize wS op=s at *;refine bz (S:=Bs w []) (args:=[.i op]) [] func206 ?_;by_cases d:op=63;·rw [if_pos ab];exact aY (t:=2) (v:=mN .hd n s) Bs.eng {eq:=[(5,aj (show (op==63)=true by simp;omega))],cv:=[(8,fW a),(15,fW a),(19,fW a)]} 60 (Bs.start w []) λw' h=>⟨rfl,h.2⟩
 by_cases f:op=74;·rw [if_pos ab];exact aY (t:=2) (v:=mN .hd n s) Bs.eng {eq:=[(5,aj (show (op==63)=false by simp;omega)),(6,aj (show (op==74)=true by simp;omega))],cv:=[(8,fW a),(15,fW a),(19,fW a)]} 60 (Bs.start w []) λw' h=>⟨rfl,h.2⟩
 by_cases g:op=64;·rw [if_neg ab,if_pos ab];exact aY (t:=2) (v:=mN .sc n s) Bs.eng {eq:=[(5,aj (show (op==63)=false by simp;omega)),(6,aj (show (op==74)=false by simp;omega)),(12,aj (show (op==64)=true by simp;omega))],cv:=[(8,fW a),(15,fW a),(19,fW a)]} 60 (Bs.start w []) λw' h=>⟨rfl,h.2⟩
 by_cases i:op=75;·rw [if_neg ab,if_pos ab];exact aY (t:=2) (v:=mN .sc n s) Bs.eng {eq:=[(5,aj (show (op==63)=false by simp;omega)),(6,aj (show (op==74)=false by simp;omega)),(12,aj (show (op==64)=false by simp;omega)),(13,aj (show (op==75)=true by simp;omega))],cv:=[(8,fW a),(15,fW a),(19,fW a)]} 60 (Bs.start w []) λw' h=>⟨rfl,h.2⟩
 rw [if_neg ab,if_neg ab];exact aY (t:=2) (v:=mN .am n s) Bs.eng {eq:=[(5,aj (show (op==63)=false by simp;omega)),(6,aj (show (op==74)=false by simp;omega)),(12,aj (show (op==64)=false by simp;omega)),(13,aj (show (op==75)=false by simp;omega))],cv:=[(8,fW a),(15,fW a),(19,fW a)]} 60 (Bs.start w []) λw' h=>⟨rfl,h.2⟩
theorem EP (op:Int) (g:1<=op) (d:op<=98) (w:World):CB 152 #[.i op] w (ew op):=by
 have a:=λW (_:Bw w W)=>sY op g d W;have i:=λW (b:63<=op) (c:op<=84)=>rU op b c W;unfold ew;generalize wN op=n at *;generalize wS op=s at *;refine bz (S:=Bs w []) (args:=[.i op]) [] func152 ?_;by_cases k:op<3;·rw [if_pos ab];exact aY (t:=2) (v:=.iface 176 (.agg #[])) Bs.eng {eq:=[(5,aj (show decide (op<3)=true by rw [decide_eq_true_eq];omega))]} 100 (Bs.start w []) λw' h=>⟨rfl,h.2⟩
 by_cases l:op<11;·rw [if_neg ab,if_pos ab];exact aY (t:=2) (v:=.iface 177 (.agg #[])) Bs.eng {eq:=[(5,aj (show decide (op<3)=false by rw [decide_eq_false_iff_not];omega)),(10,aj (show decide (op<11)=true by rw [decide_eq_true_eq];omega))]} 100 (Bs.start w []) λw' h=>⟨rfl,h.2⟩
 by_cases m:op<18;·rw [if_neg ab,if_neg ab,if_pos ab];exact aY (t:=2) (v:=mN .ld n s) Bs.eng {eq:=[(5,aj (show decide (op<3)=false by rw [decide_eq_false_iff_not];omega)),(10,aj (show decide (op<11)=false by rw [decide_eq_false_iff_not];omega)),(15,aj (show decide (op<18)=true by rw [decide_eq_true_eq];omega))],cv:=[(17,fW a),(24,fW a)]} 100 (Bs.start w []) λw' h=>⟨rfl,h.2⟩
 by_cases o:op<22;·rw [if_neg ab,if_neg ab,if_neg ab,if_pos ab];exact aY (t:=2) (v:=mN .st n s) Bs.eng {eq:=[(5,aj (show decide (op<3)=false by rw [decide_eq_false_iff_not];omega)),(10,aj (show decide (op<11)=false by rw [decide_eq_false_iff_not];omega)),(15,aj (show decide (op<18)=false by rw [decide_eq_false_iff_not];omega)),(22,aj (show decide (op<22)=true by rw [decide_eq_true_eq];omega))],cv:=[(17,fW a),(24,fW a)]} 100 (Bs.start w []) λw' h=>⟨rfl,h.2⟩
 by_cases p:op<63;·rw [if_neg ab,if_neg ab,if_neg ab,if_neg ab,if_pos ab];exact aY (t:=2) (v:=.iface 176 (.agg #[])) Bs.eng {eq:=[(5,aj (show decide (op<3)=false by rw [decide_eq_false_iff_not];omega)),(10,aj (show decide (op<11)=false by rw [decide_eq_false_iff_not];omega)),(15,aj (show decide (op<18)=false by rw [decide_eq_false_iff_not];omega)),(22,aj (show decide (op<22)=false by rw [decide_eq_false_iff_not];omega)),(29,aj (show decide (op<63)=true by rw [decide_eq_true_eq];omega))]} 100 (Bs.start w []) λw' h=>⟨rfl,h.2⟩
 by_cases q:op<85;·rw [if_neg ab,if_neg ab,if_neg ab,if_neg ab,if_neg ab,if_pos ab];have j:=λW (_:Bw w W)=>i W ab ab;generalize (if op=63\/op=74 then mN .hd n s else if op=64\/op=75 then mN .sc n s else mN .am n s)=f at *;exact aY (t:=2) (v:=f) Bs.eng {eq:=[(5,aj (show decide (op<3)=false by rw [decide_eq_false_iff_not];omega)),(10,aj (show decide (op<11)=false by rw [decide_eq_false_iff_not];omega)),(15,aj (show decide (op<18)=false by rw [decide_eq_false_iff_not];omega)),(22,aj (show decide (op<22)=false by rw [decide_eq_false_iff_not];omega)),(29,aj (show decide (op<63)=false by rw [decide_eq_false_iff_not];omega)),(34,aj (show decide (op<85)=true by rw [decide_eq_true_eq];omega))],cv:=[(36,fW j)]} 100 (Bs.start w []) λw' h=>⟨rfl,h.2⟩
 by_cases r:op<87;·rw [if_neg ab,if_neg ab,if_neg ab,if_neg ab,if_neg ab,if_neg ab,if_pos ab];exact aY (t:=2) (v:=.iface 188 (.agg #[])) Bs.eng {eq:=[(5,aj (show decide (op<3)=false by rw [decide_eq_false_iff_not];omega)),(10,aj (show decide (op<11)=false by rw [decide_eq_false_iff_not];omega)),(15,aj (show decide (op<18)=false by rw [decide_eq_false_iff_not];omega)),(22,aj (show decide (op<22)=false by rw [decide_eq_false_iff_not];omega)),(29,aj (show decide (op<63)=false by rw [decide_eq_false_iff_not];omega)),(34,aj (show decide (op<85)=false by rw [decide_eq_false_iff_not];omega)),(39,aj (show decide (op<87)=true by rw [decide_eq_true_eq];omega))]} 100 (Bs.start w []) λw' h=>⟨rfl,h.2⟩
 by_cases u:op<93;·rw [if_neg ab,if_neg ab,if_neg ab,if_neg ab,if_neg ab,if_neg ab,if_neg ab,if_pos ab];exact aY (t:=2) (v:=.iface 189 (.agg #[])) Bs.eng {eq:=[(5,aj (show decide (op<3)=false by rw [decide_eq_false_iff_not];omega)),(10,aj (show decide (op<11)=false by rw [decide_eq_false_iff_not];omega)),(15,aj (show decide (op<18)=false by rw [decide_eq_false_iff_not];omega)),(22,aj (show decide (op<22)=false by rw [decide_eq_false_iff_not];omega)),(29,aj (show decide (op<63)=false by rw [decide_eq_false_iff_not];omega)),(34,aj (show decide (op<85)=false by rw [decide_eq_false_iff_not];omega)),(39,aj (show decide (op<87)=false by rw [decide_eq_false_iff_not];omega)),(44,aj (show decide (op<93)=true by rw [decide_eq_true_eq];omega))]} 100 (Bs.start w []) λw' h=>⟨rfl,h.2⟩
 rw [if_neg ab,if_neg ab,if_neg ab,if_neg ab,if_neg ab,if_neg ab,if_neg ab,if_neg ab];exact aY (t:=2) (v:=.iface 190 (.agg #[])) Bs.eng {eq:=[(5,aj (show decide (op<3)=false by rw [decide_eq_false_iff_not];omega)),(10,aj (show decide (op<11)=false by rw [decide_eq_false_iff_not];omega)),(15,aj (show decide (op<18)=false by rw [decide_eq_false_iff_not];omega)),(22,aj (show decide (op<22)=false by rw [decide_eq_false_iff_not];omega)),(29,aj (show decide (op<63)=false by rw [decide_eq_false_iff_not];omega)),(34,aj (show decide (op<85)=false by rw [decide_eq_false_iff_not];omega)),(39,aj (show decide (op<87)=false by rw [decide_eq_false_iff_not];omega)),(44,aj (show decide (op<93)=false by rw [decide_eq_false_iff_not];omega))]} 100 (Bs.start w []) λw' h=>⟨rfl,h.2⟩
def tD (cf:Bool) (M:MV) (t:TV):MV × Int :=
 if t.up=true then (aK M t.cz.toNat false t.vl,2)
 else (⟨t.nx,if t.rd=0 then M.x else M.x.set t.rd.toNat t.rs,M.pr,if cf=true then M.cs else M.cs.set 21 (Uz.wrap (M.cs.getD 21 0+1)),M.ram,M.d,M.hd,M.hl,M.wt⟩,1)
def t0 (M:MV) (i:Ins) (wd:Int):TV:=⟨.func (.func 40) #[] #[],wd,i.op,i.rd,i.a,i.b,i.imm,ew i.op,M.x.getD i.rd.toNat 0,Uz.wrap (M.pc+4),false,false,0,0⟩
structure Pf (cf:Bool) (V:MV × Int) (i:Ins) (M':MV) (t':TV):Prop where
 e:tD cf M' t'=V
 g:Gd M'
 rd:t'.rd=i.rd
 fm:t'.fm=ew i.op
 c:t'.up=true->∃ k:Nat,k<16/\t'.cz=k
def TR (B g:Nat) (w0:World) (P:MV->TV->Prop) (e:Ending) (w':World):Prop:=e=.returned (.tuple #[])/\∃ M' A' t',P M' t'/\Tq B g w0 M' A' t' w'
section
variable {B g : Nat} {w0 w w' : World} {M M' : MV} {A A' : MA} {t t' : TV}
theorem Tq.eng {P:Program} {fn:Func} {Rs:Ending->World->Prop} {dr:Bool}:nE P (Tq B g w0 M A t) (Tq B g w0 M A t) [⟨g,bH M A t,[]⟩] dr (bodyPost P fn Rs):=
 ⟨λ_ h=>h,λW h r a=>by rw [List.mem_singleton] at a;subst a;exact h.row.in_,λ_ W h=>h.below (Below.refl _ _).drew,ct⟩
def sZ {P:Program} {f:Nat} {args:Array Value} {v:Value} (h:∀ W,Tq B g w0 M A t W->Calls P f args W λe w'=>e=.returned v/\Iv [g] W [⟨g,bH M A t,[]⟩] w'):Cv P (Tq B g w0 M A t):=⟨f,args,v,0,λW a=>(h W a).mono λe w' k=>⟨k.1,a.iv k.2 rfl⟩⟩
def NE {P:Program} {f:Nat} {args:Array Value} {v:Value} (h:∀ W,Tq B g w0 M A t W->Calls P f args W λe w'=>e=.returned v/\Bw W w'):Cv P (Tq B g w0 M A t):=⟨f,args,v,0,λW a=>(h W a).mono λe w' k=>⟨k.1,a.below k.2⟩⟩
theorem Sk (h:Tq B g w0 M A t w) (a:M.x.length=32) (d:0<=t.ra) (f:t.ra<=31):Calls prog 156 #[.p g 0] w λe w'=>e=.returned (.u (M.x.getD t.ra.toNat 0))/\Iv [g] w [⟨g,bH M A t,[]⟩] w':=by obtain ⟨b,i,c,j⟩:=h.atX a;have:=Kt (x:=M.x.getD (0+t.ra.toNat) 0) h.row i ⟨d,ab⟩ c (j (0+t.ra.toNat) ab).1;rw [Nat.zero_add] at this;exact this
theorem UC (h:Tq B g w0 M A t w) (a:M.x.length=32) (d:0<=t.rb) (f:t.rb<=31):Calls prog 159 #[.p g 0] w λe w'=>e=.returned (.u (M.x.getD t.rb.toNat 0))/\Iv [g] w [⟨g,bH M A t,[]⟩] w':=by obtain ⟨b,i,c,j⟩:=h.atX a;have:=TO (x:=M.x.getD (0+t.rb.toNat) 0) h.row i ⟨d,ab⟩ c (j (0+t.rb.toNat) ab).1;rw [Nat.zero_add] at this;exact this
def vY (M:MV) (i:Ins):Int:=if i.op=1 then Uz.wrap i.imm else if i.op=2 then Uz.wrap (M.pc+Uz.wrap i.imm) else mV i.op (M.x.getD i.a.toNat 0) (if (eU i.op).toList=[82] then M.x.getD i.b.toNat 0 else Uz.wrap i.imm)
theorem EQ (i:Ins) (wd:Int) (C:jA i) (h:Tq B g w0 M A (t0 M i wd) w) (n:Gd M):Calls prog 153 #[.p g 0] w λe w'=>e=.returned (.u (vY M i))/\Tq B g w0 M A (t0 M i wd) w':=by
 obtain ⟨H,F,G,s,y,l,z,m,D,E,_⟩:=C;have c:=n.x32;have k:=n.ux i.a.toNat;have u:=n.ux i.b.toNat;have x:U (Uz.wrap i.imm):=aP _;have q:=λW (h:Tq B g w0 M A (t0 M i wd) W)=>Sk h c y l;have r:=λW (h:Tq B g w0 M A (t0 M i wd) W)=>UC h c z m;have j:=λW (h:Tq B g w0 M A (t0 M i wd) W)=>sD h.row;unfold vY;refine bz (S:=Tq B g w0 M A (t0 M i wd)) (args:=[.p g 0]) [] func153 ?_;refine aL 0 1 ?_;by_cases o:i.op=1;·rw [if_pos o];exact aY (t:=2) (v:=.u (Uz.wrap i.imm)) (Tq.eng (dr:=true)) {eq:=[(12,aj (show (i.op==1)=true by simp;omega))],cv:=[(14,sZ j)]} 100 h λw' h=>⟨rfl,h⟩
 rw [if_neg o];have a:(i.op==1)=false:=by simp;omega
 by_cases p:i.op=2;·rw [if_pos p];exact aY (t:=2) (v:=.u (Uz.wrap (M.pc+Uz.wrap i.imm))) (Tq.eng (dr:=true)) {eq:=[(12,aj a),(16,aj (show (i.op==2)=true by simp;omega))],cv:=[(23,sZ j)]} 100 h λw' h=>⟨rfl,h⟩
 rw [if_neg p];have b:(i.op==2)=false:=by simp;omega
 have f:=λW (_:Tq B g w0 M A (t0 M i wd) W)=>yN i.op (sT ab ab) W;cases d:((eU i.op).toList==(⟨#[82]⟩:ByteArray).toList) with
 | true =>rw [if_pos (show (eU i.op).toList=[82] from (eq_of_beq d).trans bv)];exact aY (t:=2) (v:=.u (mV i.op (M.x.getD i.a.toNat 0) (M.x.getD i.b.toNat 0))) (Tq.eng (dr:=true)) {eq:=[(12,aj a),(16,aj b),(33,aj d)],cv:=[(26,sZ j),(32,NE f),(35,sZ r),(43,sZ q),(45,NE λW _=>sW i.op _ _ (sT ab ab) k.1 k.2 u.1 u.2 W)]} 200 h λw' h=>⟨rfl,h⟩
 | false =>rw [if_neg (show ¬ (eU i.op).toList=[82] from λe=>by rw [e] at d;exact absurd d bv)];exact aY (t:=2) (v:=.u (mV i.op (M.x.getD i.a.toNat 0) (Uz.wrap i.imm))) (Tq.eng (dr:=true)) {eq:=[(12,aj a),(16,aj b),(33,aj d)],cv:=[(26,sZ j),(32,NE f),(35,sZ r),(43,sZ q),(45,NE λW _=>sW i.op _ _ (sT ab ab) k.1 k.2 x.1 x.2 W)]} 200 h λw' h=>⟨rfl,h⟩
end
end Go.Proofs.YtjifdmoehfbihaaGreatDoor
