/- Own lemmas. -/
import Derived.Test.YtlidafnochnddaaGreatDoorAut
import Derived.Test.YtlidafnochnddaaGreatDoorK18
import Derived.Test.YtlidafnochnddaaGreatDoorK19
set_option maxRecDepth 100000
set_option maxHeartbeats 3200000
namespace Go.Proofs.YtlidafnochnddaaGreatDoor
open Go.RowKit Tryz
open IntKind renaming u64->Uz
open Below renaming heap_alloc->K1,refl->K4
open Bool renaming and_eq_true->S1,and_true->S2
open Calls renaming quiet_of->L4
open Go renaming heap_alloc_new->A0,World->A5,bits->A6,Calls->F0,Addr->F3,Value->G3,bodyPost->H1,Ending->H2,callsD_of_wpS->H3,leaves_cons->H5
open Go.RowKit renaming wrap64->P2
open Int renaming toNat_natCast->R4,ediv_nonneg->R5
open IntKind renaming wrap_u64->L6,wrap_i64->L7
open Nat renaming le_refl->M5
open Or renaming inr->M7,inl->N1
open Value renaming int->K0
open World renaming size_alloc->H8,cell?->I4,frozen?->I5
open _root_.Array renaming getElem?_eq_some_iff->L5
set_option linter.unusedVariables false
variable {n M:MV} {p k w:A5} {l a b g e:Nat} {c d m x:Int} {t W:List Int} {f:TypeId} {j q:G3} {y:Option F3} {z:List G3} {A:DV} {V:Program} {s:Fd} {B:MA} {D:A5->Prop} {P:Func} {T:H2->A5->Prop} {C:Array G3} {E:F3} (S:List Int) (r:Int) (F:Option F3) (G J R:Nat) (o:List Int) (I:Option F3) (K:A5) (L N O:Nat) (Q:List Int) (X Y Z:Int)
theorem KG (M:MV) (pa size x:Int):(rS M pa size 2 x).2.2=0\/(rS M pa size 2 x).2.2=21:=by
 unfold rS;split;·split<;>exact N1 rfl
 ·split
  ·split;·exact N1 rfl
   ·exact M7 rfl
  ·split
   ·split;·exact N1 rfl
    ·exact M7 rfl
   ·exact M7 rfl
theorem Hi (M:MV) (addr size x:Int):(aT M addr size 2 x).2.2=0\/∃ c:Nat,c<14/\(aT M addr size 2 x).2.2=c+16:=by
 unfold aT;split;·exact M7 ⟨4,aa,rfl⟩
 ·unfold yB;split
  ·rcases xn M.ram M.ram.length M.cs (il M.cs M.pr 2) addr 2 with e|e|e;·refine M7 ⟨0,aa,?_⟩;show P2 ((walkV M.ram M.ram.length M.cs (il M.cs M.pr 2) addr 2).code+16)=_;rw [e];unfold P2;decide
   ·refine M7 ⟨13,aa,?_⟩;show P2 ((walkV M.ram M.ram.length M.cs (il M.cs M.pr 2) addr 2).code+16)=_;rw [e];unfold P2;decide
   ·refine M7 ⟨5,aa,?_⟩;show P2 ((walkV M.ram M.ram.length M.cs (il M.cs M.pr 2) addr 2).code+16)=_;rw [e];unfold P2;decide
  ·split;·exact M7 ⟨5,aa,rfl⟩
   ·refine (KG _ _ _ _).imp id λe=>⟨5,aa,e⟩
theorem E9 {addr size c:Int} (a:(aT M addr size 2 x).2.2=c) (hn:(c != 0)):IntKind.i64.wrap (c-16)=(((c-16).toNat:Nat):Int)/\IntKind.i64.wrap ((((c-16).toNat:Nat):Int)+2)=(((c-16).toNat+2:Nat):Int)/\(c-16).toNat+2<16:=by
 have h:=Hi M addr size x;rw [a] at h;rcases h with h|⟨d,b,e⟩;·rw [h] at hn;cases hn
 ·rw [L7,L7];omega
def Ud (D:DV):Prop:=U D.t/\U D.cm
theorem Bt (a: -9223372036854775808<=c) (b:c<9223372036854775808):(Lit.int .i64 c).wf:=by simp [Lit.wf,IntKind.min,IntKind.max,IntKind.signed,IntKind.bits];omega
theorem kT:U 0:=⟨ba,ba⟩
theorem DB (h:∀ y ∈ t,(Lit.int .u8 y).wf) (i:Nat):0<=t.getD i 0/\t.getD i 0<=255:=by
 by_cases a:i<t.length;·exact EG (h (t.getD i 0) (by simp [List.getD,List.getElem?_eq_getElem a]))
 ·simp [List.getD,List.getElem?_eq_none (Nat.le_of_not_lt a)]
theorem SJ (h:Ud A) (hb:cT A) (k:Nat):U (ml A k).1:=by
 unfold ml;split;·show U (jW A.so);cases A.so<;>exact ⟨ba,ba⟩
 ·exact h.2
 ·exact h.1
 ·have:=DB hb.1 0;exact ⟨this.1,by show A.xs.getD 0 0<_;omega⟩
 ·exact bq _
 ·exact bq _
 ·exact kT
theorem SK (h:Gd n) (hd:Ud n.d) (pa:Int) (M:Nat) (hn:M<=8) (kind x:Int):U (rS n pa M kind x).1:=by
 unfold rS;split
 ·split;·exact kT
  ·exact tA n.ram (DB h.mw.ram) _ _ (by rw [R4];exact hn)
 ·split
  ·split;·exact SJ hd ⟨h.mw.xs,h.mw.ys⟩ _
   ·exact kT
  ·split;·split<;>exact kT
   ·exact kT
theorem Bu (h:Gd n) (hd:Ud n.d) (a:Int) (M:Nat) (hn:M<=8) (kind x:Int):U (aT n a M kind x).1:=by
 unfold aT;split;·exact kT
 ·unfold yB;split;·exact kT
  ·split;·exact kT
   ·exact SK (h.marked _) hd _ M hn kind x
theorem RB (h:Ud A) (k:Nat):Ud (ml A k).2.1:=by
 unfold ml;split;·exact h
 ·exact h
 ·exact h
 ·exact ⟨h.1,h.2⟩
 ·exact h
 ·exact h
 ·exact ⟨kT,kT⟩
theorem RC (h:Ud A) {x:Int} (hx:U x) (addr size:Int):Ud (fy A x (ic addr size)).1:=by
 have a:=stV_0 A x;have d:=stV_1 A x;have f:=stV_2 A x;have b:(fy A x 3).1.t=A.t/\(fy A x 3).1.cm=A.cm:=by
  by_cases c:A.ys.length<4096;·rw [stV_3r _ _ c];exact ⟨rfl,rfl⟩
  ·rw [stV_3f _ _ c];exact ⟨rfl,rfl⟩
 obtain ⟨q,g⟩:∃ q,fy A x 4=(⟨A.t,A.cm,A.so,A.xs,A.ys,q⟩,true):=⟨_,stV_4 A x⟩;have i:=stV_5 A x;have j:=stV_6 A x;generalize (A6 .and .u64 x 1==1)=r at a;refine lQ addr size (λk=>Ud (fy A x k).1) (λ_ _=>?_) (λ_ _=>?_) (λ_ _=>?_) (λ_ _=>?_) (λ_ _=>?_) (λ_ _=>?_) (λ_ _ _ _ _ _=>?_);·show Ud (fy A x 0).1;rw [a];exact ⟨h.1,h.2⟩
 ·show Ud (fy A x 1).1;rw [d];exact ⟨h.1,hx⟩
 ·show Ud (fy A x 2).1;rw [f];exact ⟨hx,h.2⟩
 ·show Ud (fy A x 3).1;unfold Ud;rw [b.1,b.2];exact h
 ·have e:(fy A x 4).1=⟨A.t,A.cm,A.so,A.xs,A.ys,q⟩:=congrArg Prod.fst g;exact e ▸ (⟨h.1,h.2⟩:Ud ⟨A.t,A.cm,A.so,A.xs,A.ys,q⟩)
 ·show Ud (fy A x 5).1;rw [i];exact h
 ·show Ud (fy A x 6).1;rw [j];exact ⟨kT,kT⟩
theorem KH (h:Ud M.d) (pa:Int):Ud (nf M pa).d:=by unfold nf;split<;>exact h
theorem DC (h:Ud n.d) (a M kind:Int) {x:Int} (hx:U x):Ud (aT n a M kind x).2.1.d:=by
 have key:∀ (N:MV) (b:Int),Ud N.d->Ud (rS N b M kind x).2.1.d:=by
  intro N b c;unfold rS;split
  ·split;·have k:∀ R,Ud (nf (dc N R) b).d:=λR=>KH (M:=dc N R) c b;exact k _
   ·exact c
  ·split
   ·split;·have k:∀ D,Ud D->Ud (dU (dg N D)).d:=λD d=>d;exact k _ (RB c _)
    ·exact c
   ·split
    ·split;·have k:∀ D,Ud D->Ud (nf (dU (dg N D)) b).d:=λD d=>KH (M:=dU (dg N D)) d b;exact k _ (RC c hx _ _)
     ·exact c
    ·exact c
 unfold aT;split;·exact h
 ·unfold yB;split;·exact h
  ·split;·exact h
   ·have k:∀ R b,Ud (rS (dc n R) b M kind x).2.1.d:=λR b=>key (dc n R) b h;exact k _ _
theorem SL (f:MF) {a b:Int} (c:U a) (hb:U b):U (f.v a b):=by
 cases f<;>unfold MF.v<;>dsimp only;·exact hb
 ·exact bq _
 ·exact af _ _ _
 ·exact af _ _ _
 ·exact af _ _ _
 all_goals (split<;>assumption)
theorem OR {a b:Int} (c:U a) (hb:U b):U (mL r a b):=by
 unfold mL;split;·exact SL _ c hb
 ·split;·generalize (sM (r-65).toNat).v (aX 32 a) (aX 32 b)=y;unfold U;omega
  ·exact kT
theorem RD (b:U c) (n:Nat):U (c/2^n):=by have a:(0:Int)<2^n:=Int.pow_pos aa;refine ⟨R5 b.1 aa,?_⟩;have:c/2^n<=c:=Int.ediv_le_self _ b.1;have:=b.2;omega
theorem KJ (a:U c) (hb:U d):U (m7 c d):=by unfold m7;refine ⟨R5 (Int.mul_nonneg a.1 hb.1) aa,Int.ediv_lt_of_lt_mul aa ?_⟩;have b:c*d<=c*18446744073709551616:=Int.mul_le_mul_of_nonneg_left (by have:=hb.2;omega) a.1;have e:c*18446744073709551616<18446744073709551616*18446744073709551616:=Int.mul_lt_mul_of_pos_right a.2 aa;omega
theorem SM (f:AF) {a b:Int} (d:U a) (hb:U b):U (f.v a b):=by
 have g:∀ c:Bool,U (GK c):=λc=>by cases c<;>exact ⟨ba,ba⟩
 have e:U (gU a b):=by unfold gU;split;exact bq _;exact KJ d hb
 cases f<;>unfold AF.v<;>dsimp only;·exact bq _
 ·exact g _
 ·exact g _
 ·exact af _ _ _
 ·exact af _ _ _
 ·exact af _ _ _
 ·exact bq _
 ·exact RD d _
 ·exact bq _
 ·exact bq _
 ·exact bq _
 ·unfold pk;split;exact bq _;exact e
 ·exact e
 ·exact KJ d hb
 ·split;exact ⟨ba,ba⟩;exact bq _
 ·split;exact ⟨ba,ba⟩;exact bq _
 ·split;exact d;exact bq _
 ·split;·exact d
  ·rw [Int.tmod_eq_emod_of_nonneg d.1];have h:=Int.emod_nonneg a (show b≠0 by assumption);have i:=Int.emod_lt_of_pos a (show 0<b by have:=hb.1;omega);exact ⟨h,by have:=hb.2;omega⟩
theorem RE {a b:Int} (c:U a) (hb:U b):U (rh r a b):=by
 unfold rh;split
 ·cases uN (r-22).toNat with
  | d f=>exact SM f c hb
  | w f l op=>exact eQ _
 ·exact kT
theorem Gd.al4 (h:Gd n):n.pc%4=0:=by have a:=(cI h.ok).1;rw [Nf _ h.pc] at a;exact eq_of_beq a
theorem Qo (h:U c) (a:c%4=0):A6 .and .u64 c 3=0:=by rw [Nf _ h,a]
theorem Qp (h:Gd n):A6 .and .u64 (Uz.wrap (n.pc+4)) 3=0:=Qo (bq _) (by have:=h.al4;rw [L6];omega)
theorem Qq (h:U c) (he:c%2=0) (g:(A6 .and .u64 c 2 != 0)=false):A6 .and .u64 c 3=0:=by
 have k:A6 .and .u64 c 2=0:=ck
 refine aS _ _ (af _ _ _) kT λi l=>?_;have d:bt c 0=false:=by have:A6 .and .u64 c 1=c%2:=gR c 1 h.1 h.2 aa;rw [he] at this;have q:=aq c 1 0;rw [this] at q;have a:bt 0 0=false:=ba;have b:bt 1 0:=ba;rw [a,b,S2] at q;exact q.symm
 have f:bt c 1=false:=by have q:=aq c 2 1;rw [k] at q;have a:bt 0 1=false:=ba;have b:bt 2 1:=ba;rw [a,b,S2] at q;exact q.symm
 rw [aq];have key:∀ j,j<64->∀ x:Bool,(j=0->x=false)->(j=1->x=false)->(x&&bt 3 j)=bt 0 j:=bv
 exact key i l _ (λe=>by rw [e];exact d) (λe=>by rw [e];exact f)
theorem Hj:A6 .andNot .u64 r 1%2=0:=by
 have a:=af .andNot r 1;have d:A6 .and .u64 (A6 .andNot .u64 r 1) 1=A6 .andNot .u64 r 1%2:=gR _ 1 a.1 a.2 aa;rw [<- d];refine aS _ _ (af _ _ _) kT λi b=>?_;rw [aq,aw _ _ _ b];have key:∀ j,j<64->∀ c:Bool,((c&&!bt 1 j)&&bt 1 j)=bt 0 j:=bv
 exact key i b _
theorem KK (h:∀ j,U (t.getD j 0)) (n:Int):U (jU t n):=by
 unfold jU;split;·exact kT
 ·split;·exact ⟨ba,ba⟩
  ·split;·exact af _ _ _
   ·split;·exact af _ _ _
    ·split;·exact af _ _ _
     ·exact h _
theorem Fa (h:S.length=22) (n x:Int):A6 .and .u64 ((eB S n x).getD 9 0) 2184=A6 .and .u64 (S.getD 9 0) 2184:=by
 have d:∀ m,(∀ i,i<64->(bt m i&&bt 2184 i)=false)->A6 .and .u64 (gD (S.getD 9 0) m x) 2184=A6 .and .u64 (S.getD 9 0) 2184:=λm p=>by
  refine aS _ _ (af _ _ _) (af _ _ _) λi f=>?_;unfold gD;rw [aq,bC,aq,aw _ _ _ f,aq];have:=p i f;cases j:bt 2184 i;·simp
  ·rw [j,S2] at this;rw [this];simp
 have set:∀ k,k≠9->∀ v,(S.set k v).getD 9 0=S.getD 9 0:=λk o v=>i7 S k 9 v o;have a:∀ v,(S.set 9 v).getD 9 0=v:=λv=>qZ S 9 v aa;have q:∀ i,i<64->∀ c:Bool,((c&&bt 2 i)&&bt 2184 i)=false:=bv
 have b:∀ i,i<64->(bt 546 i&&bt 2184 i)=false:=bv
 unfold eB;split;·rfl
 ·split;·rw [set 0 aa]
  ·split;·rw [set 3 aa]
   ·split;·rw [a];exact d _ λi f=>by rw [aq];exact q i f _
    ·unfold sG;split;·rw [a];exact d _ b
     ·split
      ·split;·rw [set 15 aa]
       ·rfl
      ·split;·rw [set 16 aa]
       ·rename_i r _ _;have s:=FD n;have g:(ku n).toNat≠9\/ku n=-1:=aa;split
        ·split;·rfl
         ·rw [set _ aa]
        ·rcases g with e|e;·rw [set _ e]
         ·rw [e];exact congrArg (λy=>A6 .and .u64 y 2184) (set 0 aa _)
theorem Gd.cs_ (h:Gd M) {l:List Int} (hz:l.length=22) (a:bp 22 l) (m:∀ j,U (l.getD j 0)) (k:A6 .and .u64 (l.getD 9 0) 2184=A6 .and .u64 (M.cs.getD 9 0) 2184):Gd (xu M l):=by
 obtain ⟨c,d,n,e,f,g,i⟩:=cI h.ok;obtain ⟨_,_,b,_,_,_⟩:=dE h.ok;refine ⟨kj (M:=xu M l) c d ?_ e f g ?_,⟨m,h.mw.ram,h.mw.xs,h.mw.ys⟩,h.ux,h.pc,h.hd⟩;·show aQ l.length l M.pr;unfold aQ;rw [hz,a,b];rfl
 ·show (A6 .and .u64 (l.getD 9 0) 2184==dK M.d);rw [k];exact i
theorem Gd.priv (h:Gd n) {p:Int} (j:di p):Gd (xv n p):=by obtain ⟨c,d,k,e,f,g,i⟩:=cI h.ok;obtain ⟨a,b,_,_,_,_⟩:=dE h.ok;refine ⟨kj (M:=xv n p) c d ?_ e f g i,⟨h.mw.cs,h.mw.ram,h.mw.xs,h.mw.ys⟩,h.ux,h.pc,h.hd⟩;show aQ n.cs.length n.cs p;unfold aQ;rw [a,b,j];rfl
def Gw (M:MV):Prop:=Gd M/\Ud M.d
theorem gY (h:Gw n) {k:Nat} (hk:k<16) (i:Bool) {v:Int} (hv:U v):Gw (cu n k i v):=⟨h.1.trap hk i hv,h.2⟩
theorem zk (h:Gw n) {rd x tO:Int} (a:0<=rd) (b:rd<=31) (hx:U x) (d:U tO) (c:A6 .and .u64 tO 3=0):Gw (bW n rd x tO):=⟨h.1.done a b hx d c,h.2⟩
theorem jd (h:Gw n) (a M kind:Int) {x:Int} (hx:U x):Gw (aT n a M kind x).2.1:=⟨h.1.acc a M kind x,DC h.2 a M kind hx⟩
theorem ks (h:Gw n) {a M kind x v:Int} (hx:U x) (b:((aT n a M kind x).2.2 != 0)) (hv:U v):Gw (dZ (aT n a M kind x) 0 v).1:=by unfold dZ;exact gY (jd h a M kind hx) (zg rfl b).2 false hv
theorem KL (h:Gw n) (a kind:Int):Gw (iK n a kind):=⟨h.1.marked _,h.2⟩
theorem gz (h:Gw n) {rd x:Int} (a:0<=rd) (b:rd<=31) (hx:U x) {N:MV} (c:Gw N) (e:N.pc=n.pc):Gw (bW N rd x (Uz.wrap (n.pc+4))):=zk c a b hx (bq _) (by rw [<- e];exact Qp c.1)
theorem NC (h:Gw n) {i:Ins} (d:jv i) (g:3<=i.op) (e:i.op<=10) (a b:Int):Gw (xw n i a b (Uz.wrap i.imm)).1:=by
 have c:U (iH n i a b (Uz.wrap i.imm))/\iH n i a b (Uz.wrap i.imm)%2=0:=by
  have j:=h.1.al4;unfold iH;split;·exact ⟨af .andNot _ 1,Hj _⟩
  ·rename_i k;split;·refine ⟨bq _,?_⟩;rw [L6];omega
   ·refine ⟨bq _,?_⟩;have:=d.even aa;rw [L6,L6];omega
 unfold xw;split;·exact gY h ba false c.1
 ·rename_i f;refine zk h ?_ ?_ (bq _) c.1 (Qq c.1 c.2 cb);·split;exact Int.le_refl 0;exact d.rd0
  ·split;decide;exact d.rd31
theorem ND (h:Gw n) {i:Ins} (e:jv i) (c:11<=i.op) (d:i.op<=17) {a:Int} (f:U a):Gw (ve n i a).1:=by
 have g:kO i.op<=8:=by obtain ⟨b,m,k,l,j⟩:=i;dsimp only at c d ⊢;obtain rfl|rfl|rfl|rfl|rfl|rfl|rfl:b=11\/b=12\/b=13\/b=14\/b=15\/b=16\/b=17:=aa;all_goals decide
 unfold ve;dsimp only;split;·exact ks h kT ‹_› f
 ·refine gz (jd h a _ 2 kT) e.rd0 e.rd31 ?_ (jd h a _ 2 kT) rfl;split;·exact bq _
  ·exact Bu h.1 h.2 a _ g 2 0
theorem KM (h:Gw n) {i:Ins} {a b:Int} (c:U a) (hb:U b):Gw (rx n i a b).1:=by
 unfold rx;dsimp only;split;·exact ks h hb ‹_› c
 ·exact gz (jd h a _ 3 hb) ba ba kT (jd h a _ 3 hb) rfl
theorem zl (h:Gw n) {b:Bool} {a:Int} (c:U a) (hb:b\/a=0):Gw (jC n b a):=⟨h.1.hold c hb,h.2⟩
theorem NE (h:Gw n) {i:Ins} (f:jv i) {a b:Int} (g:U a) (hb:U b):Gw (m9 n i a b).1:=by
 have p:be i.op<=8:=by unfold be;split<;>decide
 have d:=KL h a 3;have q:∀ kind,(iK n a kind).pc=n.pc:=λ_=>rfl;unfold m9;split
 ·unfold Rz;dsimp only;split;·exact ks h kT ‹_› g
  ·have o:=jd h a (be i.op) 2 kT;have e:=(gO n a (be i.op) 2 0).1;exact gz h f.rd0 f.rd31 (bq _) (zl (KL o a 2) (yO _ _ _ _ _ _ g) (N1 rfl)) e
 ·split;·exact gY h ba false g
  ·split;·obtain ⟨c,j,k⟩:=nX n.ram n.ram.length n.cs (il n.cs n.pr 3) a 3;have l:(dM n a 3).code=c:=k;rw [l,R4];exact gY d j false g
   ·split
    ·unfold Th;split
     ·dsimp only;split;·exact ks d hb ‹_› g
      ·exact gz d f.rd0 f.rd31 kT (zl (jd d a _ 3 hb) kT (M7 rfl)) (gO (iK n a 3) a (be i.op) 3 b).1
     ·exact gz d f.rd0 f.rd31 ⟨ba,ba⟩ (zl d kT (M7 rfl)) rfl
    ·unfold RA;dsimp only;split;·rename_i k;unfold dZ;exact gY (jd d a _ 2 kT) (E9 rfl k).2.2 false g
     ·have m:=jd d a (be i.op) 2 kT;have M:U (mL i.op (aT (iK n a 3) a (be i.op) 2 0).1 b):=OR _ (Bu d.1 d.2 a _ p 2 0) hb;split;·exact ks m M ‹_› g
      ·exact gz d f.rd0 f.rd31 (bq _) (jd m a _ 3 M) ((gO _ _ _ _ _).1.trans (gO _ _ _ _ _).1)
theorem Qr (h:Gw n) {i:Ins} (j:jv i) {a w:Int} (l:U a) (o:U w):Gw (Bj n i a w).1:=by
 unfold Bj;split;·exact gY h ba false o
 ·rename_i g;have M:=KK h.1.mw.cs i.imm;have d:=gz h j.rd0 j.rd31 M h rfl;have b:lG n.cs.length n.cs i.imm n.pr:=by
   cases q:lG n.cs.length n.cs i.imm n.pr;·rw [q] at g;exact absurd rfl g
   ·rfl
  have f:fU i.imm:=(by unfold lG at b;simp only [S1] at b;exact b.1.1.2);have k:U (zf i a (jU n.cs i.imm)):=by
   have m:U (n9 i a):=(by unfold n9;split;exact bq _;exact l);unfold zf;split;·exact af _ _ _
   ·split;·exact af _ _ _
    ·exact m
  dsimp only;split;·generalize bW n i.rd (jU n.cs i.imm) (Uz.wrap (n.pc+4))=N at d ⊢;obtain ⟨c,e,_,_,_,_⟩:=dE d.1.ok;exact ⟨d.1.cs_ (by rw [tC];exact c) (rW _ c d.1.mw.cs e _ _ k f) (ED _ d.1.mw.cs _ _ k) (Fa _ c _ _),d.2⟩
  ·exact d
theorem vj (h:U r) (a:fS 0 r) (m:Bool):di (dX r m):=by
 cases m with
 | true=>exact AJ r h a
 | false =>show di (P2 (bu r 8));rw [xm r 8 h];split<;>decide +kernel
theorem Qs (h:Gw n) {i:Ins} (g:jv i) {w:Int} (d:U w):Gw (vf n i w).1:=by
 obtain ⟨b,a,f,_,_,_⟩:=dE h.1.ok;have u0:=h.1.mw.cs 0;have c:=dx a 0 aa;unfold vf;split;·refine gY h ?_ false kT;unfold E6;split;decide;split<;>decide
 ·split;·exact gY h ba false h.1.pc
  ·split
   ·split;·exact gY h ba false d
    ·have e:Gd (xu n (n.cs.set 0 (dY (n.cs.getD 0 0) (i.op==96)))):=h.1.cs_ (by rw [List.length_set];exact b) (bM _ b a 0 aa _ (AW _ u0 _ c)) (iA _ h.1.mw.cs 0 _ (qw _ _)) (by rw [i7 _ 0 9 _ aa]);refine zk ⟨e.priv (vj _ u0 c _),h.2⟩ ba ba kT ?_ ?_;·unfold jn;split;exact h.1.mw.cs 6;exact h.1.mw.cs 12
     ·unfold jn;split;·exact Tg _ (N1 (dx a 6 aa))
      ·exact Tg _ (M7 (dx a 12 aa))
   ·split;·exact gY h ba false d
    ·split;·exact gz h ba ba kT (N:=j5 n true) ⟨h.1.wait true,h.2⟩ rfl
     ·exact gz h ba ba kT h rfl
theorem NF (h:Gw n) {i:Ins} (a:jv i) {w:Int} (d:U w):Gw (fR n i w).1:=by
 have b:=h.1.ux i.a.toNat;have c:=h.1.ux i.b.toNat;have e:=a.op1;unfold fR;dsimp only;split;·exact gz h a.rd0 a.rd31 (bq _) h rfl
 split;·exact gz h a.rd0 a.rd31 (bq _) h rfl
 split;·exact NC h a aa ‹_› _ _
 split;·exact ND h a aa ‹_› (bq _)
 split;·exact KM h (bq _) c
 split;·exact gz h a.rd0 a.rd31 (RE _ b (by split;exact c;exact bq _)) h rfl
 split;·exact NE h a b c
 split;·exact gz h ba ba kT h rfl
 split;·exact Qr h a b d
 ·exact Qs h a d
theorem NG (h:Gw n) (g:∀ l p,0<=iN l p->∃ k:Nat,k<16/\iN l p=k):Gw (cj n).1:=by
 have a:Gw (j5 n false):=⟨h.1.wait false,h.2⟩;unfold cj;split;·exact h
 ·split;·rename_i f;obtain ⟨k,b,e⟩:=g _ _ f;rw [e,R4];exact gY a b true kT
  ·dsimp only;split;·exact ks a kT ‹_› (jd a n.pc 4 1 kT).1.pc
   ·have c:=Bu a.1 a.2 n.pc 4 aa 1 0;split;·exact gY (jd a n.pc 4 1 kT) ba false c
    ·rename_i i d;exact NF (jd a n.pc 4 1 kT) (Ct d) c
theorem Fb (h:0<=iN S r):∃ k:Nat,k<16/\iN S r=k:=by
 have key:∀ x,0<=dA x->∃ k:Nat,k<16/\dA x=k:=λx a=>by
  unfold dA at a ⊢;rcases tL x eS with e|⟨n,b,e,_⟩;·rw [e] at a;omega
  ·refine ⟨n,?_,e⟩;have:∀ m ∈ eS,m<16:=by decide
   exact this n b
 unfold iN at h ⊢;split at h;·exact key _ h
 ·unfold If at h ⊢;split at h;·exact key _ h
  ·omega
structure DD (M:MV):Prop where
 mw:MW M
 ux:∀ j,U (M.x.getD j 0)
 pc:U M.pc
 hd:U M.hd
 ud:Ud M.d
theorem DD.gd (h:DD n) (a:eW n):Gd n:=⟨a,h.mw,h.ux,h.pc,h.hd⟩
def KN (M:MV):MV × Int:=if eW M=true then cj M else (au,0)
def mQ (w:A5) (V:MV × Int) (e:H2) (w':A5):Prop:=∃ C:MA,e=.returned (.tuple #[.agg (aJ V.1 C),.i V.2])/\bi w.heap.size w'.heap.size w' (aU V.1 C)/\Bw w w'
def bJ:Nat->MV->MV × List Int
 | 0,M=>(M,[])
 | n+1,M=>if ((cj M).2==4)=true then ((cj M).1,[(cj M).2]) else ((bJ n (cj M).1).1,(cj M).2::(bJ n (cj M).1).2)
theorem Gw.step (h:Gw n):Gw (cj n).1:=NG h λl p a=>Fb l p a
theorem vk:∀ (n:Nat) {M:MV},Gw M->Gw (bJ n M).1
 | 0,_,h=>h
 | n+1,M,h=>by
   unfold bJ
   split
   ·exact h.step
   ·exact vk n h.step
theorem rz:∀ (n:Nat) (M:MV),(bJ n M).2.length<=n
 | 0,_=>M5 _
 | n+1,M=>by
   unfold bJ
   split
   ·simp
   ·have:=rz n (cj M).1
    simp only [List.length_cons]
    omega
theorem NH {t':TypeId} {B':List G3} (h:p.ownsRow l f 1 j b z) (W:p.ownsRow a t' 1 q g B') (o:f≠t') {k:Nat} (e:j.ownBlock=some k):q.ownBlock≠some k:=λt=>by
 rcases h.2 with ⟨rfl,_⟩|⟨n,c,v,rfl,_,m,_⟩;·cases e
 ·rcases W.2 with ⟨rfl,_⟩|⟨r,i,d,rfl,_,B,_⟩;·cases t
  ·cases e;cases t;rw [m] at B;injection B with h4
   injection h4 with _ h5
   exact o h5
theorem RG {q:FRow} (h:q ∈ aU n B):q.t=32\/q.t=5:=by simp only [aU,List.mem_cons,List.not_mem_nil,or_false] at h;rcases h with rfl|rfl|rfl|rfl|rfl<;>simp [aK,aI]
theorem DE (h:p.ownsRow l 2 1 j g z) (f:bi a b p (aU n B)) {k:Nat} (e:j.ownBlock=some k):∀ q ∈ aU n B,q.v.ownBlock≠some k:=λq E=>NH h (f.own q E) (by rcases RG E with e | e<;>rw [e]<;>decide) e
def Fc (T:TypeId) (v u:G3):Sem Next:=execOp (λx=>match x with | .tmp 0=>v | _=>u) {dst:=none,op:=.call {callee:=.builtin .append,args:=#[.tmp 0,.tmp 1],argTypes:=#[T,T]},type:=T,pos:= "",after:=#[],guard:=none}
theorem Hk {x:G3} (h:(Builtin.append_ #[f,f] f #[j,q]).run V p=.ok x k):(Fc f j q).run V p=.ok (.value x) k:=by unfold Fc execOp;simp only [resolve,invoke,builtin,Sem.run_bind,Sem.run_pure,Result.andThen_ok,List.map_toArray,List.map_cons,List.map_nil,h]
theorem Bv:(prog.info? 2).map (λi=>(i.zero,i.size,i.bytes))=some (some (.i 0),1,8):=by kernel_rfl
theorem NI:(do pure (.value (<- Instr.buildSlice 143 1 #[(0,.i X)])):Sem Next).run prog K=.ok (.value (.slice (some ⟨K.heap.size,0,none⟩) 1 1)) (K.alloc (.cells #[.i X] 2)):=by obtain ⟨d,c,e⟩:=Option.map_eq_some_iff.1 Bv;simp only [Prod.mk.injEq] at e;obtain ⟨b,a,f⟩:=e;have:=run_buildSlice (P:=prog) K 143 2 1 #[(0,.i X)] #[.i X] d (.i 0) underlying143 c b (by rw [a];decide) (by rw [a];decide) (by rw [a];kernel_rfl);simp [this]
theorem KO (h:p.ownsRow l 2 1 (.slice y t.length a) t.length (t.map (K0 .i64))) (hz:l<=p.heap.size) (hn:t.length<=1000000) (x:Int):∃ (b:Option F3) (d:Nat) (W':A5),(Fc 143 (.slice y t.length a) (.slice (some ⟨p.heap.size,0,none⟩) 1 1)).run prog (p.alloc (.cells #[.i x] 2))=.ok (.value (.slice b (t++[x]).length d)) W'/\W'.ownsRow l 2 1 (.slice b (t++[x]).length d) (t++[x]).length ((t++[x]).map (K0 .i64))/\p.heap.size<=W'.heap.size/\W'.os=p.os/\W'.tape=p.tape/\W'.output=p.output/\∀ k,k<p.heap.size->(∀ j,(Value.slice y t.length a).ownBlock=some j->j≠k)->W'.heap[k]?=p.heap[k]?:=by
 obtain ⟨A,s,e⟩:=Option.map_eq_some_iff.1 Bv;simp only [Prod.mk.injEq] at e;obtain ⟨base,q,r⟩:=e;have f:=(K4 p.heap.size p).alloc (M5 _) (.cells #[.i x] 2);obtain ⟨v,W',c,o,i,_⟩:=run_append_own (P:=prog) (p.alloc (.cells #[.i x] 2)) l 143 143 2 A (.i 0) 1 8 underlying143 s base q r rfl ba _ t.length _ (aZ h f) ⟨p.heap.size,0,none⟩ 1 1 [.i x] rfl (λj u z=>gF p _ _ j u z) ex ct aa bb;have m:∃ b d,v=.slice b (t.length+1) d:=by
  rcases o.2 with ⟨base,B⟩|⟨g,cap,W,base,_⟩;·omega
  ·exact ⟨_,_,base⟩
 obtain ⟨b,d,rfl⟩:=m;have n:(t++[x]).length=t.length+1:=bh
 refine ⟨b,d,W',Hk (by rw [n];exact c),?_,Nat.le_trans f.size i.size,i.os.trans f.os,i.tape.trans f.tape,i.output.trans f.output,λk w xs=>(i.block k bb (λe=>xs k e.symm rfl)).trans (f.block k w)⟩;rw [n,List.map_append];exact o
def fO (c:Int):Ending:=.panicked [{v:=.iface 248 (.i c),recovered:=false}]
def Bz (k:Int):Int:=if k=2 then 5 else if k=3 then 7 else 1
theorem Fe (k:Int) (b:1<=k) (c:k<=3):Bz k=faultC k:=by
 have a:k=1\/k=2\/k=3:=aa
 rcases a with rfl|rfl|rfl<;>rfl
theorem KP (h:¬ (1<=r/\r<=3)):Bz r=1:=by unfold Bz;rw [JZ9 aa,JZ9 aa]
theorem oc:CE 147 #[.i r] K (.i (Bz r)):=by
 have F:Hid (Bz r=if r=2 then 5 else if r=3 then 7 else 1):=(rfl:Bz r=_);generalize Bz r=v at *;cases f:(r==2) with
 | true =>have c:r=2:=cb;have b:Hid (v=5):=F.out.trans (JZ8 c);exact ta
 | false =>
   have c:¬ r=2:=cb;cases g:(r==3) with
   | true =>have d:r=3:=ck;have b:Hid (v=7):=F.out.trans ((JZ9 c).trans (JZ8 d));exact ta
   | false =>have d:¬ r=3:=ck;have b:Hid (v=1):=F.out.trans ((JZ9 c).trans (JZ9 d));exact ta
theorem zm (k:Int) (d:1<=k) (f:k<=3) (w:A5):CE 183 #[.i k] w (.i (pageC k)):=by
 have b:k=1\/k=2\/k=3:=aa
 rcases b with rfl|rfl|rfl;·go_enter func183,ntmps183;exact oj
 ·go_enter func183,ntmps183;exact oj
 ·go_enter func183,ntmps183;exact oj
theorem na (f:1<=Z) (g:Z<=3) (w:A5): F0 prog 187 #[.agg #[.slice F G J,.slice I 22 L,.i X,.u Y,.i Z]] w λe c=>e=fO (faultC Z)/\Bw w c:=by
 have d:Hid (∀ w,CE 147 #[.i Z] w (.i (faultC Z))):=λw=>by have:=oc Z w;rw [Fe Z f g] at this;exact this
 generalize faultC Z=o at *;go_enter func187,ntmps187;go_wp2_with fail;refine (d.out _).mono ?_;rintro e q ⟨rfl,b⟩;subst b;go_wp2_with fail;exact ⟨rfl,rfl,bal _ _⟩
theorem jp (f:1<=Z) (g:Z<=3) (w:A5): F0 prog 156 #[.agg #[.slice F G J,.slice I 22 L,.i X,.u Y,.i Z]] w λe c=>e=fO (pageC Z)/\Bw w c:=by have d:Hid (∀ w,CE 183 #[.i Z] w (.i (pageC Z))):=λw=>zm Z f g w;generalize pageC Z=o at *;go_enter func156,ntmps156;go_wp2_with fail;refine (d.out _).mono ?_;rintro e q ⟨rfl,b⟩;subst b;go_wp2_with fail;exact ⟨rfl,rfl,bal _ _⟩
structure Wk (w:A5) (g n rc:Nat) (zs:List Int) (b off lc:Nat) (l:List Int) (p va k:Int):Prop where
 hz:zs.length=n
 hr:bA n
 hs:Sl .u8 w (some ⟨g,0,none⟩) zs
 hw:∀ y ∈ zs,(Lit.int .u8 y).wf
 hc:n<=rc
 hc2:rc<=9223372036854775807
 hlz:l.length=22
 hl:Sl .u64 w (some ⟨b,off,none⟩) l
 hU:∀ j,U (l.getD j 0)
 hg:aQ 22 l p
 hva:U va
 hk1:1<=k
 hk3:k<=3
 hT:lY w
theorem Wk.below {g:Nat} {zs:Nat} (h:Wk p g l e t b a zs W c d m) (hb:Bw p k):Wk k g l e t b a zs W c d m :=
 ⟨h.hz,h.hr,h.hs.below hb,h.hw,h.hc,h.hc2,h.hlz,h.hl.below hb,h.hU,h.hg,h.hva,h.hk1,h.hk3,h.hT.below hb⟩
theorem Wk.at {b i:Nat} {k:Int} (h:Wk w g l e t b a i W c d k) (j:Nat) (f:j<22):w.cell? ⟨b,a+j,none⟩=some (.u (W.getD j 0)):=by obtain ⟨o,p,n,_,va⟩:=h.hl j (by rw [h.hlz];exact f);simp only [Option.some.injEq,Addr.mk.injEq,and_true] at n;obtain ⟨rfl,rfl⟩:=n;exact va
theorem Wk.one {va:Nat} (h:Wk p g l e t b a va W c d m):aQ 22 W 1:=by have:=h.hg;unfold aQ at this ⊢;rw [S1] at this;rw [this.1];rfl
theorem lC {c d e:G3} {t:Nat × Nat} (h:p.heap[g]?=some (.cells #[j,q,c,d,e] f t)):p.cell? ⟨g,0,none⟩=some j/\p.cell? ⟨g,1,none⟩=some q/\p.cell? ⟨g,2,none⟩=some c/\p.cell? ⟨g,3,none⟩=some d/\p.cell? ⟨g,4,none⟩=some e:=by refine ⟨?_,?_,?_,?_,?_⟩<;>simp [I4,h]
theorem eX (hb:Bw p k) {g:Nat} {o:Obj} (h:p.heap[g]?=some o):k.heap[g]?=some o:=by rw [hb.block g (L5.1 h).1];exact h
theorem ss (h:G<=2) (w:A5):CE 184 #[.i (G:Int)] w (.i ((12+9*G:Nat):Int)):=by
 have:G=0\/G=1\/G=2:=aa
 rcases this with rfl|rfl|rfl;·go_enter func184,ntmps184;exact oj
 ·go_enter func184,ntmps184;exact oj
 ·go_enter func184,ntmps184;exact oj
def qE (zs:List Int) (n:Nat) (l:List Int) (k x:Int):H2 :=
 if iP n x 8=true then (if permRest l 1 x (lastOf x 8) 2 4 0=true then (if badB (pteV zs x)=true then fO (pageC k) else .returned (.tuple #[.u x,.u (pteV zs x)])) else fO (faultC k)) else fO (faultC k)
theorem KQ (a:∀ y ∈ S,(Lit.int .u8 y).wf) (x:Int):U (pteV S x):=by have:=tA S (j7 a) 8 (x-2147483648).toNat aa;exact ⟨this.1,this.2⟩
theorem su (f y:Nat) (l:List Int) (p va k T:Int) (lv:Nat) (S:lv<=2) (w:A5) (W:Wk w G J R o L f y l p va k): F0 prog 157 #[.agg #[.slice (some ⟨G,0,none⟩) J R,.slice (some ⟨L,f,none⟩) 22 y,.i p,.u va,.i k],.u T,.i (lv:Int)] w λe c=>e=qE o J l k (pteAt T va lv)/\Bw w c:=by
 have HW:Hid (Wk w G J R o L f y l p va k):=W;have hn:J<=1048576:=by have:=gg W.hr;omega
 obtain ⟨q,V⟩:∃ q:Nat,q=12+9*lv:=⟨_,rfl⟩;have HL:Hid (∀ w,F0 prog 184 #[.i (lv:Int)] w λe c=>e=.returned (.i (q:Int))/\∃ m,c=w.drewN m):=λw=>by rw [V];exact (ss lv S w).mono λ_ _ h=>⟨h.1,0,h.2⟩
 have Z:Hid (∀ w,F0 prog 73 #[.u va,.i (q:Int),.i 9] w λe c=>e=.returned (.u (aG va q 9))/\∃ m,c=w.drewN m):=λw=>(aL va q 9 W.hva.1 W.hva.2 aa aa w).mono λ_ _ h=>⟨h.1,1,h.2⟩;have PX:Hid (Uz.wrap (T+Uz.wrap (8*aG va q 9))=pteAt T va lv):=by show _=_;rw [V];exact Qm T va W.hva lv
 clear V;have z:U (pteAt T va lv):=bq _;generalize pteAt T va lv=x at *;have I:Hid (∀ c,Bw w c->CB 185 #[.slice (some ⟨G,0,none⟩) J R,.u x,.i 8] c (.tuple #[.u (lM o J x 8),.bool (iP J x 8)])):=λc M =>
  pJ G J R o x 8 c W.hz hn (W.hs.below M) W.hw W.hc W.hc2 z.1 (by have:=z.2;omega)
 have B:Hid (∀ c,Bw w c->CB 186 #[.slice (some ⟨L,f,none⟩) 22 y,.i 1,.u x,.i 8,.i 2] c (.bool (permV 22 l 1 x 8 2))):=λc M =>
  jP (some ⟨L,f,none⟩) 22 y l 1 x 8 2 c W.hlz (W.hl.below M) W.hU z (W.hT.below M)
 have A:Hid (∀ w,F0 prog 187 #[.agg #[.slice (some ⟨G,0,none⟩) J R,.slice (some ⟨L,f,none⟩) 22 y,.i p,.u va,.i k]] w λe c=>e=fO (faultC k)/\Bw w c):=λw=>na _ _ _ _ _ _ _ _ W.hk1 W.hk3 w;have r:Hid (∀ w,F0 prog 156 #[.agg #[.slice (some ⟨G,0,none⟩) J R,.slice (some ⟨L,f,none⟩) 22 y,.i p,.u va,.i k]] w λe c=>e=fO (pageC k)/\Bw w c):=λw=>jp _ _ _ _ _ _ _ _ W.hk1 W.hk3 w;have D:∀ zs m,Bw w ((w.alloc zs).drewN m):=λzs m=>kr (bal _ _) m;have F:Hid (qE o J l k x=if iP J x 8=true then (if permRest l 1 x (lastOf x 8) 2 4 0=true then (if badB (pteV o x)=true then fO (pageC k) else .returned (.tuple #[.u x,.u (pteV o x)])) else fO (faultC k)) else fO (faultC k)):=(rfl:qE o J l k x=_);have K:=W.one;clear W;go_enter func157,ntmps157;go_wp2_with fail;go_quiet (first | (go_at_call 184;with_reducible refine L4 (HL.out _)) | (go_at_call 73;with_reducible refine L4 (Z.out _)))
 rw [PX.out];go_wp2_with fail;refine (I.out _ (D _ _)).mono ?_;rintro e w1 ⟨rfl,E⟩;have Q:Hid (Bw w w1):=ae (D _ _) E;have R1:Hid (w1.heap[w.heap.size]?=some (.cells #[.slice (some ⟨G,0,none⟩) J R,.slice (some ⟨L,f,none⟩) 22 y,.i p,.u va,.i k] 240 (0,0))):=eX E (A0 w _);obtain ⟨k0,k1,k2,k3,k4⟩:=lC R1.out;clear E D I HL Z;cases u:iP J x 8 with
 | false =>rw [u] at F;have s:Hid (qE o J l k x=fO (faultC k)):=F.out.trans (JZ9 ba);clear F B r;go_wp2_with fail;refine (A.out _).mono ?_;rintro e X ⟨rfl,t⟩;exact ⟨rfl,s.out.symm,ae Q.out t⟩
 | true =>
   rw [u,JZ8 rfl] at F;have n:lM o J x 8=pteV o x:=(by unfold lM pteV;rw [u];rfl);rw [n];have b:=EZ J l x 2 K u aa aa;go_wp2_with fail;refine (B.out _ Q.out).mono ?_;rintro e X ⟨rfl,t⟩;rw [b];have H:Hid (Bw w X):=ae Q.out t;have R2:Hid (X.heap[w.heap.size]?=some (.cells #[.slice (some ⟨G,0,none⟩) J R,.slice (some ⟨L,f,none⟩) 22 y,.i p,.u va,.i k] 240 (0,0))):=eX t R1.out;clear k0 k1 k2 k3 k4 t;obtain ⟨k0,k1,k2,k3,k4⟩:=lC R2.out;clear B n b;have UE:U (pteV o x):=KQ o HW.out.hw x;have Y:=Qk (pteV o x) UE;rw [<- Y] at F;clear Y;generalize pteV o x=C at *;generalize permRest l 1 x (lastOf x 8) 2 4 0=pb at *;cases pb with
   | false =>have s:Hid (qE o J l k x=fO (faultC k)):=F.out.trans (JZ9 ba);clear F r;go_wp2_with fail;refine (A.out _).mono ?_;exact tt
   | true =>
     have j:qE o J l k x=if Nm C=true then fO (pageC k) else .returned (.tuple #[.u x,.u C]):=F.out.trans (JZ8 rfl)
     clear F A;unfold Nm at j;cases N:(A6 .and .u64 C 1==0) with
     | true =>
       rw [N] at j;have s:Hid (qE o J l k x=fO (pageC k)):=j.trans (JZ8 rfl);clear j;cases O:(A6 .and .u64 C 6==4) with
       | true =>go_wp2_with fail;refine (r.out _).mono ?_;exact tt
       | false =>go_wp2_with fail;refine (r.out _).mono ?_;exact tt
     | false =>
       cases O:(A6 .and .u64 C 6==4) with
       | true =>rw [N,O] at j;have s:Hid (qE o J l k x=fO (pageC k)):=j.trans (JZ8 rfl);clear j;go_wp2_with fail;refine (r.out _).mono ?_;exact tt
       | false =>
         cases t3:(A6 .and .u64 C 18428729675200069632 != 0) with
         | true =>rw [N,O,t3] at j;have s:Hid (qE o J l k x=fO (pageC k)):=j.trans (JZ8 rfl);clear j;go_wp2_with fail;refine (r.out _).mono ?_;exact tt
         | false =>rw [N,O,t3] at j;have s:Hid (qE o J l k x=.returned (.tuple #[.u x,.u C])):=j.trans (JZ9 ba);clear j;go_wp2_with fail;go_ret2;exact ⟨s.out.symm,H.out⟩
theorem DF (he:U r) (w:A5):CE 158 #[.u r] w (.bool (!ptrB r)):=by have F:Hid ((A6 .and .u64 r 10 != 0)=!ptrB r):=Nn r he;generalize (!ptrB r)=v at *;go_enter func158,ntmps158;exact o6
theorem sx (he:U r) (w:A5):F0 prog 188 #[.u r] w λe c=>e=.returned (.u (aG r 10 44))/\c=w.drew:=by have d:Hid (∀ w,F0 prog 73 #[.u r,.i 10,.i 44] w λe c=>e=.returned (.u (aG r 10 44))/\c=w.drew):=λw=>aL r 10 44 he.1 he.2 aa aa w;generalize aG r 10 44=f at *;go_enter func188,ntmps188;go_wp2_with fail;refine (d.out _).mono ?_;rintro e g ⟨rfl,b⟩;subst b;exact oj
def NJ (k e:Int) (lv:Nat):Ending:=if stopB e lv=true then fO (pageC k) else .returned (.u (Uz.wrap (frameV e*4096)))
theorem BA (e:Int) (lv:Nat) (he:U e) (B:1<=Z) (C:Z<=3) (w:A5): F0 prog 159 #[.agg #[.slice (some ⟨G,0,none⟩) J R,.slice (some ⟨L,N,none⟩) 22 O,.i X,.u Y,.i Z],.u e,.i (lv:Int)] w λr q=>r=NJ Z e lv/\Bw w q:=by
 have l:Hid (∀ w,F0 prog 156 #[.agg #[.slice (some ⟨G,0,none⟩) J R,.slice (some ⟨L,N,none⟩) 22 O,.i X,.u Y,.i Z]] w λe q=>e=fO (pageC Z)/\Bw w q):=λw=>jp _ _ _ _ _ _ _ _ B C w;have A:Hid (∀ w,F0 prog 188 #[.u e] w λr q=>r=.returned (.u (frameV e))/\q=w.drew):=λw=>by have:=sx e he w;rw [vd e he] at this;exact this
 have F:NJ Z e lv=if (((lv:Int)==0)||(A6 .and .u64 e 208 != 0))=true then fO (pageC Z) else .returned (.u (Uz.wrap (frameV e*4096))):=by rw [Np e he lv];rfl
 have c:∀ o,Bw w (w.alloc o):=λo=>bal _ _;generalize frameV e=f at *;generalize NJ Z e lv=v at *;cases t:((lv:Int)==0) with
 | true =>rw [t] at F;have j:Hid (v=fO (pageC Z)):=F.trans (JZ8 rfl);clear F;go_enter func159,ntmps159;go_wp2_with fail;refine (l.out _).mono ?_;rintro r D ⟨rfl,d⟩;exact ⟨rfl,j.out.symm,ae (c _) d⟩
 | false =>
   cases z:(A6 .and .u64 e 208 != 0) with
   | true =>rw [t,z] at F;have j:Hid (v=fO (pageC Z)):=F.trans (JZ8 rfl);clear F;go_enter func159,ntmps159;go_wp2_with fail;refine (l.out _).mono ?_;rintro r D ⟨rfl,d⟩;exact ⟨rfl,j.out.symm,ae (c _) d⟩
   | false =>rw [t,z] at F;have j:Hid (v=.returned (.u (Uz.wrap (f*4096)))):=F.trans (JZ9 ba);clear F;go_enter func159,ntmps159;go_wp2_with fail;refine (A.out _).mono ?_;rintro r E ⟨rfl,s⟩;subst s;go_wp2_with fail;go_ret;exact ⟨j.out.symm,kr (c _) 1⟩
theorem BC (e x:Int) (u:1<=Z) (y:Z<=3) (w:A5) (z:∀ o,(w.alloc o).cell? ⟨R,L,none⟩=some (.u x)): CB 189 #[.agg #[.slice F G J,.slice (some ⟨R,L,none⟩) 22 N,.i X,.u Y,.i Z],.u e] w (.bool (n6 x Z e)):=by
 have c:∀ o,Bw w (w.alloc o):=λo=>bal _ _;have g:Z=1\/Z=2\/Z=3:=aa
 rcases g with rfl|rfl|rfl;·have ra:Hid (n6 x 1 e=(A6 .and .u64 e 8 != 0)):=(rfl:n6 x 1 e=_);generalize n6 x 1 e=v at *;go_enter func189,ntmps189;go_wp2_with fail;go_ret;exact ⟨by rw [ra.out];rfl,c _⟩
 ·have ra:n6 x 2 e=((A6 .and .u64 e 2 != 0)||((A6 .and .u64 x 524288 != 0)&&(A6 .and .u64 e 8 != 0))):=rfl;generalize n6 x 2 e=v at *;cases m:(A6 .and .u64 e 2 != 0)<;>cases q:(A6 .and .u64 x 524288 != 0)<;>cases s:(A6 .and .u64 e 8 != 0);all_goals
   rw [m,q,s] at ra
   have f:=fX ra
   clear ra
   go_enter func189,ntmps189
   go_wp2_with fail
   go_ret
   exact ⟨by rw [f.out];rfl,c _⟩
 ·have ra:Hid (n6 x 3 e=(A6 .and .u64 e 4 != 0)):=(rfl:n6 x 3 e=_);generalize n6 x 3 e=v at *;go_enter func189,ntmps189;go_wp2_with fail;go_ret;exact ⟨by rw [ra.out];rfl,c _⟩
theorem BG (e x:Int) (w:A5) (u:∀ o,(w.alloc o).cell? ⟨R,L,none⟩=some (.u x)): CB 190 #[.agg #[.slice F G J,.slice (some ⟨R,L,none⟩) 22 N,.i X,.u Y,.i Z],.u e] w (.bool (Bd x X Z e)):=by
 have c:∀ o,Bw w (w.alloc o):=λo=>bal _ _;have ra:Bd x X Z e=if (A6 .and .u64 e 16==0)=true then (X==1) else ((X==0)||((Z != 1)&&(A6 .and .u64 x 262144 != 0))):=rfl
 generalize Bd x X Z e=v at *;cases t0:(A6 .and .u64 e 16==0) with
 | true =>have g:Hid (v=(X==1)):=(by rw [t0] at ra;exact ra.trans (JZ8 rfl));clear ra;go_enter func190,ntmps190;go_wp2_with fail;go_ret;exact ⟨by rw [g.out];rfl,c _⟩
 | false =>
   have f:v=((X==0)||((Z != 1)&&(A6 .and .u64 x 262144 != 0))):=(by rw [t0] at ra;exact ra.trans (JZ9 ba));clear ra;cases m:(X==0)<;>cases q:(Z != 1)<;>cases s:(A6 .and .u64 x 262144 != 0);all_goals
    rw [m,q,s] at f
    have g:=fX f
    clear f
    go_enter func190,ntmps190
    go_wp2_with fail
    go_ret
    exact ⟨by rw [g.out];rfl,c _⟩
def NK (l:List Int) (p k e:Int) (lv:Nat):Ending:=if (offB e lv||noKind l k e||noPriv l p k e)=true then fO (pageC k) else .returned (.tuple #[])
theorem wq (l:List Int) (p va k e:Int) (lv:Nat) (V:lv<=2) (he:U e) (hp:p=0\/p=1) (w:A5) (W:Wk w G J R o L N O l p va k): F0 prog 160 #[.agg #[.slice (some ⟨G,0,none⟩) J R,.slice (some ⟨L,N,none⟩) 22 O,.i p,.u va,.i k],.u e,.i (lv:Int)] w λr d=>r=NK l p k e lv/\Bw w d:=by
 have HW:Hid (Wk w G J R o L N O l p va k):=W;obtain ⟨q,Z⟩:∃ q:Nat,q=9*lv:=⟨_,rfl⟩;have K:Hid (9*(lv:Int)=(q:Int)):=by show _=_;omega
 have n:Hid (∀ w,F0 prog 73 #[.u e,.i 10,.i (q:Int)] w λr d=>r=.returned (.u (aG e 10 q))/\d=w.drew):=λw=>aL e 10 q he.1 he.2 aa aa w;have D:Hid (∀ w,F0 prog 156 #[.agg #[.slice (some ⟨G,0,none⟩) J R,.slice (some ⟨L,N,none⟩) 22 O,.i p,.u va,.i k]] w λe d=>e=fO (pageC k)/\Bw w d):=λw=>jp _ _ _ _ _ _ _ _ W.hk1 W.hk3 w;have s:∀ zs m,Bw w ((w.alloc zs).drewN m):=λzs m=>kr (bal _ _) m;have S:Hid (∀ d,Bw w d->∀ zs,(d.alloc zs).cell? ⟨L,N,none⟩=some (.u (l.getD 0 0))):=λd I zs=>(W.below (ae I (bal _ _))).at 0 aa;have C:Hid (∀ d,Bw w d->CB 189 #[.agg #[.slice (some ⟨G,0,none⟩) J R,.slice (some ⟨L,N,none⟩) 22 O,.i p,.u va,.i k],.u e] d (.bool (!noKind l k e))):=λd I=>by have:=BC (some ⟨G,0,none⟩) J R L N O p va k e (l.getD 0 0) W.hk1 W.hk3 d (S.out d I);rw [Kv l k e he (W.hU 0) W.hk1 W.hk3] at this;exact this
 have H:Hid (∀ d,Bw w d->CB 190 #[.agg #[.slice (some ⟨G,0,none⟩) J R,.slice (some ⟨L,N,none⟩) 22 O,.i p,.u va,.i k],.u e] d (.bool (!noPriv l p k e))):=λd I=>by have:=BG (some ⟨G,0,none⟩) J R L N O p va k e (l.getD 0 0) d (S.out d I);rw [Kw l p k e he (W.hU 0) hp] at this;exact this
 have Y:(aG e 10 q != 0)=offB e lv:=by rw [Z];exact Ku e he lv V
 have F:NK l p k e lv=if (offB e lv||noKind l k e||noPriv l p k e)=true then fO (pageC k) else .returned (.tuple #[]):=rfl
 rw [<- Y] at F;generalize NK l p k e lv=v at *;generalize aG e 10 q=ff at *;generalize noKind l k e=nk at *;generalize noPriv l p k e=np at *;clear W S Z Y;cases Q:(ff != 0) with
 | true =>rw [Q] at F;have B:Hid (v=fO (pageC k)):=F.trans (JZ8 rfl);clear F;go_enter func160,ntmps160;go_wp2_with fail;rw [K.out];refine (n.out _).mono ?_;rintro r X ⟨rfl,t⟩;subst t;go_wp2_with fail;refine (D.out _).mono ?_;rintro r g ⟨rfl,j⟩;exact ⟨rfl,B.out.symm,ae (s _ 1) j⟩
 | false =>
   cases nk with
   | true =>rw [Q] at F;have B:Hid (v=fO (pageC k)):=F.trans (JZ8 rfl);clear F;go_enter func160,ntmps160;go_wp2_with fail;rw [K.out];refine (n.out _).mono ?_;rintro r X ⟨rfl,t⟩;subst t;go_wp2_with fail;refine (C.out _ (s _ 1)).mono ?_;rintro r z ⟨rfl,f⟩;have R2:Hid (z.heap[w.heap.size]?=some (.cells #[.slice (some ⟨G,0,none⟩) J R,.slice (some ⟨L,N,none⟩) 22 O,.i p,.u va,.i k] 240 (0,0))):=eX f (A0 w _);obtain ⟨b,M,c,u,P⟩:=lC R2.out;have A:Hid (Bw w z):=ae (s _ 1) f;clear f;go_wp2_with fail;refine (D.out _).mono ?_;rintro r g ⟨rfl,j⟩;exact ⟨rfl,B.out.symm,ae A.out j⟩
   | false =>
     cases np with
     | true =>rw [Q] at F;have B:Hid (v=fO (pageC k)):=F.trans (JZ8 rfl);clear F;go_enter func160,ntmps160;go_wp2_with fail;rw [K.out];refine (n.out _).mono ?_;rintro r X ⟨rfl,t⟩;subst t;go_wp2_with fail;refine (C.out _ (s _ 1)).mono ?_;rintro r z ⟨rfl,f⟩;have R2:Hid (z.heap[w.heap.size]?=some (.cells #[.slice (some ⟨G,0,none⟩) J R,.slice (some ⟨L,N,none⟩) 22 O,.i p,.u va,.i k] 240 (0,0))):=eX f (A0 w _);obtain ⟨b,M,c,u,P⟩:=lC R2.out;have A:Hid (Bw w z):=ae (s _ 1) f;clear f;go_wp2_with fail;refine (H.out _ A.out).mono ?_;rintro r g ⟨rfl,j⟩;have R3:Hid (g.heap[w.heap.size]?=some (.cells #[.slice (some ⟨G,0,none⟩) J R,.slice (some ⟨L,N,none⟩) 22 O,.i p,.u va,.i k] 240 (0,0))):=eX j R2.out;clear b M c u P;obtain ⟨b,M,c,u,P⟩:=lC R3.out;have y:Hid (Bw w g):=ae A.out j;clear j;go_wp2_with fail;refine (D.out _).mono ?_;rintro r w4 ⟨rfl,T⟩;exact ⟨rfl,B.out.symm,ae y.out T⟩
     | false =>rw [Q] at F;have B:Hid (v=.returned (.tuple #[])):=F.trans (JZ9 ba);clear F;go_enter func160,ntmps160;go_wp2_with fail;rw [K.out];refine (n.out _).mono ?_;rintro r X ⟨rfl,t⟩;subst t;go_wp2_with fail;refine (C.out _ (s _ 1)).mono ?_;rintro r z ⟨rfl,f⟩;have R2:Hid (z.heap[w.heap.size]?=some (.cells #[.slice (some ⟨G,0,none⟩) J R,.slice (some ⟨L,N,none⟩) 22 O,.i p,.u va,.i k] 240 (0,0))):=eX f (A0 w _);obtain ⟨b,M,c,u,P⟩:=lC R2.out;have A:Hid (Bw w z):=ae (s _ 1) f;clear f;go_wp2_with fail;refine (H.out _ A.out).mono ?_;rintro r g ⟨rfl,j⟩;have y:Hid (Bw w g):=ae A.out j;clear j;go_wp2_with fail;go_end0;exact ⟨B.out.symm,y.out⟩
theorem NL (e:Int) (lv:Nat) (d:lv<=2) (he:U e) (hv:U Y) (s:offB e lv=false) (w:A5): CB 161 #[.agg #[.slice (some ⟨G,0,none⟩) J R,.slice (some ⟨L,N,none⟩) 22 O,.i X,.u Y,.i Z],.u e,.i (lv:Int)] w (.u (leadV e Y lv)):=by
 obtain ⟨q,j⟩:∃ q:Nat,q=12+9*lv:=⟨_,rfl⟩;have y:Hid (∀ w,F0 prog 184 #[.i (lv:Int)] w λe c=>e=.returned (.i (q:Int))/\∃ m,c=w.drewN m):=λw=>by rw [j];exact (ss lv d w).mono λ_ _ h=>⟨h.1,0,h.2⟩
 have t:Hid (∀ w,F0 prog 73 #[.u Y,.i 0,.i (q:Int)] w λe c=>e=.returned (.u (aG Y 0 q))/\∃ m,c=w.drewN m):=λw=>(aL Y 0 q hv.1 hv.2 aa aa w).mono λ_ _ h=>⟨h.1,1,h.2⟩;have u:Hid (∀ w,F0 prog 188 #[.u e] w λr c=>r=.returned (.u (aG e 10 44))/\∃ m,c=w.drewN m):=λw=>(sx e he w).mono λ_ _ h=>⟨h.1,1,h.2⟩;have F:Hid (A6 .or .u64 (Uz.wrap (aG e 10 44*4096)) (aG Y 0 q)=leadV e Y lv):=by show _=_;rw [j];exact Nr e Y he hv lv d s
 have f:∀ o m,Bw w ((w.alloc o).drewN m):=λo m=>kr (bal _ _) m;generalize leadV e Y lv=v at *;clear j s;go_enter func161,ntmps161;go_wp2_with fail;go_quiet (first | (go_at_call 184;with_reducible refine L4 (y.out _)) | (go_at_call 73;with_reducible refine L4 (t.out _)) | (go_at_call 188;with_reducible refine L4 (u.out _)))
 go_wp2_with fail;go_ret;exact ⟨bc,f _ _⟩
def fC (w w':A5) (zs:List Int) (a:Option F3) (n c:Nat):Prop:=w'.ownsRow w.heap.size 5 1 (.slice a n c) n (zs.map (K0 .u8))/\Bw w w'
theorem pq (hz:o.length=J) (O:1<=J) (hn:J<=1048576) (E:Sl .u8 K (some ⟨G,0,none⟩) o): F0 prog 46 #[.slice (some ⟨G,0,none⟩) J R] K λr n=>∃ (D:Option F3) (c:Nat),r=.returned (.slice D J c)/\fC K n o D J c:=by
 have S:∀ (K:A5) (a:Option F3) (J c C s:Nat),(binOp .eql 22 (.slice a J c) (.slice none C s)).run prog K=.ok (.bool a.isNone) K:=λK a J c C s=>Lib.run_eql_slice_nil K _ _ a J c C s underlying22
 obtain ⟨Q,N,z,A,B⟩:=info_parts info5
 have p:Hid (∀ u ∈ o.map (K0 .u8),u.oneCell'):=ints_oneCell _ _
 have t:(0+J)*1<=140737488355328:=aa
 have y:0+J<=maxLen:=by unfold maxLen;omega
 have m:(o.map (K0 .u8)).length=J*1:=by rw [List.length_map,hz];omega
 have L:=CY K K.heap.size (M5 _) (.cells #[] 5 (0,0)) rfl
 have f:Hid (∀ (zs:Obj) (j:Nat) (u:G3),(o.map (K0 .u8))[j]?=some u->(K.alloc zs).cell? ((⟨G,0,none⟩:F3).add j)=some u):=λzs j u P=>L9 E zs j u P
 clear E
 go_enter func46,ntmps46
 go_wp2_with (first
  | (at_builtin;refine wpList_append_own _ rfl (.tmp 5) (.tmp 6) 22 rfl _ 5 Q (.int .u8 0) 1 1 underlying22 N z A B rfl ba _ 0 [] ko L ⟨G,0,none⟩ J R (o.map (K0 .u8)) rfl m (f.out _) p.out y t bh ?_;intro T H b d l;simp only [Nat.zero_add,List.nil_append] at b;obtain ⟨w,g,F,M⟩:=iS b aa;rw [F] at b ⊢;have q:Hid (H.ownsRow K.heap.size 5 1 (.slice (some ⟨w,0,none⟩) J g) J (o.map (K0 .u8))):=b;have I:Hid (Bw K H):=GD d;clear l d b F M))
 go_ret
 exact ⟨_,_,rfl,q.out,I.out⟩
theorem Hl (e x:Int) (he:U e) (hm:(wantV e Z != e)=false) (w:A5) (W:Wk w G J R o L N O Q X Y Z): F0 prog 162 #[.agg #[.slice (some ⟨G,0,none⟩) J R,.slice (some ⟨L,N,none⟩) 22 O,.i X,.u Y,.i Z],.u x,.u e] w λr m=>∃ (f:Option F3) (c:Nat),r=.returned (.slice f J c)/\fC w m o f J c:=by
 have F:=gg W.hr;have B:Hid (∀ zs,F0 prog 46 #[.slice (some ⟨G,0,none⟩) J R] (w.alloc zs) λr m=>∃ (f:Option F3) (c:Nat),r=.returned (.slice f J c)/\fC (w.alloc zs) m o f J c):=λzs=>pq G J R o (w.alloc zs) W.hz aa aa (W.hs.below (bal _ _));have z:∀ zs,Bw w (w.alloc zs):=λzs=>bal _ _;have C:Hid (∀ zs m f c,fC (w.alloc zs) m o f J c->fC w m o f J c):=λzs m f c h=>⟨cS h.1 bh,ae (z zs) h.2⟩;have d:=EY e Z he;rw [hm] at d;have D:A6 .or .u64 64 128=192:=bv
 clear W;cases t:(Z==3) with
 | true =>have q:Z=3:=(by simpa using t);have j:n7 Z=192:=JZ8 q;rw [j] at d;have s:(A6 .and .u64 e 192==192):=d;clear d j q;go_enter func162,ntmps162;go_wp2_with fail;refine (B.out _).mono ?_;rintro r g ⟨f,c,rfl,A⟩;go_wp2_with fail;go_ret;exact ⟨_,_,rfl,C.out _ _ _ _ A⟩
 | false =>have q:¬ Z=3:=(by simpa using t);have j:n7 Z=64:=JZ9 q;rw [j] at d;have s:(A6 .and .u64 e 64==64):=d;clear d j q;go_enter func162,ntmps162;go_wp2_with fail;refine (B.out _).mono ?_;rintro r g ⟨f,c,rfl,A⟩;go_wp2_with fail;go_ret;exact ⟨_,_,rfl,C.out _ _ _ _ A⟩
def NM (l:List Int) (k e x:Int) (n:Nat) (zs:List Int) (w:A5) (r:H2) (w':A5):Prop :=
 if permRest l 1 x (lastOf x 8) 3 4 0=true then ∃ (a:Option F3) (c:Nat),r=.returned (.slice a n c)/\fC w w' (iM zs (x-2147483648).toNat (wantV e k) 8) a n c else r=fO (faultC k)/\Bw w w'
theorem DG (z:Nat) (l:List Int) (p va k e x:Int) (he:U e) (hx:iP J x 8) (hm:(wantV e k != e)) (w:A5) (W:Wk w G J R o L N z l p va k): F0 prog 162 #[.agg #[.slice (some ⟨G,0,none⟩) J R,.slice (some ⟨L,N,none⟩) 22 z,.i p,.u va,.i k],.u x,.u e] w λr s=>NM l k e x J o w r s:=by
 have hbd:=gg W.hr;have UX:U x:=by obtain ⟨_,_,h1,h2,_,_,_,h4⟩:=lF hx;exact ⟨aa,aa⟩
 have H:Hid (∀ w,F0 prog 187 #[.agg #[.slice (some ⟨G,0,none⟩) J R,.slice (some ⟨L,N,none⟩) 22 z,.i p,.u va,.i k]] w λe s=>e=fO (faultC k)/\Bw w s):=λw=>na _ _ _ _ _ _ _ _ W.hk1 W.hk3 w;have m:∀ zs,Bw w (w.alloc zs):=λzs=>bal _ _;have y:Hid (∀ zs,CB 186 #[.slice (some ⟨L,N,none⟩) 22 z,.i 1,.u x,.i 8,.i 3] (w.alloc zs) (.bool (permRest l 1 x (lastOf x 8) 3 4 0))):=λzs=>by have:=jP (some ⟨L,N,none⟩) 22 z l 1 x 8 3 (w.alloc zs) W.hlz (W.hl.below (m zs)) W.hU UX (W.hT.below (m zs));rw [EZ J l x 3 W.one hx aa aa] at this;exact this
 have I:Hid (∀ s,Bw w s->F0 prog 191 #[.slice (some ⟨G,0,none⟩) J R,.u x,.i 8,.u (wantV e k)] s λr B=>∃ (D:Option F3) (c:Nat),r=.returned (.tuple #[.slice D J c,.bool true])/\fC w B (iM o (x-2147483648).toNat (wantV e k) 8) D J c):=λs P=>by obtain ⟨_,_,h1,h2,_,_,_,h4⟩:=lF hx;obtain ⟨f,K⟩:∃ f:Nat,x=2147483648+(f:Int):=⟨(x-2147483648).toNat,aa⟩;subst K;have hu:=mD e k;have:=Be (some ⟨G,0,none⟩) J R f 8 o (wantV e k) s W.hz aa (W.hs.below P) hx hu.1 (by have:=hu.2;omega);rw [show (2147483648+(f:Int)-2147483648).toNat=f from aa];exact this.mono λr B h=>⟨_,_,h.1,cS h.2.1 P.size,ae P h.2.2⟩
 have F:Hid (∀ r s,NM l k e x J o w r s=if permRest l 1 x (lastOf x 8) 3 4 0=true then ∃ (D:Option F3) (c:Nat),r=.returned (.slice D J c)/\fC w s (iM o (x-2147483648).toNat (wantV e k) 8) D J c else r=fO (faultC k)/\Bw w s):=λr s=>rfl;have q:=EY e k he;have g:=EX e k;rw [hm] at q;have Z:A6 .or .u64 64 128=192:=bv
 generalize permRest l 1 x (lastOf x 8) 3 4 0=pb at *;generalize iM o (x-2147483648).toNat (wantV e k) 8=ms at *;generalize NM l k e x J o w=Q at *;generalize wantV e k=we at *;clear W hm;obtain ⟨j,M,t⟩:∃ j,n7 k=j/\(((k==3)/\j=192)\/((k==3)=false/\j=64)):=by
  refine ⟨_,rfl,?_⟩;by_cases O:k=3;·exact .inl ⟨by simpa using O,JZ8 O⟩
  ·exact .inr ⟨by simpa using O,JZ9 O⟩
 rw [M] at q g;have n:Hid (A6 .or .u64 e j=we):=g;clear g M;rcases t with ⟨t,rfl⟩|⟨t,rfl⟩
 ·have b:(A6 .and .u64 e 192==192)=false:=q;clear q;cases pb with
  | false =>go_enter func162,ntmps162;go_wp2_with fail;refine (y.out _).mono ?_;rintro r u ⟨rfl,d⟩;have R1:Hid (u.heap[w.heap.size]?=some (.cells #[.slice (some ⟨G,0,none⟩) J R,.slice (some ⟨L,N,none⟩) 22 z,.i p,.u va,.i k] 240 (0,0))):=eX d (A0 w _);obtain ⟨A,S,T,V,X⟩:=lC R1.out;have C:Hid (Bw w u):=ae (m _) d;clear d;go_wp2_with fail;refine (H.out _).mono ?_;rintro r Y ⟨rfl,E⟩;exact ⟨rfl,Eq.mpr ((F.out _ _).trans (JZ9 ba)) ⟨rfl,ae C.out E⟩⟩
  | true =>go_enter func162,ntmps162;go_wp2_with fail;refine (y.out _).mono ?_;rintro r u ⟨rfl,d⟩;have R1:Hid (u.heap[w.heap.size]?=some (.cells #[.slice (some ⟨G,0,none⟩) J R,.slice (some ⟨L,N,none⟩) 22 z,.i p,.u va,.i k] 240 (0,0))):=eX d (A0 w _);obtain ⟨A,S,T,V,X⟩:=lC R1.out;have C:Hid (Bw w u):=ae (m _) d;clear d;go_wp2_with fail;rw [n.out];refine (I.out _ C.out).mono ?_;rintro r Y ⟨D,c,rfl,K⟩;go_wp2_with fail;exact Eq.mpr ((F.out _ _).trans (JZ8 ba)) ⟨_,_,rfl,K⟩
 ·have b:(A6 .and .u64 e 64==64)=false:=q;clear q;cases pb with
  | false =>go_enter func162,ntmps162;go_wp2_with fail;refine (y.out _).mono ?_;rintro r u ⟨rfl,d⟩;have R1:Hid (u.heap[w.heap.size]?=some (.cells #[.slice (some ⟨G,0,none⟩) J R,.slice (some ⟨L,N,none⟩) 22 z,.i p,.u va,.i k] 240 (0,0))):=eX d (A0 w _);obtain ⟨A,S,T,V,X⟩:=lC R1.out;have C:Hid (Bw w u):=ae (m _) d;clear d;go_wp2_with fail;refine (H.out _).mono ?_;rintro r Y ⟨rfl,E⟩;exact ⟨rfl,Eq.mpr ((F.out _ _).trans (JZ9 ba)) ⟨rfl,ae C.out E⟩⟩
  | true =>go_enter func162,ntmps162;go_wp2_with fail;refine (y.out _).mono ?_;rintro r u ⟨rfl,d⟩;have R1:Hid (u.heap[w.heap.size]?=some (.cells #[.slice (some ⟨G,0,none⟩) J R,.slice (some ⟨L,N,none⟩) 22 z,.i p,.u va,.i k] 240 (0,0))):=eX d (A0 w _);obtain ⟨A,S,T,V,X⟩:=lC R1.out;have C:Hid (Bw w u):=ae (m _) d;clear d;go_wp2_with fail;rw [n.out];refine (I.out _ C.out).mono ?_;rintro r Y ⟨D,c,rfl,K⟩;go_wp2_with fail;exact Eq.mpr ((F.out _ _).trans (JZ8 ba)) ⟨_,_,rfl,K⟩
def BH (zs:List Int) (n:Nat) (l:List Int) (p va k e x:Int) (lv:Nat):Fd :=
 if ptrB e=true then (if stopB e lv=true then pageF k else walkL zs n l p va k (lv-1) (Uz.wrap (frameV e*4096))) else leafV l p va k e x lv
theorem xy (T:Int) (lv:Nat): (qE S G o Z (pteAt T Y lv)=fO (faultC Z)/\walkL S G o X Y Z lv T=faultF Z)\/(qE S G o Z (pteAt T Y lv)=fO (pageC Z)/\walkL S G o X Y Z lv T=pageF Z) \/ (qE S G o Z (pteAt T Y lv)=.returned (.tuple #[.u (pteAt T Y lv),.u (pteV S (pteAt T Y lv))])/\iP G (pteAt T Y lv) 8/\walkL S G o X Y Z lv T=BH S G o X Y Z (pteV S (pteAt T Y lv)) (pteAt T Y lv) lv):=by
 rw [walkL_step];unfold qE BH;generalize pteAt T Y lv=x;by_cases a:iP G x 8
 ·rw [JZ8 a,JZ8 a];by_cases b:permRest o 1 x (lastOf x 8) 2 4 0
  ·rw [JZ8 b,JZ8 b];by_cases c:badB (pteV S x);·rw [JZ8 c,JZ8 c];exact .inr (.inl ⟨rfl,rfl⟩)
   ·rw [JZ9 c,JZ9 c];exact .inr (.inr ⟨rfl,a,rfl⟩)
  ·rw [JZ9 b,JZ9 b];exact .inl ⟨rfl,rfl⟩
 ·rw [JZ9 a,JZ9 a];exact .inl ⟨rfl,rfl⟩
def H9 (V:Fd) (zs:List Int) (n:Nat) (w:A5) (r:H2) (w':A5):Prop :=
 if V.code=0 then ∃ (a:Option F3) (c:Nat),r=.returned (.tuple #[.u V.addr,.slice a n c])/\fC w w' (bG zs V) a n c else r=fO V.code/\Bw w w'
theorem NN (h:s=pageF c) (b:1<=c) (w':c<=3) (hb:Bw p k):H9 s t l p (fO (pageC c)) k:=by
 subst h;have a:c=1\/c=2\/c=3:=aa
 unfold H9;rw [JZ9];·exact ⟨rfl,hb⟩
 ·rcases a with rfl|rfl|rfl<;>decide
theorem KR (h:s=faultF c) (b:1<=c) (w':c<=3) (hb:Bw p k):H9 s t l p (fO (faultC c)) k:=by
 subst h;have a:c=1\/c=2\/c=3:=aa
 unfold H9;rw [JZ9];·exact ⟨rfl,hb⟩
 ·rcases a with rfl|rfl|rfl<;>decide
theorem KT (h:s.code=0) (b:s.addr=c) (hm:bG t s=W) (d:fC p k W y l a):H9 s t l p (.returned (.tuple #[.u c,.slice y l a])) k:=by unfold H9;rw [JZ8 h,b,hm];exact ⟨_,_,rfl,d⟩
theorem NP {k e x:Int} (h:(offB e l||noKind t k e||noPriv t d k e)):leafV t d m k e x l=pageF k:=by
 unfold leafV;cases a:offB e l
 ·cases b:noKind t k e
  ·cases c:noPriv t d k e;·rw [a,b,c] at h;cases h
   ·rfl
  ·rfl
 ·rfl
theorem NQ {va e:Int} (h:(offB e l||noKind t m e||noPriv t d m e)=false):offB e l=false /\ leafV t d va m e x l=(if (wantV e m != e)=true then (if permRest t 1 x (lastOf x 8) 3 4 0=true then ⟨leadV e va l,0,true,x,wantV e m⟩ else faultF m) else ⟨leadV e va l,0,false,0,0⟩):=by
 unfold leafV;cases a:offB e l
 ·cases b:noKind t m e
  ·cases c:noPriv t d m e;·exact ⟨rfl,rfl⟩
   ·rw [a,b,c] at h;cases h
  ·rw [a,b] at h;cases h
 ·rw [a] at h;cases h
theorem KU {k:List KI} {F:Fr} {Rc:H2->A5->Prop} (q:F0 V b C p Rc) (h:∀ e g,Rc e g->(∃ c,e=.panicked c/\T e g)\/∃ v t,e=.returned v/\(wQ F k->D g)/\Wg V D (H1 V P T) a (oS F k) (qG F k v t) g) (hx:IT V a F k=some (b,C):=by kernel_rfl):Wg V D (H1 V P T) a k F p:=λn i=>by
 unfold IT at hx;unfold oS qG wQ at h;cases l:zG F k with
 | none=>rw [l] at hx;cases hx
 | some y =>
   obtain ⟨o,z,f⟩:=y;rw [l] at hx h;dsimp only at hx h;split at hx
   ·rename_i m;refine um l i λK w=>?_;show o.upon V n K _ _;rw [oo i hx p];refine q.mono λe g s=>?_;rcases h e g s with ⟨c,rfl,r⟩ | ⟨v,t,rfl,u,x⟩;·dsimp only;rw [kq];exact ⟨i.nod,r⟩
    ·refine w _ _ u (x _ ?_);cases j:o.dst with
     | none=>exact i
     | some d=>rw [j] at m;exact i.put m v t
   ·cases hx
theorem rA {J:A5->Prop} {R:List Rw} {dr:Bool} (E:oR V D J R dr (H1 V P T)) (H:Hn V D J) (m:Nat) {k:List KI} {F:Fr} {w:A5} {f:Nat} {args:Array G3} {Rc:A5->H2->A5->Prop} (hS:J w) (i:∀ b,J b->F0 V f args b (Rc b)) (h:∀ b e a,J b->Rc b e a->(∃ c,e=.panicked c/\T e a)\/∃ v t,e=.returned v/\(wQ (aP V R H l dr m k F).1.2.2 (aP V R H l dr m k F).1.2.1->D a)/\Wg V D (H1 V P T) l (oS (aP V R H l dr m k F).1.2.2 (aP V R H l dr m k F).1.2.1) (qG (aP V R H l dr m k F).1.2.2 (aP V R H l dr m k F).1.2.1 v t) a) (hx:((aP V R H l dr m k F).1.1,IT V l (aP V R H l dr m k F).1.2.2 (aP V R H l dr m k F).1.2.1)=(false,some (f,args)):=by kernel_rfl) (he:(aP V R H l dr m k F).2.map Prod.fst=(aP V R H l dr m k F).2.map Prod.snd:=by kernel_rfl):Wg V D (H1 V P T) l k F w:=by simp only [Prod.mk.injEq] at hx;exact ak E H m hS (hret:=hx.1) (he:=he) λb d=>KU (i b d) (hx:=hx.2) λe a g=>h b e a d g
theorem R1.ez:Ez (R1 p g C f) [⟨g,C,[]⟩]:=⟨λW h r a=>by rw [List.mem_singleton.1 a];exact ⟨_,_,h.1⟩,λ_ h=>h.below (K4 _ _).drew⟩
theorem fC.dw {V:A5} (h:fC p k t y l a) (d:Dw k V):fC p V t y l a:=⟨by obtain ⟨j,rfl⟩:=d;exact h.1,d.below h.2⟩
theorem fC.low {W:A5} (h:fC k W t y l a) (d:Bw p k):fC p W t y l a:=⟨cS h.1 d.size,ae d h.2⟩
def Ia (g n d b a c:Nat) (p va k:Int):Array Value:=#[.slice (some ⟨g,0,none⟩) n d,.slice (some ⟨b,a,none⟩) 22 c,.i p,.u va,.i k]
theorem KV (u:Nat) (zs:List Int) (b a z:Nat) (l:List Int) (p va k:Int) (w:A5) (W:Wk w G J u zs b a z l p va k): F0 prog 150 #[.agg #[.slice (some ⟨G,0,none⟩) J u,.slice (some ⟨b,a,none⟩) 22 z,.i p,.u va,.i k]] w λr w'=>H9 (walkV zs J l p va k) zs J w r w':=by
 have hbd:=gg W.hr;have us:=W.hU 15;have n:=W.hk1;have K:=W.hk3;have FT:=Ql l us;have A:walkV zs J l p va k=if ((p==3)||(aG (l.getD 15 0) 60 4==0))=true then ⟨va,0,false,0,0⟩ else if (aX 39 va != va)=true then pageF k else walkL zs J l p va k 2 (topT l):=by rw [Ns _ us];rfl
 have hp:=(fj W.hg).2;have wb:∀ {X},R1 w w.heap.size (Ia G J u b a z p va k) 240 X->Wk X G J u zs b a z l p va k:=λh=>W.below h.2;have c15:∀ X,R1 w w.heap.size (Ia G J u b a z p va k) 240 X->X.cell? ⟨b,a+15,none⟩=some (.u (l.getD 15 0)):=λX h=>(wb h).at 15 aa;generalize walkV zs J l p va k=V at A ⊢;generalize l.getD 15 0=s at us FT A c15;have HB:=λ(i j:Nat) (hi:i<64) (hj:j<64) (X:A5)=>(aL s i j us.1 us.2 hi hj X).mono λe w' h=>(⟨h.1,by rw [h.2];exact (K4 _ _).drew⟩:_/\Bw X w');have HW:=λ(X:A5)=>(gI va 39 aa aa X).mono λe w' h=>(⟨h.1,lh⟩:_/\Bw X w');have HC:=λX (h:R1 w w.heap.size (Ia G J u b a z p va k) 240 X)=>pq G J u zs X W.hz aa aa (wb h).hs;have g:∀ {e X},V=pageF k->e=fO (pageC k)->Bw w X->∃ c,e=.panicked c/\H9 V zs J w e X:=λB C I=>⟨_,C,by rw [C];exact NN B n K I⟩;have Q:∀ {e X},V=faultF k->e=fO (faultC k)->Bw w X->∃ c,e=.panicked c/\H9 V zs J w e X:=λB C I=>⟨_,C,by rw [C];exact KR B n K I⟩;refine cF (S:=R1 w w.heap.size (Ia G J u b a z p va k) 240) (args:=[.agg (Ia G J u b a z p va k)]) [(Ia G J u b a z p va k,240)] func150 ?_;have h0:R1 w w.heap.size (Ia G J u b a z p va k) 240 (dC w [(Ia G J u b a z p va k,240)]):=⟨A0 _ _,bal _ _⟩;have L:=lw (S:=R1 w w.heap.size (Ia G J u b a z p va k) 240) ⟨b,a+15,none⟩ (.u s) underlying32 rfl c15;cases t1:(p==3) with
 | true =>rw [t1] at A;refine bF R1.eng {eq:=[(15,aD t1)],ov:=[(12,L)]} 60 h0 HC ?_;rintro X1 e X2 B ⟨E,c,rfl,f⟩;refine ⟨_,0,rfl,λ_=>B.below f.2,?_⟩;exact yu R1.ez (B.below f.2) {} 40 λX3 y d M=>⟨.tuple #[.u va,.slice E J c],ep,KT (by subst A;rfl) (by subst A;rfl) (by subst A;rfl) (fC.dw (fC.low f B.2) d)⟩
 | false =>
   have hp01:p=0\/p=1:=(by have C:¬ p=3:=(by simpa using t1);unfold di at hp;simp only [Bool.or_eq_true,beq_iff_eq] at hp;omega);rw [t1] at A;cases t2:(aG s 60 4==0) with
   | true =>rw [t2] at A;refine bF R1.eng {eq:=[(15,aD t1),(19,aD t2)],ov:=[(12,L)],cv:=[(18,jF R1.below λX _=>HB 60 4 aa aa X)]} 60 h0 HC ?_;rintro X1 e X2 B ⟨E,c,rfl,f⟩;refine ⟨_,0,rfl,λ_=>B.below f.2,?_⟩;exact yu R1.ez (B.below f.2) {} 40 λX3 y d M=>⟨.tuple #[.u va,.slice E J c],ep,KT (by subst A;rfl) (by subst A;rfl) (by subst A;rfl) (fC.dw (fC.low f B.2) d)⟩
   | false =>
     rw [t2,JZ9 ba] at A;cases t3:(aX 39 va != va) with
     | true =>rw [t3,JZ8 rfl] at A;refine rA R1.eng {eq:=[(15,aD t1),(19,aD t2),(31,aD t3)],ov:=[(12,L)],cv:=[(18,jF R1.below λX _=>HB 60 4 aa aa X),(28,jF R1.below λX _=>HW X)]} 60 h0 (λX _=>jp (some ⟨G,0,none⟩) J u (some ⟨b,a,none⟩) z p va k n K X) λX1 e X2 B q=>.inl (g A q.1 (ae B.2 q.2))
     | false =>
       rw [t3,JZ9 ba] at A;have Rh:((2:Nat):Int)=2:=rfl;refine rA R1.eng {eq:=[(15,aD t1),(19,aD t2),(31,aD t3),(36,ed .u64 FT)],ov:=[(12,L)],cv:=[(18,jF R1.below λX _=>HB 60 4 aa aa X),(28,jF R1.below λX _=>HW X),(35,jF R1.below λX _=>HB 0 44 aa aa X)]} 60 h0 (λX hX=>su G J u zs b a z l p va k (topT l) 2 aa X (wb hX)) λX1 e X2 B q=>?_;obtain ⟨rfl,b2⟩:=q;have C:=B.below b2;rcases xy zs J l p va k (topT l) 2 with ⟨D,P⟩ | ⟨D,P⟩ | ⟨D,N,o⟩;·exact .inl (Q (A.trans P) D C.2)
       ·exact .inl (g (A.trans P) D C.2)
       rw [D];refine .inr ⟨_,0,rfl,jw ab,?_⟩;have o:=A.trans o;have F:=KQ zs W.hw (pteAt (topT l) va 2);generalize pteV zs (pteAt (topT l) va 2)=e0 at o F ⊢;generalize pteAt (topT l) va 2=x0 at o N ⊢;refine aO (R:=[]) trivial {} 20 ?_;refine kf (λx:Nat × Int × Int=>[(1,.p w.heap.size 0,1),(6,.i (x.1:Nat),0),(7,.u x.2.1,0),(8,.u x.2.2,0)]) (λj x X=>x.1=j/\j<=2/\U x.2.2/\iP J x.2.1 8=true/\V=BH zs J l p va k x.2.2 x.2.1 x.1/\R1 w w.heap.size (Ia G J u b a z p va k) 240 X) 2 (2,x0,e0) ab ab ⟨rfl,M5 _,F,N,o,C⟩ ?_;clear o F N C D A;rintro _ ⟨O,x,e⟩ X ⟨rfl,hlv,F,N,o,hX⟩ T hT;dsimp only at hlv F N o hX ⊢;have H:=λY=>(DF e F Y).mono λr w' h=>(⟨h.1,lh⟩:r=.returned (.bool (!ptrB e))/\Bw Y w');cases tp:ptrB e with
       | true =>
         rw [tp] at H;unfold BH at o;rw [JZ8 tp] at o;refine rA R1.eng {cv:=[(45,jF R1.below λY _=>H Y)]} 60 hX (λY _=>BA G J u b a z p va k e O F n K Y) λX1 r X2 B q=>?_;obtain ⟨q,b2⟩:=q;have C:=B.below b2;unfold NJ at q;cases ts:stopB e O with
         | true =>rw [JZ8 ts] at o q;exact .inl (g o q C.2)
         | false =>
           rw [JZ9 (by rw [ts];decide)] at o q;obtain ⟨m,rfl⟩:∃ m,O=m+1:=by
            cases O with
            | zero=>cases ts
            | succ m=>exact ⟨m,rfl⟩
           have hm:IntKind.i64.wrap (((m+1:Nat):Int)-1)=((m:Nat):Int):=eg;rw [Nat.add_sub_cancel] at o;generalize Uz.wrap (frameV e*4096)=t at o q;refine .inr ⟨_,0,q,jw ab,?_⟩;refine rA R1.eng {eq:=[(52,ed .i64 hm)]} 60 C (λY hY=>su G J u zs b a z l p va k t m aa Y (wb hY)) λX3 r X4 I q=>?_;obtain ⟨rfl,b4⟩:=q;have h4:=I.below b4;rcases xy zs J l p va k t m with ⟨D,P⟩ | ⟨D,P⟩ | ⟨D,N,hv2⟩;·exact .inl (Q (o.trans P) D h4.2)
           ·exact .inl (g (o.trans P) D h4.2)
           rw [D];refine .inr ⟨_,0,rfl,jw ab,?_⟩;exact eE (R:=[]) trivial {} 60 λy hy=>hT y X4 m (m,pteAt t va m,pteV zs (pteAt t va m)) aa (hy.less ab) ⟨rfl,aa,KQ zs W.hw _,N,o.trans hv2,h4⟩
       | false =>
         rw [tp] at H;unfold BH at o;rw [JZ9 (by rw [tp];decide)] at o;refine rA R1.eng {cv:=[(45,jF R1.below λY _=>H Y)]} 60 hX (λY hY=>wq G J u zs b a z l p va k e O hlv F hp01 Y (wb hY)) λX1 r X2 B q=>?_;obtain ⟨q,b2⟩:=q;have C:=B.below b2;unfold NK at q;cases tc:(offB e O||noKind l k e||noPriv l p k e) with
         | true =>rw [JZ8 tc] at q;exact .inl (g (o.trans (NP tc)) q C.2)
         | false =>
           rw [JZ9 (by rw [tc];decide)] at q;obtain ⟨ho,hlf⟩:=NQ (va:=va) (x:=x) tc;rw [hlf] at o;refine .inr ⟨_,0,q,jw ab,?_⟩;have HP:=λY=>NL G J u b a z p va k e O hlv F W.hva ho Y;generalize leadV e va O=ad at o HP;have HM:∀ Y,R1 w w.heap.size (Ia G J u b a z p va k) 240 Y->F0 prog 162 #[.agg (Ia G J u b a z p va k),.u x,.u e] Y λr Z=>(∃ c,r=.panicked c/\H9 V zs J w r Z)\/∃ (E:Option F3) (c:Nat) (ms:List Int),r=.returned (.slice E J c)/\(V.code=0/\V.addr=ad/\bG zs V=ms)/\fC Y Z ms E J c:=λY hY=>by
            cases tm:(wantV e k != e) with
            | false =>rw [JZ9 (by rw [tm];decide)] at o;exact (Hl G J u zs b a z l p va k e x F tm Y (wb hY)).mono λr Z ⟨E,c,D,f⟩=>.inr ⟨E,c,zs,D,by subst o;exact ⟨rfl,rfl,rfl⟩,f⟩
            | true =>
              rw [JZ8 tm] at o;refine (DG G J u zs b a z l p va k e x F N tm Y (wb hY)).mono λr Z h=>?_;unfold NM at h;cases tr:permRest l 1 x (lastOf x 8) 3 4 0 with
              | true =>rw [JZ8 tr] at h o;obtain ⟨E,c,D,f⟩:=h;exact .inr ⟨E,c,_,D,by subst o;exact ⟨rfl,rfl,rfl⟩,f⟩
              | false =>rw [JZ9 (by rw [tr];decide)] at h o;exact .inl (Q o h.1 (ae hY.2 h.2))
           refine rA R1.eng {cv:=[(67,jF R1.below λY _=>HP Y)]} 60 C HM λX3 r X4 I q=>?_;rcases q with q | ⟨E,c,ms,rfl,⟨v1,v2,v3⟩,f⟩;·exact .inl q
           refine .inr ⟨_,0,rfl,λ_=>I.below f.2,?_⟩;exact yu R1.ez (I.below f.2) {} 40 λX5 y d M=>⟨.tuple #[.u ad,.slice E J c],by rw [results_tmp2 rfl,M.slot (v:=.u ad) ab,M.slot (v:=.slice E J c) ab],KT v1 v2 v3 (fC.dw (fC.low f I.2) d)⟩
theorem DH:CE 149 #[.iface 248 (.i r)] K (.i r):=by
 have d:∀ (r:Int) (K:A5),(Instr.typeAssert (.iface 248 (.i r)) 20 248 false).run prog K=.ok (.i r) K:=λr K=>ab
 go_enter func149,ntmps149;exact oj
theorem DI (p q r s:F3) (w:A5):CallsD prog 148 #[.pointer (some p),.pointer (some q),.pointer (some r),.pointer (some s)] .returning w λe f g=>e=.returned (.tuple #[])/\f=.returning/\g=w:=by
 have c:∀ w,(binOp .neq 20 .nilIface .nilIface).run prog w=.ok (.bool false) w:=λw=>ab
 refine H3 func148 rfl λb j d=>?_;apply wpS_seq;apply wpS_region;simp [wpOpsS,go_sem,recoverD,d,ntmps148,Exit.thenS];refine wpS_of_wp ?_;go_wp2_with fail;cases b;simp_all [bodyPostS,results,results148]
structure RH (w:A5) (B g n rc:Nat):Prop where
 r0:w.heap[B]?=some (.cells #[.slice (some ⟨g,0,none⟩) n rc] 22 (0,0))
 r1:∃ v,w.heap[B+1]?=some (.cells #[v] 32 (0,0))
 r2:∃ v,w.heap[B+1+1]?=some (.cells #[v] 2 (0,0))
 r3:∃ v,w.heap[B+1+1+1]?=some (.cells #[v] 22 (0,0))
theorem sQ (p:Nat) (zs:List Int) (c:Int) (d:List PanicEntry) (w:A5) (hF:RH w G J R p) (hz:zs.length=R) (y:1<=R) (hn:R<=1048576) (C:Sl .u8 w (some ⟨J,0,none⟩) zs): CallsD prog 148 #[.p G 0,.p (G+1) 0,.p (G+1+1) 0,.p (G+1+1+1) 0] (.panicking ({v:=.iface 248 (.i c),recovered:=false}::d)) w λe P l => e=.returned (.tuple #[])/\P=.panicking ({v:=.iface 248 (.i c),recovered:=true}::d)/\∃ (q:A5) (f:Option F3) (j:Nat),fC w q zs f R j/\l=((q.setCell ⟨G+1,0,none⟩ (.u 0)).setCell ⟨G+1+1,0,none⟩ (.i c)).setCell ⟨G+1+1+1,0,none⟩ (.slice f R j):=by
 have N:∀ (v:G3) (w:A5),(binOp .neq 20 (.iface 248 v) .nilIface).run prog w=.ok (.bool true) w:=λv w=>ab
 obtain ⟨B,⟨Q,H⟩,⟨n,I⟩,⟨S,g⟩⟩:=hF
 have k0:w.cell? ⟨G,0,none⟩=some (.slice (some ⟨J,0,none⟩) R p):=by simp [I4,B]
 have s:Hid (∀ l,Bw w l->F0 prog 46 #[.slice (some ⟨J,0,none⟩) R p] l λr b=>∃ (f:Option F3) (j:Nat),r=.returned (.slice f R j)/\Hid (fC w b zs f R j) /\
  (b.cell? ⟨G+1,0,none⟩=some Q/\b.frozen? ⟨G+1,0,none⟩=false)/\(b.cell? ⟨G+1+1,0,none⟩=some n/\b.frozen? ⟨G+1+1,0,none⟩=false)/\(b.cell? ⟨G+1+1+1,0,none⟩=some S/\b.frozen? ⟨G+1+1+1,0,none⟩=false)):=λl m=>(pq J R p zs l hz y hn (C.below m)).mono λr b ⟨f,j,L,M,o⟩=>by
  have D:=eX (ae m o) H
  have E:=eX (ae m o) I
  have F:=eX (ae m o) g
  exact ⟨f,j,L,⟨cS M m.size,ae m o⟩,⟨by simp [I4,D],by simp [I5,D]⟩,⟨by simp [I4,E],by simp [I5,E]⟩,⟨by simp [I4,F],by simp [I5,F]⟩⟩
 have t:Hid (∀ w,CE 149 #[.iface 248 (.i c)] w (.i c)):=DH c
 have K:Bw w w.drew:=(K4 _ _).drew
 clear B H I g hz hn C
 refine H3 func148 rfl λA T O=>?_
 apply wpS_seq
 apply wpS_region
 simp [wpOpsS,go_sem,recoverD,O,ntmps148,Exit.thenS]
 refine wpS_of_wp ?_
 go_wp2_with fail
 ·go_region_with (first | (go_at_call 149;with_reducible refine (t.out _).mono ?_;rintro e w1 ⟨rfl,z⟩;subst z) | (go_at_call 46;with_reducible refine (s.out _ K).mono ?_;rintro e q ⟨f,j,rfl,u,⟨X,U⟩,⟨Y,V⟩,⟨Z,W⟩⟩))
  all_goals exact ⟨rfl,_,rfl,_,results_none rfl _ _ _,rfl,rfl,q,f,j,u.out,rfl⟩
theorem k9 (h:p.ownsRow l f 1 (.slice y a b) a z) (w:F3) (v:G3) (j:w.block<l):(p.setCell w v).ownsRow l f 1 (.slice y a b) a z:=by
 refine ⟨h.1,?_⟩;rcases h.2 with d|⟨g,cap,n,e,d,c,i⟩;·exact .inl d
 ·exact .inr ⟨g,cap,n,e,d,(Below.heap_setCell p w v g aa).trans c,i⟩
theorem KW:K.ownsRow L 5 1 (.slice none 0 0) 0 (([]:List Int).map (K0 .u8)):=⟨rfl,.inl ⟨rfl,rfl⟩⟩
theorem KY {o1 o2 a o4:Obj} (hb:Below ((((p.alloc o1).alloc o2).alloc a).alloc o4).heap.size ((((p.alloc o1).alloc o2).alloc a).alloc o4) k): k.heap[p.heap.size]?=some o1/\k.heap[p.heap.size+1]?=some o2/\k.heap[p.heap.size+1+1]?=some a/\k.heap[p.heap.size+1+1+1]?=some o4:=by
 have b:=A0 (p.alloc o1) o2
 have c:=A0 ((p.alloc o1).alloc o2) a
 have d:=A0 (((p.alloc o1).alloc o2).alloc a) o4
 rw [H8] at b
 rw [H8,H8] at c
 rw [H8,H8,H8] at d
 exact ⟨eX hb ((K1 _ _ _ d4).trans ((K1 _ _ _ d4).trans ((K1 _ _ _ d4).trans (A0 p o1)))),
  eX hb ((K1 _ _ _ d4).trans ((K1 _ _ _ d4).trans b)),eX hb ((K1 _ _ _ d4).trans c),eX hb d⟩
theorem kP (h:p.heap[g]?=some (.cells #[j] f (0,0))):p.cell? ⟨g,0,none⟩=some j/\p.frozen? ⟨g,0,none⟩=false:=⟨by simp [I4,h],by simp [I5,h]⟩
theorem BI (kind:Int) (w:A5) (hn:G<=1048576) (t:Q.length=L) (hl:Sl .u64 w I Q) (s:∀ j,U (Q.getD j 0)) (u:mE G L Q X kind=false): CB 142 #[.slice F G J,.slice I L N,.i X,.u Y,.i kind] w (.tuple #[.u 0,.i (if g9 kind=true then faultC kind else 1),.slice none 0 0]):=by
 have E:Hid (∀ w,CE 44 #[.slice F G J] w (.bool (bA G))):=λw=>de F G J w hn;have P:Hid (∀ f,Bw w f->CB 75 #[.slice I L N,.i X] f (.bool (aQ L Q X))):=λf p=>d9 I L N Q X f t (hl.below p) s;have R:Hid (∀ w,CE 146 #[.i kind] w (.bool (g9 kind))):=λw=>by have:=kL kind w;rw [qx] at this;exact this
 have D:Hid (∀ w,CE 147 #[.i kind] w (.i (if g9 kind=true then faultC kind else 1))):=λw=>by
  have:=oc kind w;have e:Bz kind=if g9 kind=true then faultC kind else 1:=by
   by_cases h:1<=kind/\kind<=3;·rw [Fe kind h.1 h.2,JZ8 (by unfold g9;simpa using h)]
   ·rw [KP kind h,JZ9 (by unfold g9;simpa using h)]
  rw [e] at this;exact this
 have ra:(bA G&&aQ L Q X&&g9 kind)=false:=u;generalize (if g9 kind=true then faultC kind else 1)=fk at *;generalize g9 kind=Z at *;generalize bA G=rb at *;generalize aQ L Q X=lb at *;clear hl t hn u s;have g:∀ q K m M,Bw w ((((w.alloc q).alloc K).alloc m).alloc M):=λq K m M=>((((K4 _ _).alloc (M5 _) q).alloc bh K).alloc bb m).alloc bb M;cases rb with
 | false =>go_enter_defers func142,ntmps142;go_wp2_with fail;refine (E.out _).mono ?_;rintro e O ⟨rfl,d⟩;subst d;go_wp2_with fail;refine (D.out _).mono ?_;rintro e O ⟨rfl,d⟩;subst d;go_wp2_with fail;refine ⟨_,?_,rfl,g _ _ _ _⟩;simp [results,results142,go_sem]
 | true =>
   cases lb with
   | false =>go_enter_defers func142,ntmps142;go_wp2_with fail;refine (E.out _).mono ?_;rintro e O ⟨rfl,d⟩;subst d;go_wp2_with fail;refine (P.out _ (g _ _ _ _)).mono ?_;rintro e w2 ⟨rfl,c⟩;obtain ⟨y,z,A,B⟩:=KY c;have r:=fX (ae (g _ _ _ _) c);obtain ⟨va,S⟩:=kP y;obtain ⟨n,T⟩:=kP z;obtain ⟨H,V⟩:=kP A;obtain ⟨C,W⟩:=kP B;clear y z A B c;go_wp2_with fail;refine (D.out _).mono ?_;rintro e l ⟨rfl,o⟩;have b:=o.symm;subst b;go_wp2_with fail;refine ⟨_,?_,rfl,((r.out.setCell bh _).setCell bb _).setCell bb _⟩;simp [results,results142,go_sem,n,H,C]
   | true =>
     cases Z with
     | false =>go_enter_defers func142,ntmps142;go_wp2_with fail;refine (E.out _).mono ?_;rintro e O ⟨rfl,d⟩;subst d;go_wp2_with fail;refine (P.out _ (g _ _ _ _)).mono ?_;rintro e w2 ⟨rfl,c⟩;obtain ⟨y,z,A,B⟩:=KY c;have r:=fX (ae (g _ _ _ _) c);obtain ⟨va,S⟩:=kP y;obtain ⟨n,T⟩:=kP z;obtain ⟨H,V⟩:=kP A;obtain ⟨C,W⟩:=kP B;clear y z A B c;go_wp2_with fail;refine (R.out _).mono ?_;rintro e l ⟨rfl,o⟩;have b:=o.symm;subst b;go_wp2_with fail;refine (D.out _).mono ?_;rintro e l ⟨rfl,o⟩;have b:=o.symm;subst b;go_wp2_with fail;refine ⟨_,?_,rfl,((r.out.setCell bh _).setCell bb _).setCell bb _⟩;simp [results,results142,go_sem,n,H,C]
     | true=>cases ra
theorem Ff (x:Int) (lv:Nat):(leafV S r X Y Z x lv).code=0\/((leafV S r X Y Z x lv).addr=0/\(leafV S r X Y Z x lv).marked=false):=by
 unfold leafV;split;·exact .inr ⟨rfl,rfl⟩
 ·split;·exact .inr ⟨rfl,rfl⟩
  ·split;·exact .inr ⟨rfl,rfl⟩
   ·split
    ·split;·exact .inl rfl
     ·exact .inr ⟨rfl,rfl⟩
    ·exact .inl rfl
theorem KZ:∀ (a:Nat) (T:Int),(walkL S G o X Y Z a T).code=0\/((walkL S G o X Y Z a T).addr=0/\(walkL S G o X Y Z a T).marked=false):=by
 intro a;induction a with
 | zero =>
   intro T;rw [walkL];split
   ·split
    ·split;·exact .inr ⟨rfl,rfl⟩
     ·split;·exact .inr ⟨rfl,rfl⟩
      ·exact Ff _ _ _ _ _ _ _
    ·exact .inr ⟨rfl,rfl⟩
   ·exact .inr ⟨rfl,rfl⟩
 | succ a b =>
   intro T;rw [walkL];split
   ·split
    ·split;·exact .inr ⟨rfl,rfl⟩
     ·split
      ·split;·exact .inr ⟨rfl,rfl⟩
       ·exact b _
      ·exact Ff _ _ _ _ _ _ _
    ·exact .inr ⟨rfl,rfl⟩
   ·exact .inr ⟨rfl,rfl⟩
theorem NR (h:¬ (walkV S G o X Y Z).code=0):(walkV S G o X Y Z).addr=0/\bG S (walkV S G o X Y Z)=S:=by
 have a:(walkV S G o X Y Z).code=0\/((walkV S G o X Y Z).addr=0/\(walkV S G o X Y Z).marked=false):=by
  unfold walkV;split;·exact .inl rfl
  ·split;·exact .inr ⟨rfl,rfl⟩
   ·exact KZ _ _ _ _ _ _ _ _
 rcases a with a|⟨a,b⟩;·exact absurd a h
 ·exact ⟨a,by unfold bG;rw [b];rfl⟩
theorem BJ (v:G3) (h:p.cell? E=some j):(p.setCell E v).cell? E=some v:=World.cell?_setCell_same p E v h
theorem lD {p:F3} (v:G3) (h:k.cell? E=some j) (a:p.block≠E.block):(k.setCell p v).cell? E=some j:=by rw [World.cell?_setCell_other k p E v (λe=>a (by rw [e]))];exact h
theorem zn (cap:Nat) (l:List Int) (p va kind:Int) (w:A5) (W:Wk w G J R o L N cap l p va kind): F0 prog 142 #[.slice (some ⟨G,0,none⟩) J R,.slice (some ⟨L,N,none⟩) 22 cap,.i p,.u va,.i kind] w λe zs=>∃ (j:Option F3) (c:Nat),e=.returned (.tuple #[.u (walkV o J l p va kind).addr,.i (walkV o J l p va kind).code,.slice j J c]) /\ zs.ownsRow w.heap.size 5 1 (.slice j J c) J ((bG o (walkV o J l p va kind)).map (K0 .u8))/\Bw w zs:=by
 have hbd:=gg W.hr;have HW:=fX W;have HR:Hid (∀ w,CE 44 #[.slice (some ⟨G,0,none⟩) J R] w (.bool true)):=λw=>by have:=de (some ⟨G,0,none⟩) J R w aa;rw [W.hr] at this;exact this
 have HG:Hid (∀ zs,Bw w zs->CB 75 #[.slice (some ⟨L,N,none⟩) 22 cap,.i p] zs (.bool true)):=λzs X=>by have:=d9 (some ⟨L,N,none⟩) 22 cap l p zs W.hlz (W.hl.below X) W.hU;rw [W.hg] at this;exact this
 have HK:Hid (∀ w,CE 146 #[.i kind] w (.bool true)):=λw=>by have:=kL kind w;rw [qx,decide_eq_true ⟨W.hk1,W.hk3⟩] at this;exact this
 have d:Hid (∀ zs,Bw w zs->F0 prog 150 #[.agg #[.slice (some ⟨G,0,none⟩) J R,.slice (some ⟨L,N,none⟩) 22 cap,.i p,.u va,.i kind]] zs λr E=>H9 (walkV o J l p va kind) o J zs r E):=λzs X=>KV G J R o L N cap l p va kind zs (W.below X);have H:∀ C D b M,Bw w ((((w.alloc C).alloc D).alloc b).alloc M):=λC D b M=>((((K4 _ _).alloc (M5 _) C).alloc bh D).alloc bb b).alloc bb M;have hmf:∀ (fn:Fn) (t cap:Array G3) (w:A5),(Instr.makeFunc fn t cap).run prog w=.ok (.func fn t cap) w:=λ_ _ _ _=>rfl;have T:=fX (NR o J l p va kind);generalize walkV o J l p va kind=V at *;clear W;go_enter_defers func142,ntmps142;go_wp2_with fail;refine (HR.out _).mono ?_;rintro e w1 ⟨rfl,Y⟩;subst Y;go_wp2_with fail;refine (HG.out _ (H _ _ _ _)).mono ?_;rintro e w2 ⟨rfl,B⟩;obtain ⟨q0,q1,q2,q3⟩:=KY B;have Q0:=fX q0;have Q1:=fX q1;have Q2:=fX q2;have m:=fX q3;have g:=fX (ae (H _ _ _ _) B);obtain ⟨j0,f0⟩:=kP q0;clear q0 q1 q2 q3 B;go_wp2_with fail;refine (HK.out _).mono ?_;rintro e w3 ⟨rfl,Z⟩;have K:=Z.symm;subst K;have y:=fX (g.out.alloc g.out.size (.cells #[.slice (some ⟨G,0,none⟩) J R,.slice (some ⟨L,N,none⟩) 22 cap,.i p,.u va,.i kind] 240));go_wp2_with fail;refine (d.out _ y.out).mono ?_;rintro r P n;unfold H9 at n;by_cases O:V.code=0
 ·rw [JZ8 O] at n;obtain ⟨j,c,rfl,F⟩:=n;have FR:=fX F;have FS:=fX F.2.size;obtain ⟨j1,f1⟩:=kP (eX F.2 (nM Q1.out _));obtain ⟨j2,f2⟩:=kP (eX F.2 (nM Q2.out _));obtain ⟨j3,f3⟩:=kP (eX F.2 (nM m.out _));clear F j0 f0;obtain ⟨q,A⟩:∃ q,V.addr=q:=⟨_,rfl⟩;rw [A];have Q:=fX A;clear A;go_wp2_with fail;go_region;go_wp2_with fail;refine H5 (f:=148) (args:=#[.p w.heap.size 0,.p (w.heap.size+1) 0,.p (w.heap.size+1+1) 0,.p (w.heap.size+1+1+1) 0]) bh (by simp [go_sem]) ?_;refine (DI _ _ _ _ _).mono ?_;rintro e u' w9 ⟨rfl,rfl,rfl⟩;have I:w.heap.size+1+1+1<(w2.alloc (.cells #[.slice (some ⟨G,0,none⟩) J R,.slice (some ⟨L,N,none⟩) 22 cap,.i p,.u va,.i kind] 240)).heap.size:=(by have:=(L5.1 m.out).1;rw [H8];omega);have t1:=lD (p:=⟨w.heap.size+1+1+1,0,none⟩) (.slice j J c) (lD (p:=⟨w.heap.size+1+1,0,none⟩) (.i 0) (BJ (.u q) (lD (p:=⟨w.heap.size+1+1+1,0,none⟩) (.slice j J c) (BJ (.u q) j1) ca)) ca) ca;have t2:=lD (p:=⟨w.heap.size+1+1+1,0,none⟩) (.slice j J c) (BJ (.i 0) (lD (p:=⟨w.heap.size+1,0,none⟩) (.u q) (lD (p:=⟨w.heap.size+1+1+1,0,none⟩) (.slice j J c) (lD (p:=⟨w.heap.size+1,0,none⟩) (.u q) j2 ca) ca) ca)) ca;have t3:=BJ (.slice j J c) (lD (p:=⟨w.heap.size+1+1,0,none⟩) (.i 0) (lD (p:=⟨w.heap.size+1,0,none⟩) (.u q) (BJ (.slice j J c) (lD (p:=⟨w.heap.size+1,0,none⟩) (.u q) j3 ca)) ca) ca);refine ⟨.tuple #[.u q,.i 0,.slice j J c],?_,j,c,by rw [O,Q.out],?_,?_⟩;·generalize (((((P.setCell ⟨w.heap.size+1,0,none⟩ (.u q)).setCell ⟨w.heap.size+1+1+1,0,none⟩ (.slice j J c)).setCell ⟨w.heap.size+1,0,none⟩ (.u q)).setCell ⟨w.heap.size+1+1,0,none⟩ (.i 0)).setCell ⟨w.heap.size+1+1+1,0,none⟩ (.slice j J c))=W9 at *;simp [results,results142,go_sem,t1,t2,t3]
  ·have C:=k9 FR.out.1 ⟨w.heap.size+1,0,none⟩ (.u q) (by show w.heap.size+1<_;omega);have D:=k9 C ⟨w.heap.size+1+1+1,0,none⟩ (.slice j J c) I;have b:=k9 D ⟨w.heap.size+1,0,none⟩ (.u q) (by show w.heap.size+1<_;omega);have M:=k9 b ⟨w.heap.size+1+1,0,none⟩ (.i 0) (by show w.heap.size+1+1<_;omega);have o5:=k9 M ⟨w.heap.size+1+1+1,0,none⟩ (.slice j J c) I;exact aZ (cS o5 y.out.size) (K4 _ _).drew
  ·exact ((((((ae y.out FR.out.2).setCell bh _).setCell bb _).setCell bh _).setCell bb _).setCell bb _).drew
 ·rw [JZ9 O] at n;obtain ⟨rfl,s⟩:=n;have z:=fX (ae y.out s);have HF:Hid (RH P w.heap.size G J R):=⟨eX s (nM Q0.out _),⟨_,eX s (nM Q1.out _)⟩,⟨_,eX s (nM Q2.out _)⟩,⟨_,eX s (nM m.out _)⟩⟩;have S:=fX (show w.heap.size+1+1+1<P.heap.size from (L5.1 (eX s (nM m.out (.cells #[.slice (some ⟨G,0,none⟩) J R,.slice (some ⟨L,N,none⟩) 22 cap,.i p,.u va,.i kind] 240)))).1);refine H5 (f:=148) (args:=#[.p w.heap.size 0,.p (w.heap.size+1) 0,.p (w.heap.size+1+1) 0,.p (w.heap.size+1+1+1) 0]) bh (by simp [go_sem]) ?_;refine (sQ w.heap.size G J R o V.code [] P HF.out HW.out.hz aa aa (HW.out.hs.below z.out)).mono ?_;rintro e u' w9 ⟨rfl,rfl,w8,j,U,u,rfl⟩;obtain ⟨_,⟨v1,r1⟩,⟨v2,r2⟩,⟨v3,r3⟩⟩:=HF.out;obtain ⟨j1,_⟩:=kP (eX u.2 r1);obtain ⟨j2,_⟩:=kP (eX u.2 r2);obtain ⟨j3,_⟩:=kP (eX u.2 r3);obtain ⟨h1,h2⟩:=T.out O;rw [h1,h2];refine ⟨.tuple #[.u 0,.i V.code,.slice j J U],?_,j,U,rfl,?_,?_⟩;·simp [results,results142,go_sem,j1,j2,j3]
  ·have C:=k9 u.1 ⟨w.heap.size+1,0,none⟩ (.u 0) (by have:=S.out;simp;omega);have D:=k9 C ⟨w.heap.size+1+1,0,none⟩ (.i V.code) (by have:=S.out;simp;omega);exact cS (k9 D ⟨w.heap.size+1+1+1,0,none⟩ (.slice j J U) S.out) z.out.size
  ·exact (((ae z.out u.2).setCell bh _).setCell bb _).setCell bb _
def vm (n:Nat) (a:Option F3) (c:Nat):Prop:=(∀ b d,a=some ⟨b,d,none⟩->d=0)/\n<=c/\c<=maxLen
theorem BK {c:Nat} {a:Option F3} (h:w.ownsRow l f 1 (.slice a b c) b z):vm b a c:=by
 rcases h.2 with ⟨d,base⟩|⟨g,cap,i,d,_,_,j,k,_⟩
 ·injection d with e1 e2 e3
  subst e1 e3;exact ⟨λn t e=>(nomatch e),aa,Nat.zero_le _⟩
 ·injection d with e1 e2 e3
  subst e1 e3;exact ⟨λn t e=>by cases e;rfl,j,k⟩
theorem qF (w:A5) (hz:o.length=G) (hn:G<=1048576) (n:Sl .u8 w F o) (B:∀ y ∈ o,(Lit.int .u8 y).wf) (q:Q.length=L) (hl:Sl .u64 w I Q) (i:∀ j,U (Q.getD j 0)) (A:U Y) (H:lY w) (u:vm G F J): F0 prog 142 #[.slice F G J,.slice I L N,.i X,.u Y,.i Z] w λe t=>∃ (E:Option F3) (c:Nat),e=.returned (.tuple #[.u (Eo o G L Q X Y Z),.i (Ep o G L Q X Y Z),.slice E (ur o G L Q X Y Z).length c]) /\ t.ownsRow w.heap.size 5 1 (.slice E (ur o G L Q X Y Z).length c) (ur o G L Q X Y Z).length ((ur o G L Q X Y Z).map (K0 .u8))/\Bw w t:=by
 unfold Eo Ep ur;cases r:mE G L Q X Z with
 | false =>simp only [Bool.false_eq_true,if_false];exact (BI F G J I L N Q X Y Z w hn q hl i r).mono λe t h=>⟨none,0,h.1,KW t _,h.2⟩
 | true =>simp only [if_true];rw [nL,hz];have d:(bA G&&aQ L Q X&&g9 Z):=r;simp only [S1] at d;obtain ⟨⟨ra,k⟩,v⟩:=d;have f:1<=Z/\Z<=3:=(by simpa [g9] using v);obtain ⟨rfl,K⟩:=fj k;have C:=gg ra;obtain ⟨b,D,rfl,_,_⟩:=hl 0 aa;obtain ⟨g,zs,rfl,_,_⟩:=n 0 aa;obtain ⟨x,z,s⟩:=u;have a:=x g zs rfl;subst a;exact zn g G J o b D N Q X Y Z w ⟨hz,ra,n,B,z,by unfold maxLen at s;omega,q,hl,i,k,A,f.1,f.2,H⟩
theorem BL:CE 146 #[.i r] K (.bool (decide (1<=r/\r<=3))):=qx r ▸ kL r K
theorem NS:(prog.info? 255).map (·.size)=some 9:=by kernel_rfl
theorem wu:CB 164 #[] K (.agg #[.i 3,.i 4,.i 6,.i 7,.i 8,.i 3,.i 7,.i 11,.i 2]):=by go_enter func164,ntmps164;go_wp2_with fail;exact bodyPost_ret (results_cell_row results164 _ _ _ _ _ _ _ rfl (A0 _ _) underlying255 rfl NS) rfl ⟨rfl,bal _ _⟩
theorem K5 (h:U r) (w:A5):CB 231 #[.agg #[.i 3,.i 4,.i 6,.i 7,.i 8,.i 3,.i 7,.i 11,.i 2],.u r] w (.i (P2 (aG r 11 2))):=by have d:Hid (∀ w,F0 prog 73 #[.u r,.i 11,.i 2] w λe c=>e=.returned (.u (aG r 11 2))/\c=w.drew):=λw=>aL r 11 2 h.1 h.2 aa aa w;clear h;generalize aG r 11 2=y at *;go_enter func231,ntmps231;go_wp2_with fail;refine (d.out _).mono ?_;rintro e f ⟨rfl,b⟩;subst b;go_wp2_with fail;go_ret;exact ⟨rfl,(bal _ _).drew⟩
theorem lf (w:A5) (hz:o.length=G) (l:Sl .u64 w F o) (hl:∀ j,U (o.getD j 0)): CB 219 #[.slice F G J,.i X,.i Y] w (.i (I2 G o X Y)):=by
 have d:=λW (i:Bw w W)=>d9 F G J o X W hz (l.below i) hl;have g:=kL Y;rw [qx] at g;refine cF (S:=Bs w []) (args:=[.slice F G J,.i X,.i Y]) [] func219 ?_;unfold I2;cases c:aQ G o X;case true =>
  obtain ⟨rfl,u⟩:=fj c;rw [c] at d;obtain ⟨b,k,rfl,i,s⟩:=l 0 aa;have f:=hl 0;have r:=λW=>K5 (o.getD 0 0) f W;have q:il o X Y=if ((Y != 1)&&!(A6 .and .u64 (o.getD 0 0) 131072==0))=true then P2 (aG (o.getD 0 0) 11 2) else X:=by unfold il;rw [EW _ f,TA,Bool.not_not,<- gm (o.getD 0 0) 11 2 f.1 f.2 aa];rfl
  rw [q];unfold bne;generalize P2 (aG (o.getD 0 0) 11 2)=y at *;generalize o.getD 0 0=x at *;cases v:decide (1<=Y/\Y<=3)<;>cases z:(Y==1)<;>cases A:(A6 .and .u64 x 131072==0)<;>rw [v] at g <;>
   exact bg (t:=6) Bs.eng {eq:=[(21,aD z),(25,aD A)],ov:=[(19,lw ⟨b,k,none⟩ (.u x) underlying32 rfl λW h=>(h.2.cell (by exact i)).trans s)],cv:=[(10,fu d),(14,wU λW _=>g W),(28,fu λW _=>wu W),(30,fu λW _=>r W)]} 60 (Bs.start _ _) (λm h=>⟨rfl,h.2⟩)
 rw [c] at d;exact bg (t:=6) Bs.eng {cv:=[(10,fu d)]} 60 (Bs.start _ _) (λm h=>⟨rfl,h.2⟩)
