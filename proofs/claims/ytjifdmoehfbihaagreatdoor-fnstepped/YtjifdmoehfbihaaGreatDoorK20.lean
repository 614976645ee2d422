/- Own lemmas. -/
import Derived.Test.YtjifdmoehfbihaaGreatDoorAut
import Derived.Test.YtjifdmoehfbihaaGreatDoorK19
namespace Go.Proofs.YtjifdmoehfbihaaGreatDoor
open Go.RowKit
open IntKind renaming u64->Uz
set_option linter.unusedVariables false
theorem kf (n:Int) (h:dj n=true):n=3860\/n=769\/n ∈ nums:=by
 by_cases a:n ∈ nums;·exact .inr (.inr a)
 ·simp only [dj,sI n a,Bool.or_eq_true,beq_iff_eq,decide_eq_true_eq] at h;omega
theorem KQ (n p:Int) (h:dj n=true):nf n p=(bC p&&decide ((wrap64 (n.tdiv 256)).tmod 4<=p)):=by
 have e:bits .and .i64 (n/256) 3=(wrap64 (n.tdiv 256)).tmod 4:=by
  rcases kf n h with rfl|rfl|a;·decide +kernel
  ·decide +kernel
  ·rcases jL n a with rfl|rfl|rfl|rfl|rfl|rfl|rfl|rfl|rfl|rfl|rfl|rfl|rfl|rfl|rfl|rfl|rfl|rfl|rfl|rfl|rfl|rfl|rfl|rfl|rfl<;>decide +kernel
 unfold nf;rw [e]
theorem Oy (n:Int) (h:dj n=true):sH n=((wrap64 (n.tdiv 1024)).tmod 4==3):=by
 have e:bits .and .i64 (n/1024) 3=(wrap64 (n.tdiv 1024)).tmod 4:=by
  rcases kf n h with rfl|rfl|a;·decide +kernel
  ·decide +kernel
  ·rcases jL n a with rfl|rfl|rfl|rfl|rfl|rfl|rfl|rfl|rfl|rfl|rfl|rfl|rfl|rfl|rfl|rfl|rfl|rfl|rfl|rfl|rfl|rfl|rfl|rfl|rfl<;>decide +kernel
 unfold sH;rw [e]
theorem vi (m:Nat) (l:List Int) (hl:∀ j,U (l.getD j 0)) (n p:Int):rA m l n p=jf m l n p:=by
 unfold rA jf Eb;rw [xU m l hl,Bq];cases a:dj n with
 | false=>simp
 | true =>rw [KQ n p a];cases bq m l<;>cases bC p<;>simp
theorem dg (l:List Int) (hl:∀ j,U (l.getD j 0)) (n:Int) (k:Nat) (a:cU n (l.getD 2 0) 22 0=⟨k,n,18446744073709551615,18446744073709551615,true⟩) (hr:dq l n=l.getD k 0):(if (cU n (l.getD 2 0) 22 0).ok=true then bits .and .u64 (l.getD (cU n (l.getD 2 0) 22 0).at_.toNat 0) (cU n (l.getD 2 0) 22 0).rd else wV n)=dq l n:=by rw [a,hr];show bits .and .u64 (l.getD ((k:Int)).toNat 0) 18446744073709551615=_;rw [Int.toNat_natCast,oR _ (hl k)]
theorem Oz (l:List Int) (hl:∀ j,U (l.getD j 0)) (n:Int) (h:dj n=true):(if (cU n (l.getD 2 0) 22 0).ok=true then bits .and .u64 (l.getD (cU n (l.getD 2 0) 22 0).at_.toNat 0) (cU n (l.getD 2 0) 22 0).rd else wV n)=dq l n:=by
 rcases kf n h with rfl|rfl|a;·rw [ly 3860 _ bb 22 0 ab];rfl
 ·rw [ly 769 _ bb 22 0 ab];rfl
 ·rcases jL n a with rfl|rfl|rfl|rfl|rfl|rfl|rfl|rfl|rfl|rfl|rfl|rfl|rfl|rfl|rfl|rfl|rfl|rfl|rfl|rfl|rfl|rfl|rfl|rfl|rfl;·exact dg l hl 768 0 rfl rfl
  ·exact dg l hl 770 1 rfl rfl
  ·exact dg l hl 771 2 rfl rfl
  ·exact dg l hl 772 3 rfl rfl
  ·exact dg l hl 773 4 rfl rfl
  ·exact dg l hl 832 5 rfl rfl
  ·exact dg l hl 833 6 rfl rfl
  ·exact dg l hl 834 7 rfl rfl
  ·exact dg l hl 835 8 rfl rfl
  ·exact dg l hl 836 9 rfl rfl
  ·exact dg l hl 261 10 rfl rfl
  ·exact dg l hl 320 11 rfl rfl
  ·exact dg l hl 321 12 rfl rfl
  ·exact dg l hl 322 13 rfl rfl
  ·exact dg l hl 323 14 rfl rfl
  ·exact dg l hl 384 15 rfl rfl
  ·exact dg l hl 928 16 rfl rfl
  ·exact dg l hl 944 17 rfl rfl
  ·exact dg l hl 945 18 rfl rfl
  ·exact dg l hl 946 19 rfl rfl
  ·exact dg l hl 947 20 rfl rfl
  ·exact dg l hl 2818 21 rfl rfl
  ·rfl
  ·rfl
  ·rfl
theorem KR (m:Nat) (l:List Int) (hl:∀ j,U (l.getD j 0)) (n p:Int):vg m l n p=(if jf m l n p=true then dq l n else 0):=by
 have a:=vi m l hl n p;unfold rA at a;rw [Bq] at a;cases b:dj n with
 | false =>have d:jf m l n p=false:=(by unfold jf;rw [b];cases bq m l<;>rfl);rw [d,if_neg bb];unfold vg;have c:=Bq n (l.getD 2 0);rw [b,Bool.or_eq_false_iff] at c;rw [c.1];have e:wV n=0:=(by have:=c.2;simp only [vf,Bool.or_eq_false_iff,beq_eq_false_iff_ne] at this;unfold wV;rw [if_neg this.1]);rw [e];cases Eb m l n p<;>rfl
 | true =>rw [b,Bool.and_true] at a;unfold vg;rw [a,Oz l hl n b]
theorem zr (y f:Int) (h:U f):bits .or .u64 (bits .andNot .u64 y 18446744073709551615) (bits .and .u64 f 18446744073709551615)=f :=
 br _ _ (af _ _ _) h λi a=>by rw [cn,aw _ _ _ a,au,zp i a];cases bt y i<;>cases bt f i<;>rfl
theorem F5 (y f:Int) (h:U y):bits .or .u64 (bits .andNot .u64 y 0) (bits .and .u64 f 0)=y :=
 br _ _ (af _ _ _) h λi b=>by
  have a:bt 0 i=false:=by unfold bt;simp
  rw [cn,aw _ _ _ b,au,a];cases bt y i<;>cases bt f i<;>rfl
theorem xV:bits .andNot .u64 18446744073709551615 0=18446744073709551615:=by decide +kernel
theorem sJ:bits .andNot .u64 18446744073709551615 18446744073709551615=0:=by decide +kernel
theorem Ti (k:CK) (x:Int) (h:U x):U (gV k x):=by
 cases k with
 | plain b=>exact af .and x b
 | mst =>
   show U (if (bits .and .u64 x 6144==4096)=true then bits .andNot .u64 (bits .and .u64 x 924074) 6144 else bits .and .u64 x 924074);split;·exact af _ _ _
   ·exact af _ _ _
 | mie=>exact af .and x 2730
 | mip=>exact af .and x 2730
 | satp =>
   show U (if hH x=true then x else 0);split;·exact h
   ·constructor<;>decide
 | cfg=>rw [show gV .cfg x=px x 4 from rfl,px];exact af _ _ _
 | addr e=>exact af .and x 18014398509481983
theorem IE (l:List Int) (k:Nat) (hk:(fS k).2.holds=false) (x:Int) (h:U x):kC l k 18446744073709551615 x=gV (fS k).2 x:=by unfold kC lw;rw [hk,if_neg bb];exact zr _ _ (Ti _ x h)
theorem mD (l:List Int) (k:Nat) (hk:k<l.length):l.set k (l.getD k 0)=l:=by
 have e:l.getD k 0=l[k]:=by simp [List.getD,List.getElem?_eq_getElem hk]
 rw [e,List.set_getElem_self]
theorem Rf:∀ i,i<64->∀ y x:Bool,(((y&&bt 2730 i)&&!(bt 18446744073709551615 i&&!bt 2184 i))||((x&&bt 2730 i)&&(bt 18446744073709551615 i&&!bt 2184 i)))=(((y&&bt 2730 i)&&!bt 546 i)||(x&&bt 546 i)):=by decide +kernel
theorem KT (y x:Int) (hy:bits .and .u64 y 2730=y):bits .or .u64 (bits .andNot .u64 y (bits .andNot .u64 18446744073709551615 2184)) (bits .and .u64 (bits .and .u64 x 2730) (bits .andNot .u64 18446744073709551615 2184))=iB y 546 x:=by
 unfold iB;refine br _ _ (af _ _ _) (af _ _ _) λi a=>?_;have b:bt y i=(bt y i&&bt 2730 i):=by conv=>lhs;rw [<- hy,au]
 rw [cn,aw _ _ _ a,au,au,aw _ _ _ a,cn,aw _ _ _ a,au,b];exact Rf i a _ _
theorem KU:∀ i,i<64->∀ x:Bool,((x&&bt 924074 i)&&bt 786722 i)=(x&&bt 786722 i)/\(((x&&bt 924074 i)&&!bt 6144 i)&&bt 786722 i)=(x&&bt 786722 i):=by decide +kernel
theorem KV (y x:Int):bits .or .u64 (bits .andNot .u64 y 786722) (bits .and .u64 (gV .mst x) 786722)=iB y 786722 x:=by
 unfold iB;refine br _ _ (af _ _ _) (af _ _ _) λi a=>?_;have b:bt (bits .and .u64 (gV .mst x) 786722) i=bt (bits .and .u64 x 786722) i:=by
  show bt (bits .and .u64 (if (bits .and .u64 x 6144==4096)=true then bits .andNot .u64 (bits .and .u64 x 924074) 6144 else bits .and .u64 x 924074) 786722) i=_;split;·rw [au,aw _ _ _ a,au,au];exact (KU i a _).2
  ·rw [au,au,au];exact (KU i a _).1
 rw [cn,b,cn]
theorem KX (y m x:Int) (hy:bits .and .u64 y 2730=y):bits .or .u64 (bits .andNot .u64 y m) (bits .and .u64 (bits .and .u64 x 2730) m)=bo 3 (iB y m x):=by
 show _=bits .and .u64 (bits .or .u64 (bits .andNot .u64 y m) (bits .and .u64 x m)) 2730;refine br _ _ (af _ _ _) (af _ _ _) λi a=>?_;have b:bt y i=(bt y i&&bt 2730 i):=by conv=>lhs;rw [<- hy,au]
 rw [cn,aw _ _ _ a,au,au,au,cn,aw _ _ _ a,au,b];cases bt y i<;>cases bt m i<;>cases bt x i<;>cases bt 2730 i<;>rfl
theorem Rh:∀ i,i<64->∀ y m x:Bool,((y&&!((m&&bt 2 i)&&!bt 2184 i))||((x&&bt 2730 i)&&((m&&bt 2 i)&&!bt 2184 i)))=((y&&!(m&&bt 2 i))||(x&&(m&&bt 2 i))):=by decide +kernel
theorem KY (y m x:Int):bits .or .u64 (bits .andNot .u64 y (bits .andNot .u64 (bits .and .u64 m 2) 2184)) (bits .and .u64 (bits .and .u64 x 2730) (bits .andNot .u64 (bits .and .u64 m 2) 2184))=iB y (bits .and .u64 m 2) x:=by unfold iB;refine br _ _ (af _ _ _) (af _ _ _) λi a=>?_;rw [cn,aw _ _ _ a,au,au,aw _ _ _ a,au,cn,aw _ _ _ a,au,au,au];exact Rh i a _ _ _
theorem Ec (l:List Int) (h:U (l.getD 16 0)) (k:Nat):du l k=cQ (l.getD 16 0) (8*k) 8:=ic _ (8*k) 8 h.1 h.2 ab
theorem Tj:∀ z:Nat,z<256->(bits .and .u64 (z:Int) 128 != 0)=((z:Int)/128==1):=by decide +kernel
theorem tK (l:List Int) (h:U (l.getD 16 0)) (k:Nat):fJ (l.getD 16 0) k=(du l k/128==1):=by
 rw [Ec l h]
 unfold fJ
 have a:=kq (l.getD 16 0) (8*k) 8
 obtain ⟨z,b⟩:=Int.eq_ofNat_of_zero_le a.1
 rw [b] at a ⊢
 exact Tj z (by have:((2:Int)^8)=256:=by decide
                omega)
theorem Ed (l:List Int) (y:Int) (h:U y):∀ k,U (dY l y k):=by
 intro k;induction k with
 | zero=>exact h
 | succ k a =>
   rw [dY];split;·exact af _ _ _
   ·exact a
theorem xW (l:List Int) (h:U (l.getD 16 0)) (y:Int) (i:Nat) (c:i<64):∀ k,bt (dY l y k) i=if bt (gE (l.getD 16 0) k) i=true then bt (l.getD 16 0) i else bt y i:=by
 intro k;induction k with
 | zero =>
   have b:bt 0 i=false:=(by unfold bt;simp);show bt y i=if bt 0 i=true then _ else _
   rw [b,if_neg bb]
 | succ k a =>
   rw [dY,gE,tK l h];cases (du l k/128==1) with
   | false=>exact a
   | true =>rw [if_pos rfl,if_pos rfl,cn,aw _ _ _ c,au,cn,a];cases bt (Uz.wrap (255*2^(8*k))) i<;>cases bt (gE (l.getD 16 0) k) i<;>cases bt (l.getD 16 0) i<;>cases bt y i<;>rfl
theorem KZ (l:List Int) (h:U (l.getD 16 0)) (f:Int) (b:U f):bits .or .u64 (bits .andNot .u64 (l.getD 16 0) (bits .andNot .u64 18446744073709551615 (gE (l.getD 16 0) 4))) (bits .and .u64 f (bits .andNot .u64 18446744073709551615 (gE (l.getD 16 0) 4)))=dY l f 4:=by refine br _ _ (af _ _ _) (Ed l f b 4) λi a=>?_;rw [xW l h f i a,cn,aw _ _ _ a,au,aw _ _ _ a,zp i a];cases bt (gE (l.getD 16 0) 4) i<;>cases bt (l.getD 16 0) i<;>cases bt f i<;>rfl
theorem F6:∀ i,i<64->8<=i->bt 159 i=false:=by decide +kernel
theorem F7 (x:Int) (k i:Nat) (b:8<=i):bt (je x k) i=false:=by
 by_cases a:i<64
 ·unfold je;split;·rw [aw _ _ _ a,au,F6 i a b,Bool.and_false,Bool.false_and]
  ·rw [au,F6 i a b,Bool.and_false]
 ·exact tI _ _ ab
theorem K3 (x:Int) (k:Nat):U (je x k):=by unfold je;split<;>exact af _ _ _
theorem K4 (x:Int) (i:Nat) (b:32<=i):∀ k,k<=4->bt (cT x k) i=false:=by
 intro k;induction k with
 | zero=>intro _;unfold bt;simp [cT]
 | succ k a =>intro c;rw [cT,cn,a ab,mU _ (K3 x k),F7 x k _ ab,Bool.and_false,Bool.or_false]
theorem K5 (c:Int) (b:U c) (h:bo 16 c=c):fJ c 4=false:=by
 have a:cT c 4=c:=h;have e:cQ c (8*4) 8=0:=by
  refine br _ _ (pV _ _ _ ab) (by constructor<;>decide) λi d=>?_;rw [ks c b _ _ _ ab];have:bt c (i+8*4)=false:=by rw [<- a];exact K4 c _ ab 4 ab
  rw [this,Bool.and_false];unfold bt;simp
 unfold fJ;rw [e];decide +kernel
theorem xX (l:List Int) (h:U (l.getD 16 0)) (k:Nat) (hk:k<4):ix (l.getD 16 0) k=bits .and .u64 (du l k/8) 3:=by rw [Ec l h];have a:=cy (cQ (l.getD 16 0) (8*k) 8/8) 2 (by have:=(kq (l.getD 16 0) (8*k) 8).1;omega) (by have b:=pV (l.getD 16 0) (8*k) 8 ab;have c:=b.1;have d:=b.2;omega) ab;rw [show ((2:Int)^2-1)=3 from bb,show ((2:Int)^2)=4 from bb] at a;rw [a];unfold ix cQ;rw [Int.pow_add,show ((2:Int)^3)=8 from bb,show ((2:Int)^2)=4 from bb,show ((2:Int)^8)=256 from bb,<- Int.ediv_ediv_of_nonneg (Int.le_of_lt (Int.pow_pos ab))];generalize l.getD 16 0/2^(8*k)=z;omega
theorem Ee (l:List Int) (h:U (l.getD 16 0)) (b:bo 16 (l.getD 16 0)=l.getD 16 0) (e:Nat) (he:e<4):(fJ (l.getD 16 0) e||(fJ (l.getD 16 0) (e+1)&&(ix (l.getD 16 0) (e+1)==1)))=fp l e:=by
 unfold fp;by_cases a:e<3;·rw [tK l h,tK l h,xX l h _ ab,show decide (e<3)=true from pp,Bool.true_and]
 ·have:e=3:=by omega
  subst this;rw [K5 _ h b,tK l h];simp
theorem oS (l:List Int) (h:U (l.getD 16 0)) (a:bo 16 (l.getD 16 0)=l.getD 16 0) (k e:Nat) (he:e<4) (hk:(fS k).2=.addr e) (hy:U (l.getD k 0)) (x:Int) (hx:U x):kC l k 18446744073709551615 x=if fp l e=true then l.getD k 0 else bits .and .u64 x 18014398509481983:=by
 unfold kC lw;rw [hk];show bits .or .u64 (bits .andNot .u64 (l.getD k 0) (bits .andNot .u64 18446744073709551615 (if (fJ (l.getD 16 0) e||(fJ (l.getD 16 0) (e+1)&&(ix (l.getD 16 0) (e+1)==1)))=true then 18446744073709551615 else 0)))
  (bits .and .u64 (bits .and .u64 x 18014398509481983) (bits .andNot .u64 18446744073709551615 (if (fJ (l.getD 16 0) e||(fJ (l.getD 16 0) (e+1)&&(ix (l.getD 16 0) (e+1)==1)))=true then 18446744073709551615 else 0)))=_
 rw [Ee l h a e he];cases fp l e with
 | true=>rw [if_pos rfl,if_pos rfl,sJ];exact F5 _ _ hy
 | false=>rw [if_neg bb,if_neg bb,xV];exact zr _ _ (af _ _ _)
theorem IF (l:List Int) (hy:U (l.getD 15 0)) (x:Int) (hx:U x):kC l 15 18446744073709551615 x=if hH x=true then x else l.getD 15 0:=by
 unfold kC lw;show bits .or .u64 (bits .andNot .u64 (l.getD 15 0) (bits .andNot .u64 18446744073709551615 (if hH x=true then 0 else 18446744073709551615)))
  (bits .and .u64 (if hH x=true then x else 0) (bits .andNot .u64 18446744073709551615 (if hH x=true then 0 else 18446744073709551615)))=_
 cases hH x with
 | true=>rw [if_pos rfl,if_pos rfl,if_pos rfl,xV];exact zr _ _ hx
 | false=>rw [if_neg bb,if_neg bb,if_neg bb,sJ];exact F5 _ _ hy
theorem IG (l:List Int):∀ n k,fl l n k=true->∀ j,k<=j->j<k+n->fy j (l.getD j 0)=true:=by
 intro n;induction n with
 | zero=>intro k _ j a b;omega
 | succ n d =>
   intro k h j a b;rw [fl,Bool.and_eq_true] at h;by_cases c:j=k;·subst c;exact h.1
   ·exact d (k+1) h.2 j ab ab
theorem dR {m:Nat} {l:List Int} (h:bq m l=true) (j:Nat) (a:j<22):fy j (l.getD j 0)=true:=by simp only [bq,Bool.and_eq_true,decide_eq_true_eq] at h;exact IG l 22 0 h.2 j ab ab
theorem i9 (l:List Int) (n x:Int) (k:Nat) (a:cU n (l.getD 2 0) 22 0=⟨k,n,18446744073709551615,18446744073709551615,true⟩) (b:bU l n x=fN l k x) (h:l.set k (kC l k 18446744073709551615 x)=fN l k x):ng l n x=bU l n x:=by unfold ng;rw [a,b];show l.set ((k:Int)).toNat (kC l ((k:Int)).toNat 18446744073709551615 x)=_;rw [Int.toNat_natCast];exact h
theorem dF (l:List Int) (n x:Int) (hx:U x) (k:Nat) (hk:k<22) (b:k≠9) (a:k≠15) (d:(fS k).2.holds=false) (c:cU n (l.getD 2 0) 22 0=⟨k,n,18446744073709551615,18446744073709551615,true⟩) (f:bU l n x=fN l k x) (e:fN l k x=l.set k (bo k x)) :
 ng l n x=bU l n x :=
 i9 l n x k c f (by rw [IE l k d x hx,xS x hx k hk b a,e])
theorem K6 (l:List Int) (hz:l.length=22) (hl:∀ j,U (l.getD j 0)) (b:bq 22 l=true) (n x:Int) (hx:U x) (h:dj n=true):ng l n x=bU l n x:=by
 have e:bits .and .u64 (l.getD 9 0) 2730=l.getD 9 0:=by have:=dR b 9 ab;exact eq_of_beq this
 have d:bits .and .u64 (l.getD 3 0) 2730=l.getD 3 0:=by have:=dR b 3 ab;exact eq_of_beq this
 have a:bo 16 (l.getD 16 0)=l.getD 16 0:=by have:=dR b 16 ab;exact eq_of_beq this
 rcases kf n h with rfl|rfl|c;·unfold ng;rw [ly 3860 _ bb 22 0 ab];rfl
 ·unfold ng;rw [ly 769 _ bb 22 0 ab];rfl
 ·rcases jL n c with rfl|rfl|rfl|rfl|rfl|rfl|rfl|rfl|rfl|rfl|rfl|rfl|rfl|rfl|rfl|rfl|rfl|rfl|rfl|rfl|rfl|rfl|rfl|rfl|rfl;·exact dF l 768 x hx 0 ab ab ab rfl rfl rfl rfl
  ·exact dF l 770 x hx 1 ab ab ab rfl rfl rfl rfl
  ·exact dF l 771 x hx 2 ab ab ab rfl rfl rfl rfl
  ·exact dF l 772 x hx 3 ab ab ab rfl rfl rfl rfl
  ·exact dF l 773 x hx 4 ab ab ab rfl rfl rfl rfl
  ·exact dF l 832 x hx 5 ab ab ab rfl rfl rfl rfl
  ·exact dF l 833 x hx 6 ab ab ab rfl rfl rfl rfl
  ·exact dF l 834 x hx 7 ab ab ab rfl rfl rfl rfl
  ·exact dF l 835 x hx 8 ab ab ab rfl rfl rfl rfl
  ·refine i9 l 836 x 9 rfl rfl ?_;show l.set 9 (bits .or .u64 (bits .andNot .u64 (l.getD 9 0) (bits .andNot .u64 18446744073709551615 2184)) (bits .and .u64 (bits .and .u64 x 2730) (bits .andNot .u64 18446744073709551615 2184)))=l.set 9 (iB (l.getD 9 0) 546 x);rw [KT _ x e]
  ·exact dF l 261 x hx 10 ab ab ab rfl rfl rfl rfl
  ·exact dF l 320 x hx 11 ab ab ab rfl rfl rfl rfl
  ·exact dF l 321 x hx 12 ab ab ab rfl rfl rfl rfl
  ·exact dF l 322 x hx 13 ab ab ab rfl rfl rfl rfl
  ·exact dF l 323 x hx 14 ab ab ab rfl rfl rfl rfl
  ·refine i9 l 384 x 15 rfl rfl ?_;rw [IF l (hl 15) x hx];show _=(if ((x/1152921504606846976==0)||(x/1152921504606846976==8))=true then l.set 15 x else l);rw [<- F4 x hx];cases hH x with
   | true=>rfl
   | false=>rw [if_neg bb,if_neg bb,mD l 15 ab]
  ·refine i9 l 928 x 16 rfl rfl ?_;show l.set 16 (bits .or .u64 (bits .andNot .u64 (l.getD 16 0) (bits .andNot .u64 18446744073709551615 (gE (l.getD 16 0) 4))) (bits .and .u64 (px x 4) (bits .andNot .u64 18446744073709551615 (gE (l.getD 16 0) 4))))=l.set 16 (dY l (cT x 4) 4);rw [KO x hx,KZ l (hl 16) (cT x 4) (by rw [cT];exact af _ _ _)]
  ·refine i9 l 944 x 17 rfl rfl ?_;rw [oS l (hl 16) a 17 0 ab rfl (hl 17) x hx];show _=(if fp l 0=true then l else l.set 17 (bits .and .u64 x 18014398509481983));cases fp l 0 with
   | true=>rw [if_pos rfl,if_pos rfl,mD l 17 ab]
   | false=>rfl
  ·refine i9 l 945 x 18 rfl rfl ?_;rw [oS l (hl 16) a 18 1 ab rfl (hl 18) x hx];show _=(if fp l 1=true then l else l.set 18 (bits .and .u64 x 18014398509481983));cases fp l 1 with
   | true=>rw [if_pos rfl,if_pos rfl,mD l 18 ab]
   | false=>rfl
  ·refine i9 l 946 x 19 rfl rfl ?_;rw [oS l (hl 16) a 19 2 ab rfl (hl 19) x hx];show _=(if fp l 2=true then l else l.set 19 (bits .and .u64 x 18014398509481983));cases fp l 2 with
   | true=>rw [if_pos rfl,if_pos rfl,mD l 19 ab]
   | false=>rfl
  ·refine i9 l 947 x 20 rfl rfl ?_;rw [oS l (hl 16) a 20 3 ab rfl (hl 20) x hx];show _=(if fp l 3=true then l else l.set 20 (bits .and .u64 x 18014398509481983));cases fp l 3 with
   | true=>rw [if_pos rfl,if_pos rfl,mD l 20 ab]
   | false=>rfl
  ·exact dF l 2818 x hx 21 ab ab ab rfl rfl rfl rfl
  ·show l.set 0 (bits .or .u64 (bits .andNot .u64 (l.getD 0 0) 786722) (bits .and .u64 (gV .mst x) 786722))=l.set 0 (iB (l.getD 0 0) 786722 x);rw [KV]
  ·show l.set 3 (bits .or .u64 (bits .andNot .u64 (l.getD 3 0) (l.getD 2 0)) (bits .and .u64 (bits .and .u64 x 2730) (l.getD 2 0)))=l.set 3 (bo 3 (iB (l.getD 3 0) (l.getD 2 0) x));rw [KX _ _ _ d]
  ·show l.set 9 (bits .or .u64 (bits .andNot .u64 (l.getD 9 0) (bits .andNot .u64 (bits .and .u64 (l.getD 2 0) 2) 2184)) (bits .and .u64 (bits .and .u64 x 2730) (bits .andNot .u64 (bits .and .u64 (l.getD 2 0) 2) 2184)))=l.set 9 (iB (l.getD 9 0) (bits .and .u64 (l.getD 2 0) 2) x);rw [KY]
theorem xY (m:Nat) (l:List Int) (hl:∀ j,U (l.getD j 0)) (n p:Int):oQ m l n p=CN m l n p:=by
 have b:=vi m l hl n p;unfold rA at b;unfold oQ CN;cases a:dj n with
 | false =>have c:jf m l n p=false:=(by unfold jf;rw [a];cases bq m l<;>rfl);rw [c,Bq,a];simp
 | true =>rw [<- b,Oy n a,Bq,a];cases Eb m l n p<;>cases ((wrap64 (n.tdiv 1024)).tmod 4==3)<;>rfl
theorem IH (m:Nat) (l:List Int) (hz:l.length=m) (hl:∀ j,U (l.getD j 0)) (n p x:Int) (hx:U x):nh m l n p x=CO m l n p x:=by
 unfold nh CO;rw [xY m l hl n p];cases c:CN m l n p with
 | false=>rfl
 | true =>rw [if_pos rfl,if_pos rfl];have a:jf m l n p=true:=(by unfold CN at c;rw [Bool.and_eq_true] at c;exact c.1);obtain ⟨rfl,d⟩:=CP a;have b:bq 22 l=true:=(by simp only [jf,Bool.and_eq_true] at a;exact a.1.1.1);exact K6 l hz hl b n x hx d
theorem Rj (b:Int):bits .and .u64 b 1=if bt b 0=true then 1 else 0:=by
 have c:∀ i,i<64->∀ (p o:Bool),((if i=0 then p else o)&&bt 1 i)=bt (if p=true then 1 else 0) i:=bv
 refine br _ _ (af _ _ _) (by split<;>(constructor<;>decide)) λi d=>?_;rw [au,<- c i d (bt b 0) (bt b i)];by_cases a:i=0;·subst a;rfl
 ·rw [if_neg a]
theorem K7 (x:Int):(bits .and .u64 x 6144==4096)=(!bt x 11&&bt x 12):=by
 have e2:bits .and .u64 x 6144=(if bt x 11=true then 2048 else 0)+(if bt x 12=true then 4096 else 0):=by
  refine br _ _ (af _ _ _) i3 λi c=>?_;rw [au,<- Qh i c (bt x 11) (bt x 12) (bt x i)];by_cases a:i=11;·subst a;rfl
  ·by_cases b:i=12;·subst b;rfl
   ·rw [if_neg a,if_neg b]
 rw [e2];cases bt x 11<;>cases bt x 12<;>rfl
theorem F8 (x:Int) (h:U x):mst x=if (!bt x 11&&bt x 12)=true then bits .andNot .u64 (bits .and .u64 x 924074) 6144 else bits .and .u64 x 924074:=by rw [<- KN x h,<- K7];rfl
theorem SI:bt 924074 11=true/\bt 924074 12=true/\bt 6144 11=true/\bt 6144 12=true/\bt 786722 11=false/\bt 786722 12=false:=by decide +kernel
theorem rC (x:Int) (h:U x):mst x=x↔bits .and .u64 x 924074=x/\(!bt x 11&&bt x 12)=false:=by
 rw [F8 x h];constructor
 ·intro e;cases a:(!bt x 11&&bt x 12) with
  | true =>
    rw [a,if_pos rfl] at e;have:bt x 12=false:=by rw [<- e,aw _ _ _ ab,SI.2.2.2.1];simp
    rw [this,Bool.and_false] at a;cases a
  | false=>rw [a,if_neg bb] at e;exact ⟨e,rfl⟩
 ·rintro ⟨e,a⟩;rw [a,if_neg bb];exact e
theorem Qi (x:Int):U (mst x):=by unfold mst;split<;>exact af _ _ _
theorem K8 (x:Int) (h:U x):mst (mst x)=mst x:=by
 rw [rC _ (Qi x)];rw [F8 x h];cases b:(!bt x 11&&bt x 12) with
 | true =>
   rw [if_pos rfl];refine ⟨br _ _ (af _ _ _) (af _ _ _) λi a=>?_,?_⟩;·rw [au,aw _ _ _ a,au];cases bt x i<;>cases bt 924074 i<;>cases bt 6144 i<;>rfl
   ·rw [aw _ _ 12 ab,SI.2.2.2.1];simp
 | false =>
   rw [if_neg bb];refine ⟨br _ _ (af _ _ _) (af _ _ _) λi a=>?_,?_⟩;·rw [au,au];cases bt x i<;>cases bt 924074 i<;>rfl
   ·rw [au,au,SI.1,SI.2.1,Bool.and_true,Bool.and_true];exact b
theorem Rk:∀ i,i<64->∀ a:Bool,((a&&bt 786722 i)&&bt 924074 i)=(a&&bt 786722 i):=by decide +kernel
theorem OA (y x:Int) (hy:U y) (h:mst y=y):mst (iB y 786722 x)=iB y 786722 x:=by
 obtain ⟨b,c⟩:=(rC y hy).mp h;unfold iB;rw [rC _ (af _ _ _)];refine ⟨br _ _ (af _ _ _) (af _ _ _) λi a=>?_,?_⟩
 ·have d:bt y i=(bt y i&&bt 924074 i):=by conv=>lhs;rw [<- b,au]
  have e:=Rk i a (bt x i);rw [au,cn,aw _ _ _ a,au,d];revert e;cases bt y i<;>cases bt 924074 i<;>cases bt 786722 i<;>cases bt x i<;>decide
 ·rw [cn,cn,aw _ _ 11 ab,aw _ _ 12 ab,au,au,SI.2.2.2.2.1,SI.2.2.2.2.2];simpa using c
theorem jn (x m:Int):bits .and .u64 (bits .and .u64 x m) m=bits .and .u64 x m :=
 br _ _ (af _ _ _) (af _ _ _) λi a=>by rw [au,au];cases bt x i<;>cases bt m i<;>rfl
theorem lV (x m:Int):bits .andNot .u64 (bits .andNot .u64 x m) m=bits .andNot .u64 x m :=
 br _ _ (af _ _ _) (af _ _ _) λi a=>by rw [aw _ _ _ a,aw _ _ _ a];cases bt x i<;>cases bt m i<;>rfl
def wX (x:Int) (i:Nat):Bool:=bt x i&&bt 159 (i%8)&&!(decide (i%8=1)&&!bt x (i-1))
theorem Ul:∀ j,j<64->bt 2 j=decide (j=1):=by decide +kernel
theorem F9:bt 159 0=true:=by decide +kernel
theorem II (x:Int) (h:U x) (k j:Nat) (b:j<64):bt (je x k) j=(bt x (j+8*k)&&bt 159 j&&!(decide (j=1)&&!bt x (8*k))):=by
 unfold je;have a:∀ i,bt (x/2^(8*k)) i=bt x (i+8*k):=λi=>jl x h (8*k) i;generalize x/2^(8*k)=z at *;have c:bt x (8*k)=bt z 0:=by rw [a 0,Nat.zero_add]
 rw [c,<- a j,Rj,au,F9,Bool.and_true];cases d:bt z 0 with
 | true =>rw [if_pos rfl,if_neg bb,au];simp
 | false =>rw [if_neg (show ¬ (false=true) from bb),if_pos (show ((0:Int)==0)=true from rfl),aw _ _ _ b,au,Ul j b];simp
theorem qz (x:Int) (h:U x) (i:Nat) (d:i<64):∀ k,k<=4->bt (cT x k) i=(decide (i<8*k)&&wX x i):=by
 intro k;induction k with
 | zero=>intro _;rw [cT];have:bt 0 i=false:=by unfold bt;simp
         rw [this];simp
 | succ k g =>
   intro j;rw [cT,cn,g ab,mU _ (K3 x k)];by_cases b:i<8*k;·have c:¬ 8*k<=i:=ab;have a:i<8*(k+1):=ab;simp [b,c,a]
   ·have c:8*k<=i:=ab;by_cases a:i<8*(k+1)
    ·have f:i%8=i-8*k:=ab;rw [II x h k _ ab];unfold wX;rw [f,show i-8*k+8*k=i from ab];by_cases e:i-8*k=1;·rw [show i-1=8*k from ab];simp [b,c,a,d]
     ·simp [b,c,a,d,e]
    ·rw [F7 x k _ ab];simp [b,a]
theorem zt (c:Int) (h:U c):bo 16 c=c↔∀ i,i<64->bt c i=(decide (i<32)&&wX c i):=by
 show cT c 4=c↔_;constructor;·intro e i a;have:=qz c h i a 4 ab;rw [e] at this;exact this
 ·intro b;refine br _ _ (by rw [cT];exact af _ _ _) h λi a=>?_;rw [qz c h i a 4 ab,b i a]
theorem IJ (x:Int) (h:U x) (i:Nat) (b:i<32):wX (cT x 4) i=wX x i:=by
 have s:∀ j,j<32->bt (cT x 4) j=wX x j:=λj d=>by rw [qz x h j ab 4 ab];simp [show j<8*4 from ab]
 show (bt (cT x 4) i&&bt 159 (i%8)&&!(decide (i%8=1)&&!bt (cT x 4) (i-1)))=wX x i;rw [s i b,s (i-1) ab];by_cases a:i%8=1;·have c:(i-1)%8=0:=ab;unfold wX;rw [c,a,F9];cases bt x i<;>cases bt 159 1<;>cases bt x (i-1)<;>simp
 ·unfold wX;simp only [a,decide_false,Bool.false_and,Bool.not_false,Bool.and_true];cases bt x i<;>cases bt 159 (i%8)<;>rfl
theorem xZ (x:Int) (h:U x):bo 16 (cT x 4)=cT x 4:=by
 rw [zt _ (by rw [cT];exact af _ _ _)];intro i b;rw [qz x h i b 4 ab];by_cases a:i<32;·rw [IJ x h i a]
 ·simp [a]
theorem K9:∀ j,j<64->bt 255 j=decide (j<8):=by decide +kernel
theorem IK (c:Int) (i:Nat) (f:i<64):∀ k,k<=4->bt (gE c k) i=(decide (i<8*k)&&fJ c (i/8)):=by
 intro k;induction k with
 | zero=>intro _;rw [gE];have:bt 0 i=false:=by unfold bt;simp
         rw [this];simp
 | succ k d =>
   intro h;rw [gE];by_cases a:i<8*k
   ·have b:i<8*(k+1):=ab;have e:¬ 8*k<=i:=ab;cases fJ c k with
    | true=>rw [if_pos rfl,cn,d ab,mU _ (by constructor<;>decide)];simp [a,e,b]
    | false=>rw [if_neg bb,d ab];simp [a,b]
   ·have e:8*k<=i:=ab;by_cases b:i<8*(k+1)
    ·have g:i/8=k:=ab;rw [g];cases fJ c k with
     | true=>rw [if_pos rfl,cn,d ab,mU _ (by constructor<;>decide),K9 _ ab];simp [a,e,b,f];omega
     | false=>rw [if_neg bb,d ab];simp [a]
    ·cases fJ c k with
     | true=>rw [if_pos rfl,cn,d ab,mU _ (by constructor<;>decide),K9 _ ab];simp [a,b];omega
     | false=>rw [if_neg bb,d ab];simp [a,b]
theorem Ef (l:List Int) (h:U (l.getD 16 0)) (p:bo 16 (l.getD 16 0)=l.getD 16 0) (f:Int) (k:U f) (hl:bo 16 f=f):bo 16 (dY l f 4)=dY l f 4:=by
 have e:=λi a=>xW l h f i a 4;rw [zt _ (Ed l f k 4)];have q:=(zt _ h).mp p;have r:=(zt _ k).mp hl;have m:=λi a=>IK (l.getD 16 0) i a 4 ab;intro i a;have c:=q i a;have d:=r i a;unfold wX at c d ⊢;by_cases o:i%8=1
 ·have n:(i-1)/8=i/8:=ab;have s:=m i a;have b:=m (i-1) ab;rw [e i a,e (i-1) ab];have g:decide (i-1<8*4)=decide (i<8*4):=by
   by_cases j:i<8*4;·simp [j];omega
   ·simp [j];omega
  rw [n,g,<- s] at b;rw [b];cases bt (gE (l.getD 16 0) 4) i with
  | true=>rw [if_pos rfl,if_pos rfl];exact c
  | false=>rw [if_neg bb,if_neg bb];exact d
 ·rw [e i a];simp only [o,decide_false,Bool.false_and,Bool.not_false,Bool.and_true] at c d ⊢;cases bt (gE (l.getD 16 0) 4) i with
  | true=>rw [if_pos rfl];exact c
  | false=>rw [if_neg bb];exact d
theorem Eg (x:Int) (h:U x) (k:Nat) (hk:k<22):bo k (bo k x)=bo k x:=by
 have:k=0\/k=1\/k=2\/k=3\/k=4\/k=5\/k=6\/k=7\/k=8\/k=9\/k=10\/k=11\/k=12\/k=13\/k=14\/k=15\/k=16\/k=17\/k=18\/k=19\/k=20\/k=21:=ab
 rcases this with rfl|rfl|rfl|rfl|rfl|rfl|rfl|rfl|rfl|rfl|rfl|rfl|rfl|rfl|rfl|rfl|rfl|rfl|rfl|rfl|rfl|rfl;·exact K8 x h
 ·exact jn x 46079
 ·exact jn x 546
 ·exact jn x 2730
 ·exact lV x 2
 ·rfl
 ·exact lV x 3
 ·exact jn x 9223372036854775823
 ·rfl
 ·rfl
 ·exact lV x 2
 ·rfl
 ·exact lV x 3
 ·exact jn x 9223372036854775823
 ·rfl
 ·rfl
 ·exact xZ x h
 ·exact jn x 18014398509481983
 ·exact jn x 18014398509481983
 ·exact jn x 18014398509481983
 ·exact jn x 18014398509481983
 ·rfl
theorem IL (l:List Int):∀ n k,(∀ j,k<=j->j<k+n->fy j (l.getD j 0)=true)->fl l n k=true:=by
 intro n;induction n with
 | zero=>intro k _;rfl
 | succ n a =>intro k h;rw [fl,Bool.and_eq_true];exact ⟨h k ab ab,a (k+1) λj b c=>h j ab ab⟩
theorem La (l:List Int) (h:∀ j,j<22->fy j (l.getD j 0)=true):bq 22 l=true:=by simp only [bq,Bool.and_eq_true,decide_eq_true_eq];exact ⟨trivial,IL l 22 0 λj _ a=>h j ab⟩
theorem rD (l:List Int) (k:Nat) (v:Int) (hk:k<l.length):(l.set k v).getD k 0=v:=by simp [List.getD,hk]
theorem jM (l:List Int) (k j:Nat) (v:Int) (a:k≠j):(l.set k v).getD j 0=l.getD j 0:=by simp [List.getD,a]
theorem cH (l:List Int) (hz:l.length=22) (a:bq 22 l=true) (k:Nat) (hk:k<22) (v:Int) (h:fy k v=true):bq 22 (l.set k v)=true:=by
 refine La _ λj b=>?_;by_cases e:k=j;·subst e;rw [rD l k v ab];exact h
 ·rw [jM l k j v e];exact dR a j b
theorem oq (x:Int) (h:U x) (k:Nat) (hk:k<22) (b:k≠9) (a:k≠15):fy k (bo k x)=true:=by unfold fy;rw [if_neg b,if_neg a,Eg x h k hk];exact beq_self_eq_true _
theorem Ga (y m x:Int) (hy:bits .and .u64 y 2730=y) (hm:∀ i,i<64->bt m i=true->bt 2730 i=true):bits .and .u64 (iB y m x) 2730=iB y m x:=by
 unfold iB;refine br _ _ (af _ _ _) (af _ _ _) λi b=>?_;have d:bt y i=(bt y i&&bt 2730 i):=by conv=>lhs;rw [<- hy,au]
 have c:=hm i b;rw [au,cn,aw _ _ _ b,au,d];cases a:bt m i with
 | false=>cases bt y i<;>cases bt 2730 i<;>cases bt x i<;>rfl
 | true=>rw [c a];cases bt y i<;>cases bt x i<;>rfl
theorem Tk:∀ i,i<64->bt 546 i=true->bt 2730 i=true:=by decide +kernel
theorem Vc:∀ i,i<64->bt 2 i=true->bt 2730 i=true:=by decide +kernel
theorem IN (l:List Int) (hz:l.length=22) (hl:∀ j,U (l.getD j 0)) (a:bq 22 l=true) (k:Nat) (hk:k<22) (x:Int) (hx:U x):bq 22 (fN l k x)=true:=by
 have f:bits .and .u64 (l.getD 9 0) 2730=l.getD 9 0:=eq_of_beq (dR a 9 ab);have e:bo 16 (l.getD 16 0)=l.getD 16 0:=eq_of_beq (dR a 16 ab);unfold fN;by_cases d:k=9;·subst d;rw [if_pos (show (((9:Nat):Int)=9) from rfl)];refine cH l hz a 9 ab _ ?_;show (bits .and .u64 (iB (l.getD 9 0) 546 x) 2730==iB (l.getD 9 0) 546 x)=true;rw [Ga _ _ _ f Tk];exact beq_self_eq_true _
 ·rw [if_neg ab];by_cases b:k=15
  ·subst b;rw [if_pos (show (((15:Nat):Int)=15) from rfl)];cases g:((x/1152921504606846976==0)||(x/1152921504606846976==8)) with
   | true=>rw [if_pos rfl];exact cH l hz a 15 ab _ g
   | false=>rw [if_neg bb];exact a
  ·rw [if_neg ab];by_cases c:k=16;·subst c;rw [if_pos (show (((16:Nat):Int)=16) from rfl)];refine cH l hz a 16 ab _ ?_;show (bo 16 (dY l (bo 16 x) 4)==dY l (bo 16 x) 4)=true;rw [Ef l (hl 16) e (bo 16 x) (by show U (cT x 4);rw [cT];exact af _ _ _) (xZ x hx)];exact beq_self_eq_true _
   ·rw [if_neg ab];split
    ·split;·exact a
     ·rw [Int.toNat_natCast];exact cH l hz a k hk _ (oq x hx k hk d b)
    ·rw [Int.toNat_natCast];exact cH l hz a k hk _ (oq x hx k hk d b)
inductive Um (n:Int):Prop where
 | fixed (h:n=769\/n=3860)
 | st (h:n=256)
 | ie (h:n=260)
 | ip (h:n=324)
 | own (k:Nat) (hk:k<22) (hw:∀ l x,bU l n x=fN l k x) (hr:∀ l,dq l n=l.getD k 0) (hp:cK n=k)
theorem Rl (n:Int) (h:dj n=true):Um n:=by
 rcases kf n h with rfl|rfl|a;·exact .fixed (.inr rfl)
 ·exact .fixed (.inl rfl)
 ·rcases jL n a with rfl | rfl | rfl | rfl | rfl | rfl | rfl | rfl | rfl | rfl | rfl | rfl | rfl | rfl | rfl | rfl | rfl | rfl | rfl | rfl | rfl | rfl | rfl | rfl | rfl;·exact .own 0 ab (λ_ _=>rfl) (λ_=>rfl) rfl
  ·exact .own 1 ab (λ_ _=>rfl) (λ_=>rfl) rfl
  ·exact .own 2 ab (λ_ _=>rfl) (λ_=>rfl) rfl
  ·exact .own 3 ab (λ_ _=>rfl) (λ_=>rfl) rfl
  ·exact .own 4 ab (λ_ _=>rfl) (λ_=>rfl) rfl
  ·exact .own 5 ab (λ_ _=>rfl) (λ_=>rfl) rfl
  ·exact .own 6 ab (λ_ _=>rfl) (λ_=>rfl) rfl
  ·exact .own 7 ab (λ_ _=>rfl) (λ_=>rfl) rfl
  ·exact .own 8 ab (λ_ _=>rfl) (λ_=>rfl) rfl
  ·exact .own 9 ab (λ_ _=>rfl) (λ_=>rfl) rfl
  ·exact .own 10 ab (λ_ _=>rfl) (λ_=>rfl) rfl
  ·exact .own 11 ab (λ_ _=>rfl) (λ_=>rfl) rfl
  ·exact .own 12 ab (λ_ _=>rfl) (λ_=>rfl) rfl
  ·exact .own 13 ab (λ_ _=>rfl) (λ_=>rfl) rfl
  ·exact .own 14 ab (λ_ _=>rfl) (λ_=>rfl) rfl
  ·exact .own 15 ab (λ_ _=>rfl) (λ_=>rfl) rfl
  ·exact .own 16 ab (λ_ _=>rfl) (λ_=>rfl) rfl
  ·exact .own 17 ab (λ_ _=>rfl) (λ_=>rfl) rfl
  ·exact .own 18 ab (λ_ _=>rfl) (λ_=>rfl) rfl
  ·exact .own 19 ab (λ_ _=>rfl) (λ_=>rfl) rfl
  ·exact .own 20 ab (λ_ _=>rfl) (λ_=>rfl) rfl
  ·exact .own 21 ab (λ_ _=>rfl) (λ_=>rfl) rfl
  ·exact .st rfl
  ·exact .ie rfl
  ·exact .ip rfl
theorem sK (l:List Int) (hz:l.length=22) (hl:∀ j,U (l.getD j 0)) (a:bq 22 l=true) (n x:Int) (hx:U x) (h:dj n=true):bq 22 (bU l n x)=true:=by
 have d:mst (l.getD 0 0)=l.getD 0 0:=eq_of_beq (dR a 0 ab);have e:bits .and .u64 (l.getD 9 0) 2730=l.getD 9 0:=eq_of_beq (dR a 9 ab);cases Rl n h with
 | fixed b=>unfold bU;rw [if_pos b];exact a
 | st b =>subst b;show bq 22 (l.set 0 (iB (l.getD 0 0) 786722 x))=true;refine cH l hz a 0 ab _ ?_;show (mst (iB (l.getD 0 0) 786722 x)==iB (l.getD 0 0) 786722 x)=true;rw [OA _ _ (hl 0) d];exact beq_self_eq_true _
 | ie b =>subst b;show bq 22 (l.set 3 (bo 3 (iB (l.getD 3 0) (l.getD 2 0) x)))=true;exact cH l hz a 3 ab _ (oq _ (af _ _ _) 3 ab ab ab)
 | ip b =>subst b;show bq 22 (l.set 9 (iB (l.getD 9 0) (bits .and .u64 (l.getD 2 0) 2) x))=true;refine cH l hz a 9 ab _ ?_;show (bits .and .u64 (iB (l.getD 9 0) (bits .and .u64 (l.getD 2 0) 2) x) 2730==iB (l.getD 9 0) (bits .and .u64 (l.getD 2 0) 2) x)=true;rw [Ga _ _ _ e (λi f c=>by rw [au,Bool.and_eq_true] at c;exact Vc i f c.2)];exact beq_self_eq_true _
 | own k g m p o=>rw [m];exact IN l hz hl a k g x hx
theorem jp (l:List Int) (hl:∀ j,U (l.getD j 0)) (k:Nat) (v:Int) (hv:U v) (j:Nat):U ((l.set k v).getD j 0):=by
 by_cases e:k=j
 ·subst e;by_cases a:k<l.length;·rw [rD l k v a];exact hv
  ·rw [List.set_eq_of_length_le ab];exact hl k
 ·rw [jM l k j v e];exact hl j
theorem Gb (p x:Int) (h:U x):U (bo p x):=by
 unfold bo;split;·exact Qi x
 ·split;·exact af _ _ _
  ·split;·exact af _ _ _
   ·split;·exact af _ _ _
    ·split;·exact af _ _ _
     ·split;·exact af _ _ _
      ·split;·exact af _ _ _
       ·split;·rw [cT];exact af _ _ _
        ·split;·exact af _ _ _
         ·exact h
theorem Gc (l:List Int) (hl:∀ j,U (l.getD j 0)) (n x:Int) (hx:U x) (j:Nat):U ((bU l n x).getD j 0):=by
 unfold bU;split;·exact hl j
 ·split;·exact jp l hl _ _ (af _ _ _) j
  ·split;·exact jp l hl _ _ (Gb _ _ (af _ _ _)) j
   ·split;·exact jp l hl _ _ (af _ _ _) j
    ·unfold fN;split;·exact jp l hl _ _ (af _ _ _) j
     ·split
      ·split;·exact jp l hl _ _ hx j
       ·exact hl j
      ·split;·exact jp l hl _ _ (Ed l _ (Gb _ _ hx) 4) j
       ·split
        ·split;·exact hl j
         ·exact jp l hl _ _ (Gb _ _ hx) j
        ·exact jp l hl _ _ (Gb _ _ hx) j
theorem OB {l:List Int} (hl:∀ j,U (l.getD j 0)) (b:bq 22 l=true) (j:Nat) (k:17<=j) (i:j<=20):0<=l.getD j 0/\l.getD j 0<18014398509481984:=by
 have h:=dR b j ab;have c:=hl j;have e:bits .and .u64 (l.getD j 0) 18014398509481983=l.getD j 0:=by have a:j=17\/j=18\/j=19\/j=20:=ab;have d:(bits .and .u64 (l.getD j 0) 18014398509481983==l.getD j 0)=true:=(by rcases a with rfl|rfl|rfl|rfl<;>exact h);simpa using d
 have f:=cy (l.getD j 0) 54 c.1 c.2 ab;have g:(2:Int)^54-1=18014398509481983:=bb
 rw [g,e] at f;have p54:(2:Int)^54=18014398509481984:=bb
 rw [p54] at f;refine ⟨c.1,?_⟩;have:=Int.emod_lt_of_pos (l.getD j 0) (show (0:Int)<18014398509481984 by omega);omega
theorem Lb (a:Int):∀ n k,eQ a n k<=n+k:=by
 intro n;induction n with
 | zero=>intro k;show k<=0+k;omega
 | succ n b =>
   intro k;unfold eQ;split;·have:=b (k+1);omega
   ·omega
theorem Ge (m:Nat) (hm:m<=54) (i:Nat) (a:i<64):bt (Uz.wrap (Uz.wrap (2^m)-1)) i=decide (i<m):=by
 have k:∀ m,m<=54->∀ i,i<64->bt (Uz.wrap (Uz.wrap (2^m)-1)) i=decide (i<m):=bv
 exact k m hm i a
theorem Eh (a:Int) (h:U a) (m:Nat) (hm:m<=54):bits .andNot .u64 a (Uz.wrap (Uz.wrap (2^m)-1))=a/2^m*2^m:=by
 have k:(0:Int)<2^m:=Int.pow_pos ab;have f:=lS a h m;have g:a/2^m*2^m<=a:=Int.ediv_mul_le _ ab;have c:0<=a/2^m*2^m:=Int.mul_nonneg f.1 ab;have j:Uz.wrap (a/2^m*2^m)=a/2^m*2^m:=by have:=h.2;rw [IntKind.wrap_u64];exact Int.emod_eq_of_lt c ab
 refine br _ _ (af _ _ _) ⟨c,by have:=h.2;omega⟩ λi e=>?_;rw [aw _ _ _ e,Ge m hm i e,<- j,mU _ f,jl a h];by_cases b:m<=i;·have d:decide (i<m)=false:=decide_eq_false ab;rw [d,decide_eq_true b,decide_eq_true e,Nat.sub_add_cancel b];simp
 ·have d:decide (i<m)=true:=decide_eq_true ab;rw [d,decide_eq_false b];simp
theorem IP {w w':World} {o:Obj} (h:(w.alloc o).grownBy w' (Value.slice (some ⟨w.heap.size,0,none⟩) 0 0).ownBlock):Bw w w':=by
 refine Below.grown (bal _ _) h ?_ ?_;·simp
 ·intro k a;simp [Value.ownBlock] at a;omega
end Go.Proofs.YtjifdmoehfbihaaGreatDoor
