/- Own lemmas. -/
import Derived.Test.YtjifdmoehfbihaaGreatDoorAut
import Derived.Test.YtjifdmoehfbihaaGreatDoorK19
namespace Go.Proofs.YtjifdmoehfbihaaGreatDoor
open Go.RowKit
open IntKind renaming u64->Uz
set_option linter.unusedVariables false
theorem jI (n:Int) (h:cS n=true):n=3860\/n=769\/n ∈ nums:=by
 by_cases a:n ∈ nums;·exact .inr (.inr a)
 ·simp only [cS,rB n a,Bool.or_eq_true,beq_iff_eq,decide_eq_true_eq] at h;omega
theorem I2 (n p:Int) (h:cS n=true):lD n p=(bI p&&decide ((wrap64 (n.tdiv 256)).tmod 4<=p)):=by
 have e:bits .and .i64 (n/256) 3=(wrap64 (n.tdiv 256)).tmod 4:=by
  rcases jI n h with rfl|rfl|a;·decide +kernel
  ·decide +kernel
  ·rcases jr n a with rfl|rfl|rfl|rfl|rfl|rfl|rfl|rfl|rfl|rfl|rfl|rfl|rfl|rfl|rfl|rfl|rfl|rfl|rfl|rfl|rfl|rfl|rfl|rfl|rfl<;>decide +kernel
 unfold lD;rw [e]
theorem LU (n:Int) (h:cS n=true):rA n=((wrap64 (n.tdiv 1024)).tmod 4==3):=by
 have e:bits .and .i64 (n/1024) 3=(wrap64 (n.tdiv 1024)).tmod 4:=by
  rcases jI n h with rfl|rfl|a;·decide +kernel
  ·decide +kernel
  ·rcases jr n a with rfl|rfl|rfl|rfl|rfl|rfl|rfl|rfl|rfl|rfl|rfl|rfl|rfl|rfl|rfl|rfl|rfl|rfl|rfl|rfl|rfl|rfl|rfl|rfl|rfl<;>decide +kernel
 unfold rA;rw [e]
theorem tW (m:Nat) (l:List Int) (hl:∀ j,U (l.getD j 0)) (n p:Int):jq m l n p=iP m l n p:=by
 unfold jq iP oP;rw [wo m l hl,Ae];cases a:cS n with
 | false=>simp
 | true =>rw [I2 n p a];cases bf m l<;>cases bI p<;>simp
theorem cQ (l:List Int) (hl:∀ j,U (l.getD j 0)) (n:Int) (k:Nat) (a:bP n (l.getD 2 0) 22 0=⟨k,n,18446744073709551615,18446744073709551615,true⟩) (hr:cZ l n=l.getD k 0):(if (bP n (l.getD 2 0) 22 0).ok=true then bits .and .u64 (l.getD (bP n (l.getD 2 0) 22 0).at_.toNat 0) (bP n (l.getD 2 0) 22 0).rd else oo n)=cZ l n:=by rw [a,hr];show bits .and .u64 (l.getD ((k:Int)).toNat 0) 18446744073709551615=_;rw [Int.toNat_natCast,oc _ (hl k)]
theorem LV (l:List Int) (hl:∀ j,U (l.getD j 0)) (n:Int) (h:cS n=true):(if (bP n (l.getD 2 0) 22 0).ok=true then bits .and .u64 (l.getD (bP n (l.getD 2 0) 22 0).at_.toNat 0) (bP n (l.getD 2 0) 22 0).rd else oo n)=cZ l n:=by
 rcases jI n h with rfl|rfl|a;·rw [kE 3860 _ a5 22 0 al];rfl
 ·rw [kE 769 _ a5 22 0 al];rfl
 ·rcases jr n a with rfl|rfl|rfl|rfl|rfl|rfl|rfl|rfl|rfl|rfl|rfl|rfl|rfl|rfl|rfl|rfl|rfl|rfl|rfl|rfl|rfl|rfl|rfl|rfl|rfl;·exact cQ l hl 768 0 rfl rfl
  ·exact cQ l hl 770 1 rfl rfl
  ·exact cQ l hl 771 2 rfl rfl
  ·exact cQ l hl 772 3 rfl rfl
  ·exact cQ l hl 773 4 rfl rfl
  ·exact cQ l hl 832 5 rfl rfl
  ·exact cQ l hl 833 6 rfl rfl
  ·exact cQ l hl 834 7 rfl rfl
  ·exact cQ l hl 835 8 rfl rfl
  ·exact cQ l hl 836 9 rfl rfl
  ·exact cQ l hl 261 10 rfl rfl
  ·exact cQ l hl 320 11 rfl rfl
  ·exact cQ l hl 321 12 rfl rfl
  ·exact cQ l hl 322 13 rfl rfl
  ·exact cQ l hl 323 14 rfl rfl
  ·exact cQ l hl 384 15 rfl rfl
  ·exact cQ l hl 928 16 rfl rfl
  ·exact cQ l hl 944 17 rfl rfl
  ·exact cQ l hl 945 18 rfl rfl
  ·exact cQ l hl 946 19 rfl rfl
  ·exact cQ l hl 947 20 rfl rfl
  ·exact cQ l hl 2818 21 rfl rfl
  ·rfl
  ·rfl
  ·rfl
theorem I3 (m:Nat) (l:List Int) (hl:∀ j,U (l.getD j 0)) (n p:Int):jR m l n p=(if iP m l n p=true then cZ l n else 0):=by
 have a:=tW m l hl n p;unfold jq at a;rw [Ae] at a;cases b:cS n with
 | false =>have d:iP m l n p=false:=(by unfold iP;rw [b];cases bf m l<;>rfl);rw [d,if_neg a5];unfold jR;have c:=Ae n (l.getD 2 0);rw [b,Bool.or_eq_false_iff] at c;rw [c.1];have e:oo n=0:=(by have:=c.2;simp only [om,Bool.or_eq_false_iff,beq_eq_false_iff_ne] at this;unfold oo;rw [if_neg this.1]);rw [e];cases oP m l n p<;>rfl
 | true =>rw [b,Bool.and_true] at a;unfold jR;rw [a,LV l hl n b]
theorem ya (y f:Int) (h:U f):bits .or .u64 (bits .andNot .u64 y 18446744073709551615) (bits .and .u64 f 18446744073709551615)=f :=
 bg _ _ (aj _ _ _) h λi a=>by rw [bZ,aA _ _ _ a,az,xY i a];cases bt y i<;>cases bt f i<;>rfl
theorem Ea (y f:Int) (h:U y):bits .or .u64 (bits .andNot .u64 y 0) (bits .and .u64 f 0)=y :=
 bg _ _ (aj _ _ _) h λi b=>by
  have a:bt 0 i=false:=by unfold bt;simp
  rw [bZ,aA _ _ _ b,az,a];cases bt y i<;>cases bt f i<;>rfl
theorem wq:bits .andNot .u64 18446744073709551615 0=18446744073709551615:=by decide +kernel
theorem rC:bits .andNot .u64 18446744073709551615 18446744073709551615=0:=by decide +kernel
theorem PH (k:CK) (x:Int) (h:U x):U (gC k x):=by
 cases k with
 | plain b=>exact aj .and x b
 | mst =>
   show U (if (bits .and .u64 x 6144==4096)=true then bits .andNot .u64 (bits .and .u64 x 924074) 6144 else bits .and .u64 x 924074);split;·exact aj _ _ _
   ·exact aj _ _ _
 | mie=>exact aj .and x 2730
 | mip=>exact aj .and x 2730
 | satp =>
   show U (if gI x=true then x else 0);split;·exact h
   ·constructor<;>decide
 | cfg=>rw [show gC .cfg x=oO x 4 from rfl,oO];exact aj _ _ _
 | addr e=>exact aj .and x 18014398509481983
theorem Ga (l:List Int) (k:Nat) (hk:(fC k).2.holds=false) (x:Int) (h:U x):jY l k 18446744073709551615 x=gC (fC k).2 x:=by unfold jY kD;rw [hk,if_neg a5];exact ya _ _ (PH _ x h)
theorem lX (l:List Int) (k:Nat) (hk:k<l.length):l.set k (l.getD k 0)=l:=by
 have e:l.getD k 0=l[k]:=by simp [List.getD,List.getElem?_eq_getElem hk]
 rw [e,List.set_getElem_self]
theorem Oj:∀ i,i<64->∀ y x:Bool,(((y&&bt 2730 i)&&!(bt 18446744073709551615 i&&!bt 2184 i))||((x&&bt 2730 i)&&(bt 18446744073709551615 i&&!bt 2184 i)))=(((y&&bt 2730 i)&&!bt 546 i)||(x&&bt 546 i)):=by decide +kernel
theorem I6 (y x:Int) (hy:bits .and .u64 y 2730=y):bits .or .u64 (bits .andNot .u64 y (bits .andNot .u64 18446744073709551615 2184)) (bits .and .u64 (bits .and .u64 x 2730) (bits .andNot .u64 18446744073709551615 2184))=ig y 546 x:=by
 unfold ig;refine bg _ _ (aj _ _ _) (aj _ _ _) λi a=>?_;have b:bt y i=(bt y i&&bt 2730 i):=by conv=>lhs;rw [<- hy,az]
 rw [bZ,aA _ _ _ a,az,az,aA _ _ _ a,bZ,aA _ _ _ a,az,b];exact Oj i a _ _
theorem I7:∀ i,i<64->∀ x:Bool,((x&&bt 924074 i)&&bt 786722 i)=(x&&bt 786722 i)/\(((x&&bt 924074 i)&&!bt 6144 i)&&bt 786722 i)=(x&&bt 786722 i):=by decide +kernel
theorem I8 (y x:Int):bits .or .u64 (bits .andNot .u64 y 786722) (bits .and .u64 (gC .mst x) 786722)=ig y 786722 x:=by
 unfold ig;refine bg _ _ (aj _ _ _) (aj _ _ _) λi a=>?_;have b:bt (bits .and .u64 (gC .mst x) 786722) i=bt (bits .and .u64 x 786722) i:=by
  show bt (bits .and .u64 (if (bits .and .u64 x 6144==4096)=true then bits .andNot .u64 (bits .and .u64 x 924074) 6144 else bits .and .u64 x 924074) 786722) i=_;split;·rw [az,aA _ _ _ a,az,az];exact (I7 i a _).2
  ·rw [az,az,az];exact (I7 i a _).1
 rw [bZ,b,bZ]
theorem I9 (y m x:Int) (hy:bits .and .u64 y 2730=y):bits .or .u64 (bits .andNot .u64 y m) (bits .and .u64 (bits .and .u64 x 2730) m)=aX 3 (ig y m x):=by
 show _=bits .and .u64 (bits .or .u64 (bits .andNot .u64 y m) (bits .and .u64 x m)) 2730;refine bg _ _ (aj _ _ _) (aj _ _ _) λi a=>?_;have b:bt y i=(bt y i&&bt 2730 i):=by conv=>lhs;rw [<- hy,az]
 rw [bZ,aA _ _ _ a,az,az,az,bZ,aA _ _ _ a,az,b];cases bt y i<;>cases bt m i<;>cases bt x i<;>cases bt 2730 i<;>rfl
theorem Ok:∀ i,i<64->∀ y m x:Bool,((y&&!((m&&bt 2 i)&&!bt 2184 i))||((x&&bt 2730 i)&&((m&&bt 2 i)&&!bt 2184 i)))=((y&&!(m&&bt 2 i))||(x&&(m&&bt 2 i))):=by decide +kernel
theorem Ja (y m x:Int):bits .or .u64 (bits .andNot .u64 y (bits .andNot .u64 (bits .and .u64 m 2) 2184)) (bits .and .u64 (bits .and .u64 x 2730) (bits .andNot .u64 (bits .and .u64 m 2) 2184))=ig y (bits .and .u64 m 2) x:=by unfold ig;refine bg _ _ (aj _ _ _) (aj _ _ _) λi a=>?_;rw [bZ,aA _ _ _ a,az,az,aA _ _ _ a,az,bZ,aA _ _ _ a,az,az,az];exact Ok i a _ _ _
theorem CL (l:List Int) (h:U (l.getD 16 0)) (k:Nat):de l k=cI (l.getD 16 0) (8*k) 8:=gQ _ (8*k) 8 h.1 h.2 al
theorem PJ:∀ z:Nat,z<256->(bits .and .u64 (z:Int) 128 != 0)=((z:Int)/128==1):=by decide +kernel
theorem sy (l:List Int) (h:U (l.getD 16 0)) (k:Nat):fs (l.getD 16 0) k=(de l k/128==1):=by
 rw [CL l h]
 unfold fs
 have a:=jN (l.getD 16 0) (8*k) 8
 obtain ⟨z,b⟩:=Int.eq_ofNat_of_zero_le a.1
 rw [b] at a ⊢
 exact PJ z (by have:((2:Int)^8)=256:=by decide
                omega)
theorem CM (l:List Int) (y:Int) (h:U y):∀ k,U (dN l y k):=by
 intro k;induction k with
 | zero=>exact h
 | succ k a =>
   rw [dN];split;·exact aj _ _ _
   ·exact a
theorem wu (l:List Int) (h:U (l.getD 16 0)) (y:Int) (i:Nat) (c:i<64):∀ k,bt (dN l y k) i=if bt (gj (l.getD 16 0) k) i=true then bt (l.getD 16 0) i else bt y i:=by
 intro k;induction k with
 | zero =>
   have b:bt 0 i=false:=(by unfold bt;simp);show bt y i=if bt 0 i=true then _ else _
   rw [b,if_neg a5]
 | succ k a =>
   rw [dN,gj,sy l h];cases (de l k/128==1) with
   | false=>exact a
   | true =>rw [if_pos rfl,if_pos rfl,bZ,aA _ _ _ c,az,bZ,a];cases bt (Uz.wrap (255*2^(8*k))) i<;>cases bt (gj (l.getD 16 0) k) i<;>cases bt (l.getD 16 0) i<;>cases bt y i<;>rfl
theorem Jb (l:List Int) (h:U (l.getD 16 0)) (f:Int) (b:U f):bits .or .u64 (bits .andNot .u64 (l.getD 16 0) (bits .andNot .u64 18446744073709551615 (gj (l.getD 16 0) 4))) (bits .and .u64 f (bits .andNot .u64 18446744073709551615 (gj (l.getD 16 0) 4)))=dN l f 4:=by refine bg _ _ (aj _ _ _) (CM l f b 4) λi a=>?_;rw [wu l h f i a,bZ,aA _ _ _ a,az,aA _ _ _ a,xY i a];cases bt (gj (l.getD 16 0) 4) i<;>cases bt (l.getD 16 0) i<;>cases bt f i<;>rfl
theorem Eb:∀ i,i<64->8<=i->bt 159 i=false:=by decide +kernel
theorem Ec (x:Int) (k i:Nat) (b:8<=i):bt (iO x k) i=false:=by
 by_cases a:i<64
 ·unfold iO;split;·rw [aA _ _ _ a,az,Eb i a b,Bool.and_false,Bool.false_and]
  ·rw [az,Eb i a b,Bool.and_false]
 ·exact sp _ _ al
theorem Jc (x:Int) (k:Nat):U (iO x k):=by unfold iO;split<;>exact aj _ _ _
theorem Jd (x:Int) (i:Nat) (b:32<=i):∀ k,k<=4->bt (cJ x k) i=false:=by
 intro k;induction k with
 | zero=>intro _;unfold bt;simp [cJ]
 | succ k a =>intro c;rw [cJ,bZ,a al,mz _ (Jc x k),Ec x k _ al,Bool.and_false,Bool.or_false]
theorem Je (c:Int) (b:U c) (h:aX 16 c=c):fs c 4=false:=by
 have a:cJ c 4=c:=h;have e:cI c (8*4) 8=0:=by
  refine bg _ _ (pk _ _ _ al) (by constructor<;>decide) λi d=>?_;rw [jO c b _ _ _ al];have:bt c (i+8*4)=false:=by rw [<- a];exact Jd c _ al 4 al
  rw [this,Bool.and_false];unfold bt;simp
 unfold fs;rw [e];decide +kernel
theorem wv (l:List Int) (h:U (l.getD 16 0)) (k:Nat) (hk:k<4):fN (l.getD 16 0) k=bits .and .u64 (de l k/8) 3:=by rw [CL l h];have a:=cj (cI (l.getD 16 0) (8*k) 8/8) 2 (by have:=(jN (l.getD 16 0) (8*k) 8).1;omega) (by have b:=pk (l.getD 16 0) (8*k) 8 al;have c:=b.1;have d:=b.2;omega) al;rw [show ((2:Int)^2-1)=3 from a5,show ((2:Int)^2)=4 from a5] at a;rw [a];unfold fN cI;rw [Int.pow_add,show ((2:Int)^3)=8 from a5,show ((2:Int)^2)=4 from a5,show ((2:Int)^8)=256 from a5,<- Int.ediv_ediv_of_nonneg (Int.le_of_lt (Int.pow_pos al))];generalize l.getD 16 0/2^(8*k)=z;omega
theorem CN (l:List Int) (h:U (l.getD 16 0)) (b:aX 16 (l.getD 16 0)=l.getD 16 0) (e:Nat) (he:e<4):(fs (l.getD 16 0) e||(fs (l.getD 16 0) (e+1)&&(fN (l.getD 16 0) (e+1)==1)))=eR l e:=by
 unfold eR;by_cases a:e<3;·rw [sy l h,sy l h,wv l h _ al,show decide (e<3)=true from ti,Bool.true_and]
 ·have:e=3:=by omega
  subst this;rw [Je _ h b,sy l h];simp
theorem od (l:List Int) (h:U (l.getD 16 0)) (a:aX 16 (l.getD 16 0)=l.getD 16 0) (k e:Nat) (he:e<4) (hk:(fC k).2=.addr e) (hy:U (l.getD k 0)) (x:Int) (hx:U x):jY l k 18446744073709551615 x=if eR l e=true then l.getD k 0 else bits .and .u64 x 18014398509481983:=by
 unfold jY kD;rw [hk];show bits .or .u64 (bits .andNot .u64 (l.getD k 0) (bits .andNot .u64 18446744073709551615 (if (fs (l.getD 16 0) e||(fs (l.getD 16 0) (e+1)&&(fN (l.getD 16 0) (e+1)==1)))=true then 18446744073709551615 else 0)))
  (bits .and .u64 (bits .and .u64 x 18014398509481983) (bits .andNot .u64 18446744073709551615 (if (fs (l.getD 16 0) e||(fs (l.getD 16 0) (e+1)&&(fN (l.getD 16 0) (e+1)==1)))=true then 18446744073709551615 else 0)))=_
 rw [CN l h a e he];cases eR l e with
 | true=>rw [if_pos rfl,if_pos rfl,rC];exact Ea _ _ hy
 | false=>rw [if_neg a5,if_neg a5,wq];exact ya _ _ (aj _ _ _)
theorem Gb (l:List Int) (hy:U (l.getD 15 0)) (x:Int) (hx:U x):jY l 15 18446744073709551615 x=if gI x=true then x else l.getD 15 0:=by
 unfold jY kD;show bits .or .u64 (bits .andNot .u64 (l.getD 15 0) (bits .andNot .u64 18446744073709551615 (if gI x=true then 0 else 18446744073709551615)))
  (bits .and .u64 (if gI x=true then x else 0) (bits .andNot .u64 18446744073709551615 (if gI x=true then 0 else 18446744073709551615)))=_
 cases gI x with
 | true=>rw [if_pos rfl,if_pos rfl,if_pos rfl,wq];exact ya _ _ hx
 | false=>rw [if_neg a5,if_neg a5,if_neg a5,rC];exact Ea _ _ hy
theorem Gc (l:List Int):∀ n k,eO l n k=true->∀ j,k<=j->j<k+n->eZ j (l.getD j 0)=true:=by
 intro n;induction n with
 | zero=>intro k _ j a b;omega
 | succ n d =>
   intro k h j a b;rw [eO,Bool.and_eq_true] at h;by_cases c:j=k;·subst c;exact h.1
   ·exact d (k+1) h.2 j al al
theorem dU {m:Nat} {l:List Int} (h:bf m l=true) (j:Nat) (a:j<22):eZ j (l.getD j 0)=true:=by simp only [bf,Bool.and_eq_true,decide_eq_true_eq] at h;exact Gc l 22 0 h.2 j al al
theorem iN (l:List Int) (n x:Int) (k:Nat) (a:bP n (l.getD 2 0) 22 0=⟨k,n,18446744073709551615,18446744073709551615,true⟩) (b:bJ l n x=fx l k x) (h:l.set k (jY l k 18446744073709551615 x)=fx l k x):mK l n x=bJ l n x:=by unfold mK;rw [a,b];show l.set ((k:Int)).toNat (jY l ((k:Int)).toNat 18446744073709551615 x)=_;rw [Int.toNat_natCast];exact h
theorem dz (l:List Int) (n x:Int) (hx:U x) (k:Nat) (hk:k<22) (b:k≠9) (a:k≠15) (d:(fC k).2.holds=false) (c:bP n (l.getD 2 0) 22 0=⟨k,n,18446744073709551615,18446744073709551615,true⟩) (f:bJ l n x=fx l k x) (e:fx l k x=l.set k (aX k x)) :
 mK l n x=bJ l n x :=
 iN l n x k c f (by rw [Ga l k d x hx,wm x hx k hk b a,e])
theorem Jf (l:List Int) (hz:l.length=22) (hl:∀ j,U (l.getD j 0)) (b:bf 22 l=true) (n x:Int) (hx:U x) (h:cS n=true):mK l n x=bJ l n x:=by
 have e:bits .and .u64 (l.getD 9 0) 2730=l.getD 9 0:=by have:=dU b 9 al;exact eq_of_beq this
 have d:bits .and .u64 (l.getD 3 0) 2730=l.getD 3 0:=by have:=dU b 3 al;exact eq_of_beq this
 have a:aX 16 (l.getD 16 0)=l.getD 16 0:=by have:=dU b 16 al;exact eq_of_beq this
 rcases jI n h with rfl|rfl|c;·unfold mK;rw [kE 3860 _ a5 22 0 al];rfl
 ·unfold mK;rw [kE 769 _ a5 22 0 al];rfl
 ·rcases jr n c with rfl|rfl|rfl|rfl|rfl|rfl|rfl|rfl|rfl|rfl|rfl|rfl|rfl|rfl|rfl|rfl|rfl|rfl|rfl|rfl|rfl|rfl|rfl|rfl|rfl;·exact dz l 768 x hx 0 al al al rfl rfl rfl rfl
  ·exact dz l 770 x hx 1 al al al rfl rfl rfl rfl
  ·exact dz l 771 x hx 2 al al al rfl rfl rfl rfl
  ·exact dz l 772 x hx 3 al al al rfl rfl rfl rfl
  ·exact dz l 773 x hx 4 al al al rfl rfl rfl rfl
  ·exact dz l 832 x hx 5 al al al rfl rfl rfl rfl
  ·exact dz l 833 x hx 6 al al al rfl rfl rfl rfl
  ·exact dz l 834 x hx 7 al al al rfl rfl rfl rfl
  ·exact dz l 835 x hx 8 al al al rfl rfl rfl rfl
  ·refine iN l 836 x 9 rfl rfl ?_;show l.set 9 (bits .or .u64 (bits .andNot .u64 (l.getD 9 0) (bits .andNot .u64 18446744073709551615 2184)) (bits .and .u64 (bits .and .u64 x 2730) (bits .andNot .u64 18446744073709551615 2184)))=l.set 9 (ig (l.getD 9 0) 546 x);rw [I6 _ x e]
  ·exact dz l 261 x hx 10 al al al rfl rfl rfl rfl
  ·exact dz l 320 x hx 11 al al al rfl rfl rfl rfl
  ·exact dz l 321 x hx 12 al al al rfl rfl rfl rfl
  ·exact dz l 322 x hx 13 al al al rfl rfl rfl rfl
  ·exact dz l 323 x hx 14 al al al rfl rfl rfl rfl
  ·refine iN l 384 x 15 rfl rfl ?_;rw [Gb l (hl 15) x hx];show _=(if ((x/1152921504606846976==0)||(x/1152921504606846976==8))=true then l.set 15 x else l);rw [<- D9 x hx];cases gI x with
   | true=>rfl
   | false=>rw [if_neg a5,if_neg a5,lX l 15 al]
  ·refine iN l 928 x 16 rfl rfl ?_;show l.set 16 (bits .or .u64 (bits .andNot .u64 (l.getD 16 0) (bits .andNot .u64 18446744073709551615 (gj (l.getD 16 0) 4))) (bits .and .u64 (oO x 4) (bits .andNot .u64 18446744073709551615 (gj (l.getD 16 0) 4))))=l.set 16 (dN l (cJ x 4) 4);rw [I0 x hx,Jb l (hl 16) (cJ x 4) (by rw [cJ];exact aj _ _ _)]
  ·refine iN l 944 x 17 rfl rfl ?_;rw [od l (hl 16) a 17 0 al rfl (hl 17) x hx];show _=(if eR l 0=true then l else l.set 17 (bits .and .u64 x 18014398509481983));cases eR l 0 with
   | true=>rw [if_pos rfl,if_pos rfl,lX l 17 al]
   | false=>rfl
  ·refine iN l 945 x 18 rfl rfl ?_;rw [od l (hl 16) a 18 1 al rfl (hl 18) x hx];show _=(if eR l 1=true then l else l.set 18 (bits .and .u64 x 18014398509481983));cases eR l 1 with
   | true=>rw [if_pos rfl,if_pos rfl,lX l 18 al]
   | false=>rfl
  ·refine iN l 946 x 19 rfl rfl ?_;rw [od l (hl 16) a 19 2 al rfl (hl 19) x hx];show _=(if eR l 2=true then l else l.set 19 (bits .and .u64 x 18014398509481983));cases eR l 2 with
   | true=>rw [if_pos rfl,if_pos rfl,lX l 19 al]
   | false=>rfl
  ·refine iN l 947 x 20 rfl rfl ?_;rw [od l (hl 16) a 20 3 al rfl (hl 20) x hx];show _=(if eR l 3=true then l else l.set 20 (bits .and .u64 x 18014398509481983));cases eR l 3 with
   | true=>rw [if_pos rfl,if_pos rfl,lX l 20 al]
   | false=>rfl
  ·exact dz l 2818 x hx 21 al al al rfl rfl rfl rfl
  ·show l.set 0 (bits .or .u64 (bits .andNot .u64 (l.getD 0 0) 786722) (bits .and .u64 (gC .mst x) 786722))=l.set 0 (ig (l.getD 0 0) 786722 x);rw [I8]
  ·show l.set 3 (bits .or .u64 (bits .andNot .u64 (l.getD 3 0) (l.getD 2 0)) (bits .and .u64 (bits .and .u64 x 2730) (l.getD 2 0)))=l.set 3 (aX 3 (ig (l.getD 3 0) (l.getD 2 0) x));rw [I9 _ _ _ d]
  ·show l.set 9 (bits .or .u64 (bits .andNot .u64 (l.getD 9 0) (bits .andNot .u64 (bits .and .u64 (l.getD 2 0) 2) 2184)) (bits .and .u64 (bits .and .u64 x 2730) (bits .andNot .u64 (bits .and .u64 (l.getD 2 0) 2) 2184)))=l.set 9 (ig (l.getD 9 0) (bits .and .u64 (l.getD 2 0) 2) x);rw [Ja]
theorem wy (m:Nat) (l:List Int) (hl:∀ j,U (l.getD j 0)) (n p:Int):eD m l n p=Bj m l n p:=by
 have b:=tW m l hl n p;unfold jq at b;unfold eD Bj;cases a:cS n with
 | false =>have c:iP m l n p=false:=(by unfold iP;rw [a];cases bf m l<;>rfl);rw [c,Ae,a];simp
 | true =>rw [<- b,LU n a,Ae,a];cases oP m l n p<;>cases ((wrap64 (n.tdiv 1024)).tmod 4==3)<;>rfl
theorem Ge (m:Nat) (l:List Int) (hz:l.length=m) (hl:∀ j,U (l.getD j 0)) (n p x:Int) (hx:U x):fK m l n p x=Bk m l n p x:=by
 unfold fK Bk;rw [wy m l hl n p];cases c:Bj m l n p with
 | false=>rfl
 | true =>rw [if_pos rfl,if_pos rfl];have a:iP m l n p=true:=(by unfold Bj at c;rw [Bool.and_eq_true] at c;exact c.1);obtain ⟨rfl,d⟩:=Bl a;have b:bf 22 l=true:=(by simp only [iP,Bool.and_eq_true] at a;exact a.1.1.1);exact Jf l hz hl b n x hx d
theorem Ol (b:Int):bits .and .u64 b 1=if bt b 0=true then 1 else 0:=by
 have c:∀ i,i<64->∀ (p o:Bool),((if i=0 then p else o)&&bt 1 i)=bt (if p=true then 1 else 0) i:=a8
 refine bg _ _ (aj _ _ _) (by split<;>(constructor<;>decide)) λi d=>?_;rw [az,<- c i d (bt b 0) (bt b i)];by_cases a:i=0;·subst a;rfl
 ·rw [if_neg a]
theorem Jg (x:Int):(bits .and .u64 x 6144==4096)=(!bt x 11&&bt x 12):=by
 have c:bits .and .u64 x 6144=(if bt x 11=true then 2048 else 0)+(if bt x 12=true then 4096 else 0):=by
  refine bg _ _ (aj _ _ _) fa λi d=>?_;rw [az,<- Ns i d (bt x 11) (bt x 12) (bt x i)];by_cases a:i=11;·subst a;rfl
  ·by_cases b:i=12;·subst b;rfl
   ·rw [if_neg a,if_neg b]
 rw [c];cases bt x 11<;>cases bt x 12<;>rfl
theorem Ed (x:Int) (h:U x):mst x=if (!bt x 11&&bt x 12)=true then bits .andNot .u64 (bits .and .u64 x 924074) 6144 else bits .and .u64 x 924074:=by rw [<- IZ x h,<- Jg];rfl
theorem Om:bt 924074 11=true/\bt 924074 12=true/\bt 6144 11=true/\bt 6144 12=true/\bt 786722 11=false/\bt 786722 12=false:=by decide +kernel
theorem qz (x:Int) (h:U x):mst x=x↔bits .and .u64 x 924074=x/\(!bt x 11&&bt x 12)=false:=by
 rw [Ed x h];constructor
 ·intro e;cases a:(!bt x 11&&bt x 12) with
  | true =>
    rw [a,if_pos rfl] at e;have:bt x 12=false:=by rw [<- e,aA _ _ _ al,Om.2.2.2.1];simp
    rw [this,Bool.and_false] at a;cases a
  | false=>rw [a,if_neg a5] at e;exact ⟨e,rfl⟩
 ·rintro ⟨e,a⟩;rw [a,if_neg a5];exact e
theorem Nt (x:Int):U (mst x):=by unfold mst;split<;>exact aj _ _ _
theorem Jh (x:Int) (h:U x):mst (mst x)=mst x:=by
 rw [qz _ (Nt x)];rw [Ed x h];cases b:(!bt x 11&&bt x 12) with
 | true =>
   rw [if_pos rfl];refine ⟨bg _ _ (aj _ _ _) (aj _ _ _) λi a=>?_,?_⟩;·rw [az,aA _ _ _ a,az];cases bt x i<;>cases bt 924074 i<;>cases bt 6144 i<;>rfl
   ·rw [aA _ _ 12 al,Om.2.2.2.1];simp
 | false =>
   rw [if_neg a5];refine ⟨bg _ _ (aj _ _ _) (aj _ _ _) λi a=>?_,?_⟩;·rw [az,az];cases bt x i<;>cases bt 924074 i<;>rfl
   ·rw [az,az,Om.1,Om.2.1,Bool.and_true,Bool.and_true];exact b
theorem On:∀ i,i<64->∀ a:Bool,((a&&bt 786722 i)&&bt 924074 i)=(a&&bt 786722 i):=by decide +kernel
theorem LW (y x:Int) (hy:U y) (h:mst y=y):mst (ig y 786722 x)=ig y 786722 x:=by
 obtain ⟨b,c⟩:=(qz y hy).mp h;unfold ig;rw [qz _ (aj _ _ _)];refine ⟨bg _ _ (aj _ _ _) (aj _ _ _) λi a=>?_,?_⟩
 ·have d:bt y i=(bt y i&&bt 924074 i):=by conv=>lhs;rw [<- b,az]
  have e:=On i a (bt x i);rw [az,bZ,aA _ _ _ a,az,d];revert e;cases bt y i<;>cases bt 924074 i<;>cases bt 786722 i<;>cases bt x i<;>decide
 ·rw [bZ,bZ,aA _ _ 11 al,aA _ _ 12 al,az,az,Om.2.2.2.2.1,Om.2.2.2.2.2];simpa using c
theorem iW (x m:Int):bits .and .u64 (bits .and .u64 x m) m=bits .and .u64 x m :=
 bg _ _ (aj _ _ _) (aj _ _ _) λi a=>by rw [az,az];cases bt x i<;>cases bt m i<;>rfl
theorem kV (x m:Int):bits .andNot .u64 (bits .andNot .u64 x m) m=bits .andNot .u64 x m :=
 bg _ _ (aj _ _ _) (aj _ _ _) λi a=>by rw [aA _ _ _ a,aA _ _ _ a];cases bt x i<;>cases bt m i<;>rfl
def vh (x:Int) (i:Nat):Bool:=bt x i&&bt 159 (i%8)&&!(decide (i%8=1)&&!bt x (i-1))
theorem Qq:∀ j,j<64->bt 2 j=decide (j=1):=by decide +kernel
theorem Ee:bt 159 0=true:=by decide +kernel
theorem Gf (x:Int) (h:U x) (k j:Nat) (b:j<64):bt (iO x k) j=(bt x (j+8*k)&&bt 159 j&&!(decide (j=1)&&!bt x (8*k))):=by
 unfold iO;have a:∀ i,bt (x/2^(8*k)) i=bt x (i+8*k):=λi=>iT x h (8*k) i;generalize x/2^(8*k)=z at *;have c:bt x (8*k)=bt z 0:=by rw [a 0,Nat.zero_add]
 rw [c,<- a j,Ol,az,Ee,Bool.and_true];cases d:bt z 0 with
 | true =>rw [if_pos rfl,if_neg a5,az];simp
 | false =>rw [if_neg (show ¬ (false=true) from a5),if_pos (show ((0:Int)==0)=true from rfl),aA _ _ _ b,az,Qq j b];simp
theorem pN (x:Int) (h:U x) (i:Nat) (d:i<64):∀ k,k<=4->bt (cJ x k) i=(decide (i<8*k)&&vh x i):=by
 intro k;induction k with
 | zero=>intro _;rw [cJ];have:bt 0 i=false:=by unfold bt;simp
         rw [this];simp
 | succ k g =>
   intro j;rw [cJ,bZ,g al,mz _ (Jc x k)];by_cases b:i<8*k;·have c:¬ 8*k<=i:=al;have a:i<8*(k+1):=al;simp [b,c,a]
   ·have c:8*k<=i:=al;by_cases a:i<8*(k+1)
    ·have f:i%8=i-8*k:=al;rw [Gf x h k _ al];unfold vh;rw [f,show i-8*k+8*k=i from al];by_cases e:i-8*k=1;·rw [show i-1=8*k from al];simp [b,c,a,d]
     ·simp [b,c,a,d,e]
    ·rw [Ec x k _ al];simp [b,a]
theorem yb (c:Int) (h:U c):aX 16 c=c↔∀ i,i<64->bt c i=(decide (i<32)&&vh c i):=by
 show cJ c 4=c↔_;constructor;·intro e i a;have:=pN c h i a 4 al;rw [e] at this;exact this
 ·intro b;refine bg _ _ (by rw [cJ];exact aj _ _ _) h λi a=>?_;rw [pN c h i a 4 al,b i a]
theorem Gg (x:Int) (h:U x) (i:Nat) (b:i<32):vh (cJ x 4) i=vh x i:=by
 have s:∀ j,j<32->bt (cJ x 4) j=vh x j:=λj d=>by rw [pN x h j al 4 al];simp [show j<8*4 from al]
 show (bt (cJ x 4) i&&bt 159 (i%8)&&!(decide (i%8=1)&&!bt (cJ x 4) (i-1)))=vh x i;rw [s i b,s (i-1) al];by_cases a:i%8=1;·have c:(i-1)%8=0:=al;unfold vh;rw [c,a,Ee];cases bt x i<;>cases bt 159 1<;>cases bt x (i-1)<;>simp
 ·unfold vh;simp only [a,decide_false,Bool.false_and,Bool.not_false,Bool.and_true];cases bt x i<;>cases bt 159 (i%8)<;>rfl
theorem wA (x:Int) (h:U x):aX 16 (cJ x 4)=cJ x 4:=by
 rw [yb _ (by rw [cJ];exact aj _ _ _)];intro i b;rw [pN x h i b 4 al];by_cases a:i<32;·rw [Gg x h i a]
 ·simp [a]
theorem Ji:∀ j,j<64->bt 255 j=decide (j<8):=by decide +kernel
theorem Gh (c:Int) (i:Nat) (f:i<64):∀ k,k<=4->bt (gj c k) i=(decide (i<8*k)&&fs c (i/8)):=by
 intro k;induction k with
 | zero=>intro _;rw [gj];have:bt 0 i=false:=by unfold bt;simp
         rw [this];simp
 | succ k d =>
   intro h;rw [gj];by_cases a:i<8*k
   ·have b:i<8*(k+1):=al;have e:¬ 8*k<=i:=al;cases fs c k with
    | true=>rw [if_pos rfl,bZ,d al,mz _ (by constructor<;>decide)];simp [a,e,b]
    | false=>rw [if_neg a5,d al];simp [a,b]
   ·have e:8*k<=i:=al;by_cases b:i<8*(k+1)
    ·have g:i/8=k:=al;rw [g];cases fs c k with
     | true=>rw [if_pos rfl,bZ,d al,mz _ (by constructor<;>decide),Ji _ al];simp [a,e,b,f];omega
     | false=>rw [if_neg a5,d al];simp [a]
    ·cases fs c k with
     | true=>rw [if_pos rfl,bZ,d al,mz _ (by constructor<;>decide),Ji _ al];simp [a,b];omega
     | false=>rw [if_neg a5,d al];simp [a,b]
theorem CO (l:List Int) (h:U (l.getD 16 0)) (p:aX 16 (l.getD 16 0)=l.getD 16 0) (f:Int) (k:U f) (hl:aX 16 f=f):aX 16 (dN l f 4)=dN l f 4:=by
 have e:=λi a=>wu l h f i a 4;rw [yb _ (CM l f k 4)];have q:=(yb _ h).mp p;have r:=(yb _ k).mp hl;have m:=λi a=>Gh (l.getD 16 0) i a 4 al;intro i a;have c:=q i a;have d:=r i a;unfold vh at c d ⊢;by_cases o:i%8=1
 ·have n:(i-1)/8=i/8:=al;have s:=m i a;have b:=m (i-1) al;rw [e i a,e (i-1) al];have g:decide (i-1<8*4)=decide (i<8*4):=by
   by_cases j:i<8*4;·simp [j];omega
   ·simp [j];omega
  rw [n,g,<- s] at b;rw [b];cases bt (gj (l.getD 16 0) 4) i with
  | true=>rw [if_pos rfl,if_pos rfl];exact c
  | false=>rw [if_neg a5,if_neg a5];exact d
 ·rw [e i a];simp only [o,decide_false,Bool.false_and,Bool.not_false,Bool.and_true] at c d ⊢;cases bt (gj (l.getD 16 0) 4) i with
  | true=>rw [if_pos rfl];exact c
  | false=>rw [if_neg a5];exact d
theorem CR (x:Int) (h:U x) (k:Nat) (hk:k<22):aX k (aX k x)=aX k x:=by
 have:k=0\/k=1\/k=2\/k=3\/k=4\/k=5\/k=6\/k=7\/k=8\/k=9\/k=10\/k=11\/k=12\/k=13\/k=14\/k=15\/k=16\/k=17\/k=18\/k=19\/k=20\/k=21:=al
 rcases this with rfl|rfl|rfl|rfl|rfl|rfl|rfl|rfl|rfl|rfl|rfl|rfl|rfl|rfl|rfl|rfl|rfl|rfl|rfl|rfl|rfl|rfl;·exact Jh x h
 ·exact iW x 46079
 ·exact iW x 546
 ·exact iW x 2730
 ·exact kV x 2
 ·rfl
 ·exact kV x 3
 ·exact iW x 9223372036854775823
 ·rfl
 ·rfl
 ·exact kV x 2
 ·rfl
 ·exact kV x 3
 ·exact iW x 9223372036854775823
 ·rfl
 ·rfl
 ·exact wA x h
 ·exact iW x 18014398509481983
 ·exact iW x 18014398509481983
 ·exact iW x 18014398509481983
 ·exact iW x 18014398509481983
 ·rfl
theorem Gi (l:List Int):∀ n k,(∀ j,k<=j->j<k+n->eZ j (l.getD j 0)=true)->eO l n k=true:=by
 intro n;induction n with
 | zero=>intro k _;rfl
 | succ n a =>intro k h;rw [eO,Bool.and_eq_true];exact ⟨h k al al,a (k+1) λj b c=>h j al al⟩
theorem Jj (l:List Int) (h:∀ j,j<22->eZ j (l.getD j 0)=true):bf 22 l=true:=by simp only [bf,Bool.and_eq_true,decide_eq_true_eq];exact ⟨trivial,Gi l 22 0 λj _ a=>h j al⟩
theorem qA (l:List Int) (k:Nat) (v:Int) (hk:k<l.length):(l.set k v).getD k 0=v:=by simp [List.getD,hk]
theorem js (l:List Int) (k j:Nat) (v:Int) (a:k≠j):(l.set k v).getD j 0=l.getD j 0:=by simp [List.getD,a]
theorem cC (l:List Int) (hz:l.length=22) (a:bf 22 l=true) (k:Nat) (hk:k<22) (v:Int) (h:eZ k v=true):bf 22 (l.set k v)=true:=by
 refine Jj _ λj b=>?_;by_cases e:k=j;·subst e;rw [qA l k v al];exact h
 ·rw [js l k j v e];exact dU a j b
theorem nR (x:Int) (h:U x) (k:Nat) (hk:k<22) (b:k≠9) (a:k≠15):eZ k (aX k x)=true:=by unfold eZ;rw [if_neg b,if_neg a,CR x h k hk];exact beq_self_eq_true _
theorem Ef (y m x:Int) (hy:bits .and .u64 y 2730=y) (hm:∀ i,i<64->bt m i=true->bt 2730 i=true):bits .and .u64 (ig y m x) 2730=ig y m x:=by
 unfold ig;refine bg _ _ (aj _ _ _) (aj _ _ _) λi b=>?_;have d:bt y i=(bt y i&&bt 2730 i):=by conv=>lhs;rw [<- hy,az]
 have c:=hm i b;rw [az,bZ,aA _ _ _ b,az,d];cases a:bt m i with
 | false=>cases bt y i<;>cases bt 2730 i<;>cases bt x i<;>rfl
 | true=>rw [c a];cases bt y i<;>cases bt x i<;>rfl
theorem PK:∀ i,i<64->bt 546 i=true->bt 2730 i=true:=by decide +kernel
theorem QZ:∀ i,i<64->bt 2 i=true->bt 2730 i=true:=by decide +kernel
theorem Gj (l:List Int) (hz:l.length=22) (hl:∀ j,U (l.getD j 0)) (a:bf 22 l=true) (k:Nat) (hk:k<22) (x:Int) (hx:U x):bf 22 (fx l k x)=true:=by
 have f:bits .and .u64 (l.getD 9 0) 2730=l.getD 9 0:=eq_of_beq (dU a 9 al);have e:aX 16 (l.getD 16 0)=l.getD 16 0:=eq_of_beq (dU a 16 al);unfold fx;by_cases d:k=9;·subst d;rw [if_pos (show (((9:Nat):Int)=9) from rfl)];refine cC l hz a 9 al _ ?_;show (bits .and .u64 (ig (l.getD 9 0) 546 x) 2730==ig (l.getD 9 0) 546 x)=true;rw [Ef _ _ _ f PK];exact beq_self_eq_true _
 ·rw [if_neg al];by_cases b:k=15
  ·subst b;rw [if_pos (show (((15:Nat):Int)=15) from rfl)];cases g:((x/1152921504606846976==0)||(x/1152921504606846976==8)) with
   | true=>rw [if_pos rfl];exact cC l hz a 15 al _ g
   | false=>rw [if_neg a5];exact a
  ·rw [if_neg al];by_cases c:k=16;·subst c;rw [if_pos (show (((16:Nat):Int)=16) from rfl)];refine cC l hz a 16 al _ ?_;show (aX 16 (dN l (aX 16 x) 4)==dN l (aX 16 x) 4)=true;rw [CO l (hl 16) e (aX 16 x) (by show U (cJ x 4);rw [cJ];exact aj _ _ _) (wA x hx)];exact beq_self_eq_true _
   ·rw [if_neg al];split
    ·split;·exact a
     ·rw [Int.toNat_natCast];exact cC l hz a k hk _ (nR x hx k hk d b)
    ·rw [Int.toNat_natCast];exact cC l hz a k hk _ (nR x hx k hk d b)
inductive Qr (n:Int):Prop where
 | fixed (h:n=769\/n=3860)
 | st (h:n=256)
 | ie (h:n=260)
 | ip (h:n=324)
 | own (k:Nat) (hk:k<22) (hw:∀ l x,bJ l n x=fx l k x) (hr:∀ l,cZ l n=l.getD k 0) (hp:cE n=k)
theorem Oo (n:Int) (h:cS n=true):Qr n:=by
 rcases jI n h with rfl|rfl|a;·exact .fixed (.inr rfl)
 ·exact .fixed (.inl rfl)
 ·rcases jr n a with rfl | rfl | rfl | rfl | rfl | rfl | rfl | rfl | rfl | rfl | rfl | rfl | rfl | rfl | rfl | rfl | rfl | rfl | rfl | rfl | rfl | rfl | rfl | rfl | rfl;·exact .own 0 al (λ_ _=>rfl) (λ_=>rfl) rfl
  ·exact .own 1 al (λ_ _=>rfl) (λ_=>rfl) rfl
  ·exact .own 2 al (λ_ _=>rfl) (λ_=>rfl) rfl
  ·exact .own 3 al (λ_ _=>rfl) (λ_=>rfl) rfl
  ·exact .own 4 al (λ_ _=>rfl) (λ_=>rfl) rfl
  ·exact .own 5 al (λ_ _=>rfl) (λ_=>rfl) rfl
  ·exact .own 6 al (λ_ _=>rfl) (λ_=>rfl) rfl
  ·exact .own 7 al (λ_ _=>rfl) (λ_=>rfl) rfl
  ·exact .own 8 al (λ_ _=>rfl) (λ_=>rfl) rfl
  ·exact .own 9 al (λ_ _=>rfl) (λ_=>rfl) rfl
  ·exact .own 10 al (λ_ _=>rfl) (λ_=>rfl) rfl
  ·exact .own 11 al (λ_ _=>rfl) (λ_=>rfl) rfl
  ·exact .own 12 al (λ_ _=>rfl) (λ_=>rfl) rfl
  ·exact .own 13 al (λ_ _=>rfl) (λ_=>rfl) rfl
  ·exact .own 14 al (λ_ _=>rfl) (λ_=>rfl) rfl
  ·exact .own 15 al (λ_ _=>rfl) (λ_=>rfl) rfl
  ·exact .own 16 al (λ_ _=>rfl) (λ_=>rfl) rfl
  ·exact .own 17 al (λ_ _=>rfl) (λ_=>rfl) rfl
  ·exact .own 18 al (λ_ _=>rfl) (λ_=>rfl) rfl
  ·exact .own 19 al (λ_ _=>rfl) (λ_=>rfl) rfl
  ·exact .own 20 al (λ_ _=>rfl) (λ_=>rfl) rfl
  ·exact .own 21 al (λ_ _=>rfl) (λ_=>rfl) rfl
  ·exact .st rfl
  ·exact .ie rfl
  ·exact .ip rfl
theorem rD (l:List Int) (hz:l.length=22) (hl:∀ j,U (l.getD j 0)) (a:bf 22 l=true) (n x:Int) (hx:U x) (h:cS n=true):bf 22 (bJ l n x)=true:=by
 have d:mst (l.getD 0 0)=l.getD 0 0:=eq_of_beq (dU a 0 al);have e:bits .and .u64 (l.getD 9 0) 2730=l.getD 9 0:=eq_of_beq (dU a 9 al);cases Oo n h with
 | fixed b=>unfold bJ;rw [if_pos b];exact a
 | st b =>subst b;show bf 22 (l.set 0 (ig (l.getD 0 0) 786722 x))=true;refine cC l hz a 0 al _ ?_;show (mst (ig (l.getD 0 0) 786722 x)==ig (l.getD 0 0) 786722 x)=true;rw [LW _ _ (hl 0) d];exact beq_self_eq_true _
 | ie b =>subst b;show bf 22 (l.set 3 (aX 3 (ig (l.getD 3 0) (l.getD 2 0) x)))=true;exact cC l hz a 3 al _ (nR _ (aj _ _ _) 3 al al al)
 | ip b =>subst b;show bf 22 (l.set 9 (ig (l.getD 9 0) (bits .and .u64 (l.getD 2 0) 2) x))=true;refine cC l hz a 9 al _ ?_;show (bits .and .u64 (ig (l.getD 9 0) (bits .and .u64 (l.getD 2 0) 2) x) 2730==ig (l.getD 9 0) (bits .and .u64 (l.getD 2 0) 2) x)=true;rw [Ef _ _ _ e (λi f c=>by rw [az,Bool.and_eq_true] at c;exact QZ i f c.2)];exact beq_self_eq_true _
 | own k g m p o=>rw [m];exact Gj l hz hl a k g x hx
theorem iX (l:List Int) (hl:∀ j,U (l.getD j 0)) (k:Nat) (v:Int) (hv:U v) (j:Nat):U ((l.set k v).getD j 0):=by
 by_cases e:k=j
 ·subst e;by_cases a:k<l.length;·rw [qA l k v a];exact hv
  ·rw [List.set_eq_of_length_le al];exact hl k
 ·rw [js l k j v e];exact hl j
theorem Eg (p x:Int) (h:U x):U (aX p x):=by
 unfold aX;split;·exact Nt x
 ·split;·exact aj _ _ _
  ·split;·exact aj _ _ _
   ·split;·exact aj _ _ _
    ·split;·exact aj _ _ _
     ·split;·exact aj _ _ _
      ·split;·exact aj _ _ _
       ·split;·rw [cJ];exact aj _ _ _
        ·split;·exact aj _ _ _
         ·exact h
theorem Eh (l:List Int) (hl:∀ j,U (l.getD j 0)) (n x:Int) (hx:U x) (j:Nat):U ((bJ l n x).getD j 0):=by
 unfold bJ;split;·exact hl j
 ·split;·exact iX l hl _ _ (aj _ _ _) j
  ·split;·exact iX l hl _ _ (Eg _ _ (aj _ _ _)) j
   ·split;·exact iX l hl _ _ (aj _ _ _) j
    ·unfold fx;split;·exact iX l hl _ _ (aj _ _ _) j
     ·split
      ·split;·exact iX l hl _ _ hx j
       ·exact hl j
      ·split;·exact iX l hl _ _ (CM l _ (Eg _ _ hx) 4) j
       ·split
        ·split;·exact hl j
         ·exact iX l hl _ _ (Eg _ _ hx) j
        ·exact iX l hl _ _ (Eg _ _ hx) j
theorem LX {l:List Int} (hl:∀ j,U (l.getD j 0)) (b:bf 22 l=true) (j:Nat) (k:17<=j) (i:j<=20):0<=l.getD j 0/\l.getD j 0<18014398509481984:=by
 have h:=dU b j al;have c:=hl j;have e:bits .and .u64 (l.getD j 0) 18014398509481983=l.getD j 0:=by have a:j=17\/j=18\/j=19\/j=20:=al;have d:(bits .and .u64 (l.getD j 0) 18014398509481983==l.getD j 0)=true:=(by rcases a with rfl|rfl|rfl|rfl<;>exact h);simpa using d
 have f:=cj (l.getD j 0) 54 c.1 c.2 al;have g:(2:Int)^54-1=18014398509481983:=a5
 rw [g,e] at f;have p54:(2:Int)^54=18014398509481984:=a5
 rw [p54] at f;refine ⟨c.1,?_⟩;have:=Int.emod_lt_of_pos (l.getD j 0) (show (0:Int)<18014398509481984 by omega);omega
theorem Jk (a:Int):∀ n k,ey a n k<=n+k:=by
 intro n;induction n with
 | zero=>intro k;show k<=0+k;omega
 | succ n b =>
   intro k;unfold ey;split;·have:=b (k+1);omega
   ·omega
theorem Ei (m:Nat) (hm:m<=54) (i:Nat) (a:i<64):bt (Uz.wrap (Uz.wrap (2^m)-1)) i=decide (i<m):=by
 have k:∀ m,m<=54->∀ i,i<64->bt (Uz.wrap (Uz.wrap (2^m)-1)) i=decide (i<m):=a8
 exact k m hm i a
theorem CS (a:Int) (h:U a) (m:Nat) (hm:m<=54):bits .andNot .u64 a (Uz.wrap (Uz.wrap (2^m)-1))=a/2^m*2^m:=by
 have k:(0:Int)<2^m:=Int.pow_pos al;have f:=kT a h m;have g:a/2^m*2^m<=a:=Int.ediv_mul_le _ al;have c:0<=a/2^m*2^m:=Int.mul_nonneg f.1 al;have j:Uz.wrap (a/2^m*2^m)=a/2^m*2^m:=by have:=h.2;rw [IntKind.wrap_u64];exact Int.emod_eq_of_lt c al
 refine bg _ _ (aj _ _ _) ⟨c,by have:=h.2;omega⟩ λi e=>?_;rw [aA _ _ _ e,Ei m hm i e,<- j,mz _ f,iT a h];by_cases b:m<=i;·have d:decide (i<m)=false:=decide_eq_false al;rw [d,decide_eq_true b,decide_eq_true e,Nat.sub_add_cancel b];simp
 ·have d:decide (i<m)=true:=decide_eq_true al;rw [d,decide_eq_false b];simp
theorem Gk {w w':World} {o:Obj} (h:(w.alloc o).grownBy w' (Value.slice (some ⟨w.heap.size,0,none⟩) 0 0).ownBlock):Bw w w':=by
 refine Below.grown (bal _ _) h ?_ ?_;·simp
 ·intro k a;simp [Value.ownBlock] at a;omega
end Go.Proofs.YtjifdmoehfbihaaGreatDoor
