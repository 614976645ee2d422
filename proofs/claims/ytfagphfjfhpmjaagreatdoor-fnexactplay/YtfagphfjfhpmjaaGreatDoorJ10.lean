/- Own lemmas. -/
import Derived.Test.YtfagphfjfhpmjaaGreatDoorAuj
import Derived.Test.YtfagphfjfhpmjaaGreatDoorJ09
namespace Go.Proofs.YtfagphfjfhpmjaaGreatDoor
open Go.RowKit Tryz
open IntKind renaming u64->Uz
set_option linter.unusedVariables false
variable {l:List Int} {x:World} {n:MV} (e:List Int) (k m:Int) (y p:Nat) (a:List Int) (c s w:Int) (f:Nat)
theorem kp (h:df k=true):k=3860\/k=769\/k ∈ nums:=by
 by_cases a:k ∈ nums;·exact .inr (.inr a)
 ·simp only [df,su k a,Bool.or_eq_true,beq_iff_eq,decide_eq_true_eq] at h;omega
theorem Kc (h:df k=true):nh k m=(bN m&&decide ((wrap64 (k.tdiv 256)).tmod 4<=m)):=by
 have e:bits .and .i64 (k/256) 3=(wrap64 (k.tdiv 256)).tmod 4:=by
  rcases kp k h with rfl|rfl|a;·decide +kernel
  ·decide +kernel
  ·rcases jS k a with rfl|rfl|rfl|rfl|rfl|rfl|rfl|rfl|rfl|rfl|rfl|rfl|rfl|rfl|rfl|rfl|rfl|rfl|rfl|rfl|rfl|rfl|rfl|rfl|rfl<;>decide +kernel
 unfold nh;rw [e]
theorem Nw (h:df k=true):sn k=((wrap64 (k.tdiv 1024)).tmod 4==3):=by
 have e:bits .and .i64 (k/1024) 3=(wrap64 (k.tdiv 1024)).tmod 4:=by
  rcases kp k h with rfl|rfl|a;·decide +kernel
  ·decide +kernel
  ·rcases jS k a with rfl|rfl|rfl|rfl|rfl|rfl|rfl|rfl|rfl|rfl|rfl|rfl|rfl|rfl|rfl|rfl|rfl|rfl|rfl|rfl|rfl|rfl|rfl|rfl|rfl<;>decide +kernel
 unfold sn;rw [e]
theorem uW (l:List Int) (hl:∀ j,U (l.getD j 0)) (n p:Int):rp y l n p=jt y l n p:=by
 unfold rp jt DK;rw [xy y l hl,Bi];cases a:df n with
 | false=>simp
 | true =>rw [Kc n p a];cases br y l<;>cases bN p<;>simp
theorem dc (hl:∀ j,U (e.getD j 0)) (n:Int) (k:Nat) (a:cO n (e.getD 2 0) 22 0=⟨k,n,18446744073709551615,18446744073709551615,true⟩) (hr:dj e n=e.getD k 0): (if (cO n (e.getD 2 0) 22 0).ok=true then bits .and .u64 (e.getD (cO n (e.getD 2 0) 22 0).at_.toNat 0) (cO n (e.getD 2 0) 22 0).rd else wz n)=dj e n:=by rw [a,hr];show bits .and .u64 (e.getD ((k:Int)).toNat 0) 18446744073709551615=_;rw [Int.toNat_natCast,oT _ (hl k)]
theorem Nx (hl:∀ j,U (e.getD j 0)) (n:Int) (h:df n=true): (if (cO n (e.getD 2 0) 22 0).ok=true then bits .and .u64 (e.getD (cO n (e.getD 2 0) 22 0).at_.toNat 0) (cO n (e.getD 2 0) 22 0).rd else wz n)=dj e n:=by
 rcases kp n h with rfl|rfl|a;·rw [lz 3860 _ a6 22 0 ab];rfl
 ·rw [lz 769 _ a6 22 0 ab];rfl
 ·rcases jS n a with rfl|rfl|rfl|rfl|rfl|rfl|rfl|rfl|rfl|rfl|rfl|rfl|rfl|rfl|rfl|rfl|rfl|rfl|rfl|rfl|rfl|rfl|rfl|rfl|rfl;·exact dc e hl 768 0 rfl rfl
  ·exact dc e hl 770 1 rfl rfl
  ·exact dc e hl 771 2 rfl rfl
  ·exact dc e hl 772 3 rfl rfl
  ·exact dc e hl 773 4 rfl rfl
  ·exact dc e hl 832 5 rfl rfl
  ·exact dc e hl 833 6 rfl rfl
  ·exact dc e hl 834 7 rfl rfl
  ·exact dc e hl 835 8 rfl rfl
  ·exact dc e hl 836 9 rfl rfl
  ·exact dc e hl 261 10 rfl rfl
  ·exact dc e hl 320 11 rfl rfl
  ·exact dc e hl 321 12 rfl rfl
  ·exact dc e hl 322 13 rfl rfl
  ·exact dc e hl 323 14 rfl rfl
  ·exact dc e hl 384 15 rfl rfl
  ·exact dc e hl 928 16 rfl rfl
  ·exact dc e hl 944 17 rfl rfl
  ·exact dc e hl 945 18 rfl rfl
  ·exact dc e hl 946 19 rfl rfl
  ·exact dc e hl 947 20 rfl rfl
  ·exact dc e hl 2818 21 rfl rfl
  ·rfl
  ·rfl
  ·rfl
theorem Kd (hl:∀ j,U (a.getD j 0)) (n p:Int):uS y a n p=(if jt y a n p=true then dj a n else 0):=by
 have l:=uW y a hl n p;unfold rp at l;rw [Bi] at l;cases b:df n with
 | false =>have d:jt y a n p=false:=(by unfold jt;rw [b];cases br y a<;>rfl);rw [d,if_neg a6];unfold uS;have c:=Bi n (a.getD 2 0);rw [b,Bool.or_eq_false_iff] at c;rw [c.1];have e:wz n=0:=(by have:=c.2;simp only [uR,Bool.or_eq_false_iff,beq_eq_false_iff_ne] at this;unfold wz;rw [if_neg this.1]);rw [e];cases DK y a n p<;>rfl
 | true =>rw [b,Bool.and_true] at l;unfold uS;rw [l,Nx a hl n b]
theorem za (h:U m):bits .or .u64 (bits .andNot .u64 k 18446744073709551615) (bits .and .u64 m 18446744073709551615)=m :=
 bu _ _ (aj _ _ _) h λi a=>by rw [cg,aA _ _ _ a,az,yR i a];cases bt k i<;>cases bt m i<;>rfl
theorem Fq (h:U k):bits .or .u64 (bits .andNot .u64 k 0) (bits .and .u64 m 0)=k :=
 bu _ _ (aj _ _ _) h λi b=>by
  have a:bt 0 i=false:=by unfold bt;simp
  rw [cg,aA _ _ _ b,az,a];cases bt k i<;>cases bt m i<;>rfl
theorem xA:bits .andNot .u64 18446744073709551615 0=18446744073709551615:=by decide +kernel
theorem sB:bits .andNot .u64 18446744073709551615 18446744073709551615=0:=by decide +kernel
theorem Rt (k:CK) (x:Int) (h:U x):U (ik k x):=by
 cases k with
 | plain b=>exact aj .and x b
 | mst =>
   show U (if (bits .and .u64 x 6144==4096)=true then bits .andNot .u64 (bits .and .u64 x 924074) 6144 else bits .and .u64 x 924074);split;·exact aj _ _ _
   ·exact aj _ _ _
 | mie=>exact aj .and x 2730
 | mip=>exact aj .and x 2730
 | satp =>
   show U (if iz x=true then x else 0);split;·exact h
   ·constructor<;>decide
 | cfg=>rw [show ik .cfg x=pK x 4 from rfl,pK];exact aj _ _ _
 | addr e=>exact aj .and x 18014398509481983
theorem H7 (hk:(fY y).2.holds=false) (x:Int) (h:U x):kH e y 18446744073709551615 x=ik (fY y).2 x:=by unfold kH ly;rw [hk,if_neg a6];exact za _ _ (Rt _ x h)
theorem mK (hk:y<e.length):e.set y (e.getD y 0)=e:=by
 have l:e.getD y 0=e[y]:=by simp [List.getD,List.getElem?_eq_getElem hk]
 rw [l,List.set_getElem_self]
theorem PV:∀ i,i<64->∀ y x:Bool,(((y&&bt 2730 i)&&!(bt 18446744073709551615 i&&!bt 2184 i))||((x&&bt 2730 i)&&(bt 18446744073709551615 i&&!bt 2184 i)))=(((y&&bt 2730 i)&&!bt 546 i)||(x&&bt 546 i)):=by decide +kernel
theorem Ke (hy:bits .and .u64 k 2730=k): bits .or .u64 (bits .andNot .u64 k (bits .andNot .u64 18446744073709551615 2184)) (bits .and .u64 (bits .and .u64 m 2730) (bits .andNot .u64 18446744073709551615 2184))=iQ k 546 m:=by
 unfold iQ;refine bu _ _ (aj _ _ _) (aj _ _ _) λi a=>?_;have b:bt k i=(bt k i&&bt 2730 i):=by conv=>lhs;rw [<- hy,az]
 rw [cg,aA _ _ _ a,az,az,aA _ _ _ a,cg,aA _ _ _ a,az,b];exact PV i a _ _
theorem Kf:∀ i,i<64->∀ x:Bool,((x&&bt 924074 i)&&bt 786722 i)=(x&&bt 786722 i)/\(((x&&bt 924074 i)&&!bt 6144 i)&&bt 786722 i)=(x&&bt 786722 i):=by decide +kernel
theorem Kg:bits .or .u64 (bits .andNot .u64 k 786722) (bits .and .u64 (ik .mst m) 786722)=iQ k 786722 m:=by
 unfold iQ;refine bu _ _ (aj _ _ _) (aj _ _ _) λi a=>?_;have b:bt (bits .and .u64 (ik .mst m) 786722) i=bt (bits .and .u64 m 786722) i:=by
  show bt (bits .and .u64 (if (bits .and .u64 m 6144==4096)=true then bits .andNot .u64 (bits .and .u64 m 924074) 6144 else bits .and .u64 m 924074) 786722) i=_;split;·rw [az,aA _ _ _ a,az,az];exact (Kf i a _).2
  ·rw [az,az,az];exact (Kf i a _).1
 rw [cg,b,cg]
theorem Kh (hy:bits .and .u64 k 2730=k):bits .or .u64 (bits .andNot .u64 k m) (bits .and .u64 (bits .and .u64 c 2730) m)=bn 3 (iQ k m c):=by
 show _=bits .and .u64 (bits .or .u64 (bits .andNot .u64 k m) (bits .and .u64 c m)) 2730;refine bu _ _ (aj _ _ _) (aj _ _ _) λi a=>?_;have b:bt k i=(bt k i&&bt 2730 i):=by conv=>lhs;rw [<- hy,az]
 rw [cg,aA _ _ _ a,az,az,az,cg,aA _ _ _ a,az,b];cases bt k i<;>cases bt m i<;>cases bt c i<;>cases bt 2730 i<;>rfl
theorem PW:∀ i,i<64->∀ y m x:Bool,((y&&!((m&&bt 2 i)&&!bt 2184 i))||((x&&bt 2730 i)&&((m&&bt 2 i)&&!bt 2184 i)))=((y&&!(m&&bt 2 i))||(x&&(m&&bt 2 i))):=by decide +kernel
theorem Ki:bits .or .u64 (bits .andNot .u64 k (bits .andNot .u64 (bits .and .u64 m 2) 2184)) (bits .and .u64 (bits .and .u64 c 2730) (bits .andNot .u64 (bits .and .u64 m 2) 2184))=iQ k (bits .and .u64 m 2) c:=by unfold iQ;refine bu _ _ (aj _ _ _) (aj _ _ _) λi a=>?_;rw [cg,aA _ _ _ a,az,az,aA _ _ _ a,az,cg,aA _ _ _ a,az,az,az];exact PW i a _ _ _
theorem DT (h:U (e.getD 16 0)) (k:Nat):dK e k=cQ (e.getD 16 0) (8*k) 8:=iC _ (8*k) 8 h.1 h.2 ab
theorem Ru:∀ z:Nat,z<256->(bits .and .u64 (z:Int) 128 != 0)=((z:Int)/128==1):=by decide +kernel
theorem tF (h:U (e.getD 16 0)) (k:Nat):fN (e.getD 16 0) k=(dK e k/128==1):=by
 rw [DT e h]
 unfold fN
 have a:=kv (e.getD 16 0) (8*k) 8
 obtain ⟨z,b⟩:=Int.eq_ofNat_of_zero_le a.1
 rw [b] at a ⊢
 exact Ru z (by have:((2:Int)^8)=256:=by decide
                omega)
theorem DU (h:U k):∀ y,U (dR e k y):=by
 intro y;induction y with
 | zero=>exact h
 | succ y a =>
   rw [dR];split;·exact aj _ _ _
   ·exact a
theorem xB (h:U (e.getD 16 0)) (y:Int) (i:Nat) (c:i<64):∀ k,bt (dR e y k) i=if bt (gQ (e.getD 16 0) k) i=true then bt (e.getD 16 0) i else bt y i:=by
 intro k;induction k with
 | zero =>
   have b:bt 0 i=false:=(by unfold bt;simp);show bt y i=if bt 0 i=true then _ else _
   rw [b,if_neg a6]
 | succ k a =>
   rw [dR,gQ,tF e h];cases (dK e k/128==1) with
   | false=>exact a
   | true =>rw [if_pos rfl,if_pos rfl,cg,aA _ _ _ c,az,cg,a];cases bt (Uz.wrap (255*2^(8*k))) i<;>cases bt (gQ (e.getD 16 0) k) i<;>cases bt (e.getD 16 0) i<;>cases bt y i<;>rfl
theorem Kj (h:U (e.getD 16 0)) (f:Int) (b:U f): bits .or .u64 (bits .andNot .u64 (e.getD 16 0) (bits .andNot .u64 18446744073709551615 (gQ (e.getD 16 0) 4))) (bits .and .u64 f (bits .andNot .u64 18446744073709551615 (gQ (e.getD 16 0) 4)))=dR e f 4:=by refine bu _ _ (aj _ _ _) (DU e f b 4) λi a=>?_;rw [xB e h f i a,cg,aA _ _ _ a,az,aA _ _ _ a,yR i a];cases bt (gQ (e.getD 16 0) 4) i<;>cases bt (e.getD 16 0) i<;>cases bt f i<;>rfl
theorem Fs:∀ i,i<64->8<=i->bt 159 i=false:=by decide +kernel
theorem Ft (b:8<=p):bt (js k y) p=false:=by
 by_cases a:p<64
 ·unfold js;split;·rw [aA _ _ _ a,az,Fs p a b,Bool.and_false,Bool.false_and]
  ·rw [az,Fs p a b,Bool.and_false]
 ·exact tD _ _ ab
theorem Kk:U (js k y):=by unfold js;split<;>exact aj _ _ _
theorem Kl (b:32<=y):∀ x,x<=4->bt (cI k x) y=false:=by
 intro x;induction x with
 | zero=>intro _;unfold bt;simp [cI]
 | succ x a =>intro c;rw [cI,cg,a ab,m0 _ (Kk k x),Ft k x _ ab,Bool.and_false,Bool.or_false]
theorem Km (b:U k) (h:bn 16 k=k):fN k 4=false:=by
 have a:cI k 4=k:=h;have e:cQ k (8*4) 8=0:=by
  refine bu _ _ (rZ _ _ _ ab) (by constructor<;>decide) λi d=>?_;rw [lj k b _ _ _ ab];have:bt k (i+8*4)=false:=by rw [<- a];exact Kl k _ ab 4 ab
  rw [this,Bool.and_false];unfold bt;simp
 unfold fN;rw [e];decide +kernel
theorem xC (h:U (e.getD 16 0)) (k:Nat) (hk:k<4):iN (e.getD 16 0) k=bits .and .u64 (dK e k/8) 3:=by rw [DT e h];have a:=cn (cQ (e.getD 16 0) (8*k) 8/8) 2 (by have:=(kv (e.getD 16 0) (8*k) 8).1;omega) (by have b:=rZ (e.getD 16 0) (8*k) 8 ab;have c:=b.1;have d:=b.2;omega) ab;rw [show ((2:Int)^2-1)=3 from a6,show ((2:Int)^2)=4 from a6] at a;rw [a];unfold iN cQ;rw [Int.pow_add,show ((2:Int)^3)=8 from a6,show ((2:Int)^2)=4 from a6,show ((2:Int)^8)=256 from a6,<- Int.ediv_ediv_of_nonneg (Int.le_of_lt (Int.pow_pos ab))];generalize e.getD 16 0/2^(8*k)=z;omega
theorem DW (h:U (e.getD 16 0)) (b:bn 16 (e.getD 16 0)=e.getD 16 0) (l:Nat) (he:l<4): (fN (e.getD 16 0) l||(fN (e.getD 16 0) (l+1)&&(iN (e.getD 16 0) (l+1)==1)))=fw e l:=by
 unfold fw;by_cases a:l<3;·rw [tF e h,tF e h,xC e h _ ab,show decide (l<3)=true from qh,Bool.true_and]
 ·have:l=3:=by omega
  subst this;rw [Km _ h b,tF e h];simp
theorem oV (h:U (e.getD 16 0)) (a:bn 16 (e.getD 16 0)=e.getD 16 0) (k l:Nat) (he:l<4) (hk:(fY k).2=.addr l) (hy:U (e.getD k 0)) (x:Int) (hx:U x): kH e k 18446744073709551615 x=if fw e l=true then e.getD k 0 else bits .and .u64 x 18014398509481983:=by
 unfold kH ly;rw [hk];show bits .or .u64 (bits .andNot .u64 (e.getD k 0) (bits .andNot .u64 18446744073709551615 (if (fN (e.getD 16 0) l||(fN (e.getD 16 0) (l+1)&&(iN (e.getD 16 0) (l+1)==1)))=true then 18446744073709551615 else 0)))
  (bits .and .u64 (bits .and .u64 x 18014398509481983) (bits .andNot .u64 18446744073709551615 (if (fN (e.getD 16 0) l||(fN (e.getD 16 0) (l+1)&&(iN (e.getD 16 0) (l+1)==1)))=true then 18446744073709551615 else 0)))=_
 rw [DW e h a l he];cases fw e l with
 | true=>rw [if_pos rfl,if_pos rfl,sB];exact Fq _ _ hy
 | false=>rw [if_neg a6,if_neg a6,xA];exact za _ _ (aj _ _ _)
theorem H9 (hy:U (e.getD 15 0)) (x:Int) (hx:U x):kH e 15 18446744073709551615 x=if iz x=true then x else e.getD 15 0:=by
 unfold kH ly;show bits .or .u64 (bits .andNot .u64 (e.getD 15 0) (bits .andNot .u64 18446744073709551615 (if iz x=true then 0 else 18446744073709551615)))
  (bits .and .u64 (if iz x=true then x else 0) (bits .andNot .u64 18446744073709551615 (if iz x=true then 0 else 18446744073709551615)))=_
 cases iz x with
 | true=>rw [if_pos rfl,if_pos rfl,if_pos rfl,xA];exact za _ _ hx
 | false=>rw [if_neg a6,if_neg a6,if_neg a6,sB];exact Fq _ _ hy
theorem Ia:∀ n k,fs e n k=true->∀ j,k<=j->j<k+n->fy j (e.getD j 0)=true:=by
 intro n;induction n with
 | zero=>intro k _ j a b;omega
 | succ n d =>
   intro k h j a b;rw [fs,Bool.and_eq_true] at h;by_cases c:j=k;·subst c;exact h.1
   ·exact d (k+1) h.2 j ab ab
theorem dX {m:Nat} (h:br m l=true) (j:Nat) (a:j<22):fy j (l.getD j 0)=true:=by simp only [br,Bool.and_eq_true,decide_eq_true_eq] at h;exact Ia l 22 0 h.2 j ab ab
theorem jo (a:cO k (e.getD 2 0) 22 0=⟨y,k,18446744073709551615,18446744073709551615,true⟩) (b:bM e k m=fS e y m) (h:e.set y (kH e y 18446744073709551615 m)=fS e y m):nj e k m=bM e k m:=by unfold nj;rw [a,b];show e.set ((y:Int)).toNat (kH e ((y:Int)).toNat 18446744073709551615 m)=_;rw [Int.toNat_natCast];exact h
theorem dE (hx:U m) (n:Nat) (hk:n<22) (b:n≠9) (a:n≠15) (d:(fY n).2.holds=false) (c:cO k (e.getD 2 0) 22 0=⟨n,k,18446744073709551615,18446744073709551615,true⟩) (f:bM e k m=fS e n m) (l:fS e n m=e.set n (bn n m)):
 nj e k m=bM e k m :=
 jo e k m n c f (by rw [H7 e n d m hx,xx m hx n hk b a,l])
theorem Kn (hz:e.length=22) (hl:∀ j,U (e.getD j 0)) (b:br 22 e=true) (n x:Int) (hx:U x) (h:df n=true):nj e n x=bM e n x:=by
 have l:bits .and .u64 (e.getD 9 0) 2730=e.getD 9 0:=by have:=dX b 9 ab;exact eq_of_beq this
 have d:bits .and .u64 (e.getD 3 0) 2730=e.getD 3 0:=by have:=dX b 3 ab;exact eq_of_beq this
 have a:bn 16 (e.getD 16 0)=e.getD 16 0:=by have:=dX b 16 ab;exact eq_of_beq this
 rcases kp n h with rfl|rfl|c;·unfold nj;rw [lz 3860 _ a6 22 0 ab];rfl
 ·unfold nj;rw [lz 769 _ a6 22 0 ab];rfl
 ·rcases jS n c with rfl|rfl|rfl|rfl|rfl|rfl|rfl|rfl|rfl|rfl|rfl|rfl|rfl|rfl|rfl|rfl|rfl|rfl|rfl|rfl|rfl|rfl|rfl|rfl|rfl;·exact dE e 768 x hx 0 ab ab ab rfl rfl rfl rfl
  ·exact dE e 770 x hx 1 ab ab ab rfl rfl rfl rfl
  ·exact dE e 771 x hx 2 ab ab ab rfl rfl rfl rfl
  ·exact dE e 772 x hx 3 ab ab ab rfl rfl rfl rfl
  ·exact dE e 773 x hx 4 ab ab ab rfl rfl rfl rfl
  ·exact dE e 832 x hx 5 ab ab ab rfl rfl rfl rfl
  ·exact dE e 833 x hx 6 ab ab ab rfl rfl rfl rfl
  ·exact dE e 834 x hx 7 ab ab ab rfl rfl rfl rfl
  ·exact dE e 835 x hx 8 ab ab ab rfl rfl rfl rfl
  ·refine jo e 836 x 9 rfl rfl ?_;show e.set 9 (bits .or .u64 (bits .andNot .u64 (e.getD 9 0) (bits .andNot .u64 18446744073709551615 2184)) (bits .and .u64 (bits .and .u64 x 2730) (bits .andNot .u64 18446744073709551615 2184)))=e.set 9 (iQ (e.getD 9 0) 546 x);rw [Ke _ x l]
  ·exact dE e 261 x hx 10 ab ab ab rfl rfl rfl rfl
  ·exact dE e 320 x hx 11 ab ab ab rfl rfl rfl rfl
  ·exact dE e 321 x hx 12 ab ab ab rfl rfl rfl rfl
  ·exact dE e 322 x hx 13 ab ab ab rfl rfl rfl rfl
  ·exact dE e 323 x hx 14 ab ab ab rfl rfl rfl rfl
  ·refine jo e 384 x 15 rfl rfl ?_;rw [H9 e (hl 15) x hx];show _=(if ((x/1152921504606846976==0)||(x/1152921504606846976==8))=true then e.set 15 x else e);rw [<- Fc x hx];cases iz x with
   | true=>rfl
   | false=>rw [if_neg a6,if_neg a6,mK e 15 ab]
  ·refine jo e 928 x 16 rfl rfl ?_;show e.set 16 (bits .or .u64 (bits .andNot .u64 (e.getD 16 0) (bits .andNot .u64 18446744073709551615 (gQ (e.getD 16 0) 4))) (bits .and .u64 (pK x 4) (bits .andNot .u64 18446744073709551615 (gQ (e.getD 16 0) 4))))=e.set 16 (dR e (cI x 4) 4);rw [J2 x hx,Kj e (hl 16) (cI x 4) (by rw [cI];exact aj _ _ _)]
  ·refine jo e 944 x 17 rfl rfl ?_;rw [oV e (hl 16) a 17 0 ab rfl (hl 17) x hx];show _=(if fw e 0=true then e else e.set 17 (bits .and .u64 x 18014398509481983));cases fw e 0 with
   | true=>rw [if_pos rfl,if_pos rfl,mK e 17 ab]
   | false=>rfl
  ·refine jo e 945 x 18 rfl rfl ?_;rw [oV e (hl 16) a 18 1 ab rfl (hl 18) x hx];show _=(if fw e 1=true then e else e.set 18 (bits .and .u64 x 18014398509481983));cases fw e 1 with
   | true=>rw [if_pos rfl,if_pos rfl,mK e 18 ab]
   | false=>rfl
  ·refine jo e 946 x 19 rfl rfl ?_;rw [oV e (hl 16) a 19 2 ab rfl (hl 19) x hx];show _=(if fw e 2=true then e else e.set 19 (bits .and .u64 x 18014398509481983));cases fw e 2 with
   | true=>rw [if_pos rfl,if_pos rfl,mK e 19 ab]
   | false=>rfl
  ·refine jo e 947 x 20 rfl rfl ?_;rw [oV e (hl 16) a 20 3 ab rfl (hl 20) x hx];show _=(if fw e 3=true then e else e.set 20 (bits .and .u64 x 18014398509481983));cases fw e 3 with
   | true=>rw [if_pos rfl,if_pos rfl,mK e 20 ab]
   | false=>rfl
  ·exact dE e 2818 x hx 21 ab ab ab rfl rfl rfl rfl
  ·show e.set 0 (bits .or .u64 (bits .andNot .u64 (e.getD 0 0) 786722) (bits .and .u64 (ik .mst x) 786722))=e.set 0 (iQ (e.getD 0 0) 786722 x);rw [Kg]
  ·show e.set 3 (bits .or .u64 (bits .andNot .u64 (e.getD 3 0) (e.getD 2 0)) (bits .and .u64 (bits .and .u64 x 2730) (e.getD 2 0)))=e.set 3 (bn 3 (iQ (e.getD 3 0) (e.getD 2 0) x));rw [Kh _ _ _ d]
  ·show e.set 9 (bits .or .u64 (bits .andNot .u64 (e.getD 9 0) (bits .andNot .u64 (bits .and .u64 (e.getD 2 0) 2) 2184)) (bits .and .u64 (bits .and .u64 x 2730) (bits .andNot .u64 (bits .and .u64 (e.getD 2 0) 2) 2184)))=e.set 9 (iQ (e.getD 9 0) (bits .and .u64 (e.getD 2 0) 2) x);rw [Ki]
theorem xD (l:List Int) (hl:∀ j,U (l.getD j 0)) (n p:Int):oS y l n p=CI y l n p:=by
 have b:=uW y l hl n p;unfold rp at b;unfold oS CI;cases a:df n with
 | false =>have c:jt y l n p=false:=(by unfold jt;rw [a];cases br y l<;>rfl);rw [c,Bi,a];simp
 | true =>rw [<- b,Nw n a,Bi,a];cases DK y l n p<;>cases ((wrap64 (n.tdiv 1024)).tmod 4==3)<;>rfl
theorem Ib (hz:a.length=y) (hl:∀ j,U (a.getD j 0)) (n p x:Int) (hx:U x):nl y a n p x=CJ y a n p x:=by
 unfold nl CJ;rw [xD y a hl n p];cases c:CI y a n p with
 | false=>rfl
 | true =>rw [if_pos rfl,if_pos rfl];have l:jt y a n p=true:=(by unfold CI at c;rw [Bool.and_eq_true] at c;exact c.1);obtain ⟨rfl,d⟩:=CL l;have b:br 22 a=true:=(by simp only [jt,Bool.and_eq_true] at l;exact l.1.1.1);exact Kn a hz hl b n x hx d
theorem PY:bits .and .u64 k 1=if bt k 0=true then 1 else 0:=by
 have c:∀ i,i<64->∀ (p o:Bool),((if i=0 then p else o)&&bt 1 i)=bt (if p=true then 1 else 0) i:=bb
 refine bu _ _ (aj _ _ _) (by split<;>(constructor<;>decide)) λi d=>?_;rw [az,<- c i d (bt k 0) (bt k i)];by_cases a:i=0;·subst a;rfl
 ·rw [if_neg a]
theorem Ko:(bits .and .u64 k 6144==4096)=(!bt k 11&&bt k 12):=by
 have c:bits .and .u64 k 6144=(if bt k 11=true then 2048 else 0)+(if bt k 12=true then 4096 else 0):=by
  refine bu _ _ (aj _ _ _) (by constructor<;>(cases bt k 11<;>cases bt k 12<;>decide)) λi d=>?_;rw [az,<- OX i d (bt k 11) (bt k 12) (bt k i)];by_cases a:i=11;·subst a;rfl
  ·by_cases b:i=12;·subst b;rfl
   ·rw [if_neg a,if_neg b]
 rw [c];cases bt k 11<;>cases bt k 12<;>rfl
theorem Fu (h:U k):mst k=if (!bt k 11&&bt k 12)=true then bits .andNot .u64 (bits .and .u64 k 924074) 6144 else bits .and .u64 k 924074:=by rw [<- J1 k h,<- Ko];rfl
theorem Q5:bt 924074 11=true/\bt 924074 12=true/\bt 6144 11=true/\bt 6144 12=true/\bt 786722 11=false/\bt 786722 12=false:=by decide +kernel
theorem rv (h:U k):mst k=k↔bits .and .u64 k 924074=k/\(!bt k 11&&bt k 12)=false:=by
 rw [Fu k h];constructor
 ·intro e;cases a:(!bt k 11&&bt k 12) with
  | true =>
    rw [a,if_pos rfl] at e;have:bt k 12=false:=by rw [<- e,aA _ _ _ ab,Q5.2.2.2.1];simp
    rw [this,Bool.and_false] at a;cases a
  | false=>rw [a,if_neg a6] at e;exact ⟨e,rfl⟩
 ·rintro ⟨e,a⟩;rw [a,if_neg a6];exact e
theorem O6:U (mst k):=by unfold mst;split<;>exact aj _ _ _
theorem Kp (h:U k):mst (mst k)=mst k:=by
 rw [rv _ (O6 k)];rw [Fu k h];cases b:(!bt k 11&&bt k 12) with
 | true =>
   rw [if_pos rfl];refine ⟨bu _ _ (aj _ _ _) (aj _ _ _) λi a=>?_,?_⟩;·rw [az,aA _ _ _ a,az];cases bt k i<;>cases bt 924074 i<;>cases bt 6144 i<;>rfl
   ·rw [aA _ _ 12 ab,Q5.2.2.2.1];simp
 | false =>
   rw [if_neg a6];refine ⟨bu _ _ (aj _ _ _) (aj _ _ _) λi a=>?_,?_⟩;·rw [az,az];cases bt k i<;>cases bt 924074 i<;>rfl
   ·rw [az,az,Q5.1,Q5.2.1,Bool.and_true,Bool.and_true];exact b
theorem PZ:∀ i,i<64->∀ a:Bool,((a&&bt 786722 i)&&bt 924074 i)=(a&&bt 786722 i):=by decide +kernel
theorem Ny (hy:U k) (h:mst k=k):mst (iQ k 786722 m)=iQ k 786722 m:=by
 obtain ⟨b,c⟩:=(rv k hy).mp h;unfold iQ;rw [rv _ (aj _ _ _)];refine ⟨bu _ _ (aj _ _ _) (aj _ _ _) λi a=>?_,?_⟩
 ·have d:bt k i=(bt k i&&bt 924074 i):=by conv=>lhs;rw [<- b,az]
  have e:=PZ i a (bt m i);rw [az,cg,aA _ _ _ a,az,d];revert e;cases bt k i<;>cases bt 924074 i<;>cases bt 786722 i<;>cases bt m i<;>decide
 ·rw [cg,cg,aA _ _ 11 ab,aA _ _ 12 ab,az,az,Q5.2.2.2.2.1,Q5.2.2.2.2.2];simpa using c
theorem jy:bits .and .u64 (bits .and .u64 k m) m=bits .and .u64 k m :=
 bu _ _ (aj _ _ _) (aj _ _ _) λi a=>by rw [az,az];cases bt k i<;>cases bt m i<;>rfl
theorem lZ:bits .andNot .u64 (bits .andNot .u64 k m) m=bits .andNot .u64 k m :=
 bu _ _ (aj _ _ _) (aj _ _ _) λi a=>by rw [aA _ _ _ a,aA _ _ _ a];cases bt k i<;>cases bt m i<;>rfl
def wE (x:Int) (i:Nat):Bool:=bt x i&&bt 159 (i%8)&&!(decide (i%8=1)&&!bt x (i-1))
theorem Sx:∀ j,j<64->bt 2 j=decide (j=1):=by decide +kernel
theorem Fv:bt 159 0=true:=by decide +kernel
theorem Ic (h:U k) (x j:Nat) (b:j<64):bt (js k x) j=(bt k (j+8*x)&&bt 159 j&&!(decide (j=1)&&!bt k (8*x))):=by
 unfold js;have a:∀ i,bt (k/2^(8*x)) i=bt k (i+8*x):=λi=>jw k h (8*x) i;generalize k/2^(8*x)=z at *;have c:bt k (8*x)=bt z 0:=by rw [a 0,Nat.zero_add]
 rw [c,<- a j,PY,az,Fv,Bool.and_true];cases d:bt z 0 with
 | true =>rw [if_pos rfl,if_neg a6,az];simp
 | false =>rw [if_neg (show ¬ (false=true) from a6),if_pos (show ((0:Int)==0)=true from rfl),aA _ _ _ b,az,Sx j b];simp
theorem qu (h:U k) (i:Nat) (d:i<64):∀ x,x<=4->bt (cI k x) i=(decide (i<8*x)&&wE k i):=by
 intro x;induction x with
 | zero=>intro _;rw [cI];have:bt 0 i=false:=by unfold bt;simp
         rw [this];simp
 | succ x g =>
   intro j;rw [cI,cg,g ab,m0 _ (Kk k x)];by_cases b:i<8*x;·have c:¬ 8*x<=i:=ab;have a:i<8*(x+1):=ab;simp [b,c,a]
   ·have c:8*x<=i:=ab;by_cases a:i<8*(x+1)
    ·have f:i%8=i-8*x:=ab;rw [Ic k h x _ ab];unfold wE;rw [f,show i-8*x+8*x=i from ab];by_cases e:i-8*x=1;·rw [show i-1=8*x from ab];simp [b,c,a,d]
     ·simp [b,c,a,d,e]
    ·rw [Ft k x _ ab];simp [b,a]
theorem zd (h:U k):bn 16 k=k↔∀ i,i<64->bt k i=(decide (i<32)&&wE k i):=by
 show cI k 4=k↔_;constructor;·intro e i a;have:=qu k h i a 4 ab;rw [e] at this;exact this
 ·intro b;refine bu _ _ (by rw [cI];exact aj _ _ _) h λi a=>?_;rw [qu k h i a 4 ab,b i a]
theorem Ie (h:U k) (i:Nat) (b:i<32):wE (cI k 4) i=wE k i:=by
 have s:∀ j,j<32->bt (cI k 4) j=wE k j:=λj d=>by rw [qu k h j ab 4 ab];simp [show j<8*4 from ab]
 show (bt (cI k 4) i&&bt 159 (i%8)&&!(decide (i%8=1)&&!bt (cI k 4) (i-1)))=wE k i;rw [s i b,s (i-1) ab];by_cases a:i%8=1;·have c:(i-1)%8=0:=ab;unfold wE;rw [c,a,Fv];cases bt k i<;>cases bt 159 1<;>cases bt k (i-1)<;>simp
 ·unfold wE;simp only [a,decide_false,Bool.false_and,Bool.not_false,Bool.and_true];cases bt k i<;>cases bt 159 (i%8)<;>rfl
theorem xE (h:U k):bn 16 (cI k 4)=cI k 4:=by
 rw [zd _ (by rw [cI];exact aj _ _ _)];intro i b;rw [qu k h i b 4 ab];by_cases a:i<32;·rw [Ie k h i a]
 ·simp [a]
theorem Kq:∀ j,j<64->bt 255 j=decide (j<8):=by decide +kernel
theorem If (f:y<64):∀ c,c<=4->bt (gQ k c) y=(decide (y<8*c)&&fN k (y/8)):=by
 intro c;induction c with
 | zero=>intro _;rw [gQ];have:bt 0 y=false:=by unfold bt;simp
         rw [this];simp
 | succ c d =>
   intro h;rw [gQ];by_cases a:y<8*c
   ·have b:y<8*(c+1):=ab;have e:¬ 8*c<=y:=ab;cases fN k c with
    | true=>rw [if_pos rfl,cg,d ab,m0 _ (by constructor<;>decide)];simp [a,e,b]
    | false=>rw [if_neg a6,d ab];simp [a,b]
   ·have e:8*c<=y:=ab;by_cases b:y<8*(c+1)
    ·have g:y/8=c:=ab;rw [g];cases fN k c with
     | true=>rw [if_pos rfl,cg,d ab,m0 _ (by constructor<;>decide),Kq _ ab];simp [a,e,b,f];omega
     | false=>rw [if_neg a6,d ab];simp [a]
    ·cases fN k c with
     | true=>rw [if_pos rfl,cg,d ab,m0 _ (by constructor<;>decide),Kq _ ab];simp [a,b];omega
     | false=>rw [if_neg a6,d ab];simp [a,b]
theorem DX (h:U (e.getD 16 0)) (p:bn 16 (e.getD 16 0)=e.getD 16 0) (f:Int) (k:U f) (hl:bn 16 f=f):bn 16 (dR e f 4)=dR e f 4:=by
 have l:=λi a=>xB e h f i a 4;rw [zd _ (DU e f k 4)];have q:=(zd _ h).mp p;have r:=(zd _ k).mp hl;have m:=λi a=>If (e.getD 16 0) i a 4 ab;intro i a;have c:=q i a;have d:=r i a;unfold wE at c d ⊢;by_cases o:i%8=1
 ·have n:(i-1)/8=i/8:=ab;have s:=m i a;have b:=m (i-1) ab;rw [l i a,l (i-1) ab];have g:decide (i-1<8*4)=decide (i<8*4):=by
   by_cases j:i<8*4;·simp [j];omega
   ·simp [j];omega
  rw [n,g,<- s] at b;rw [b];cases bt (gQ (e.getD 16 0) 4) i with
  | true=>rw [if_pos rfl,if_pos rfl];exact c
  | false=>rw [if_neg a6,if_neg a6];exact d
 ·rw [l i a];simp only [o,decide_false,Bool.false_and,Bool.not_false,Bool.and_true] at c d ⊢;cases bt (gQ (e.getD 16 0) 4) i with
  | true=>rw [if_pos rfl];exact c
  | false=>rw [if_neg a6];exact d
theorem DY (h:U k) (x:Nat) (hk:x<22):bn x (bn x k)=bn x k:=by
 have:x=0\/x=1\/x=2\/x=3\/x=4\/x=5\/x=6\/x=7\/x=8\/x=9\/x=10\/x=11\/x=12\/x=13\/x=14\/x=15\/x=16\/x=17\/x=18\/x=19\/x=20\/x=21:=ab
 rcases this with rfl|rfl|rfl|rfl|rfl|rfl|rfl|rfl|rfl|rfl|rfl|rfl|rfl|rfl|rfl|rfl|rfl|rfl|rfl|rfl|rfl|rfl;·exact Kp k h
 ·exact jy k 46079
 ·exact jy k 546
 ·exact jy k 2730
 ·exact lZ k 2
 ·rfl
 ·exact lZ k 3
 ·exact jy k 9223372036854775823
 ·rfl
 ·rfl
 ·exact lZ k 2
 ·rfl
 ·exact lZ k 3
 ·exact jy k 9223372036854775823
 ·rfl
 ·rfl
 ·exact xE k h
 ·exact jy k 18014398509481983
 ·exact jy k 18014398509481983
 ·exact jy k 18014398509481983
 ·exact jy k 18014398509481983
 ·rfl
theorem Ig:∀ n k,(∀ j,k<=j->j<k+n->fy j (e.getD j 0)=true)->fs e n k=true:=by
 intro n;induction n with
 | zero=>intro k _;rfl
 | succ n a =>intro k h;rw [fs,Bool.and_eq_true];exact ⟨h k ab ab,a (k+1) λj b c=>h j ab ab⟩
theorem Ks (h:∀ j,j<22->fy j (e.getD j 0)=true):br 22 e=true:=by simp only [br,Bool.and_eq_true,decide_eq_true_eq];exact ⟨trivial,Ig e 22 0 λj _ a=>h j ab⟩
theorem ry (hk:y<e.length):(e.set y c).getD y 0=c:=by simp [List.getD,hk]
theorem jT (a:y≠p):(e.set y c).getD p 0=e.getD p 0:=by simp [List.getD,a]
theorem cE (l:List Int) (hz:l.length=22) (a:br 22 l=true) (k:Nat) (hk:k<22) (v:Int) (h:fy k v=true):br 22 (l.set k v)=true:=by
 refine Ks _ λj b=>?_;by_cases e:k=j;·subst e;rw [ry l k v ab];exact h
 ·rw [jT l k j v e];exact dX a j b
theorem oq (h:U k) (x:Nat) (hk:x<22) (b:x≠9) (a:x≠15):fy x (bn x k)=true:=by unfold fy;rw [if_neg b,if_neg a,DY k h x hk];exact beq_self_eq_true _
theorem Fw (hy:bits .and .u64 k 2730=k) (hm:∀ i,i<64->bt m i=true->bt 2730 i=true):bits .and .u64 (iQ k m c) 2730=iQ k m c:=by
 unfold iQ;refine bu _ _ (aj _ _ _) (aj _ _ _) λi b=>?_;have d:bt k i=(bt k i&&bt 2730 i):=by conv=>lhs;rw [<- hy,az]
 have x:=hm i b;rw [az,cg,aA _ _ _ b,az,d];cases a:bt m i with
 | false=>cases bt k i<;>cases bt 2730 i<;>cases bt c i<;>rfl
 | true=>rw [x a];cases bt k i<;>cases bt c i<;>rfl
theorem Rv:∀ i,i<64->bt 546 i=true->bt 2730 i=true:=by decide +kernel
theorem Tl:∀ i,i<64->bt 2 i=true->bt 2730 i=true:=by decide +kernel
theorem Ih (hz:e.length=22) (hl:∀ j,U (e.getD j 0)) (a:br 22 e=true) (k:Nat) (hk:k<22) (x:Int) (hx:U x):br 22 (fS e k x)=true:=by
 have f:bits .and .u64 (e.getD 9 0) 2730=e.getD 9 0:=eq_of_beq (dX a 9 ab);have l:bn 16 (e.getD 16 0)=e.getD 16 0:=eq_of_beq (dX a 16 ab);unfold fS;by_cases d:k=9;·subst d;rw [if_pos (show (((9:Nat):Int)=9) from rfl)];refine cE e hz a 9 ab _ ?_;show (bits .and .u64 (iQ (e.getD 9 0) 546 x) 2730==iQ (e.getD 9 0) 546 x)=true;rw [Fw _ _ _ f Rv];exact beq_self_eq_true _
 ·rw [if_neg ab];by_cases b:k=15
  ·subst b;rw [if_pos (show (((15:Nat):Int)=15) from rfl)];cases g:((x/1152921504606846976==0)||(x/1152921504606846976==8)) with
   | true=>rw [if_pos rfl];exact cE e hz a 15 ab _ g
   | false=>rw [if_neg a6];exact a
  ·rw [if_neg ab];by_cases c:k=16;·subst c;rw [if_pos (show (((16:Nat):Int)=16) from rfl)];refine cE e hz a 16 ab _ ?_;show (bn 16 (dR e (bn 16 x) 4)==dR e (bn 16 x) 4)=true;rw [DX e (hl 16) l (bn 16 x) (by show U (cI x 4);rw [cI];exact aj _ _ _) (xE x hx)];exact beq_self_eq_true _
   ·rw [if_neg ab];split
    ·split;·exact a
     ·rw [Int.toNat_natCast];exact cE e hz a k hk _ (oq x hx k hk d b)
    ·rw [Int.toNat_natCast];exact cE e hz a k hk _ (oq x hx k hk d b)
inductive Sy (n:Int):Prop where
 | fixed (h:n=769\/n=3860)
 | st (h:n=256)
 | ie (h:n=260)
 | ip (h:n=324)
 | own (k:Nat) (hk:k<22) (hw:∀ l x,bM l n x=fS l k x) (hr:∀ l,dj l n=l.getD k 0) (hp:cG n=k)
theorem P3 (h:df k=true):Sy k:=by
 rcases kp k h with rfl|rfl|a;·exact .fixed (.inr rfl)
 ·exact .fixed (.inl rfl)
 ·rcases jS k a with rfl | rfl | rfl | rfl | rfl | rfl | rfl | rfl | rfl | rfl | rfl | rfl | rfl | rfl | rfl | rfl | rfl | rfl | rfl | rfl | rfl | rfl | rfl | rfl | rfl;·exact .own 0 ab (λ_ _=>rfl) (λ_=>rfl) rfl
  ·exact .own 1 ab (λ_ _=>rfl) (λ_=>rfl) rfl
  ·exact .own 2 ab (λ_ _=>rfl) (λ_=>rfl) rfl
  ·exact .own 3 ab (λ_ _=>rfl) (λ_=>rfl) rfl
  ·exact .own 4 ab (λ_ _=>rfl) (λ_=>rfl) rfl
  ·exact .own 5 ab (λ_ _=>rfl) (λ_=>rfl) rfl
  ·exact .own 6 ab (λ_ _=>rfl) (λ_=>rfl) rfl
  ·exact .own 7 ab (λ_ _=>rfl) (λ_=>rfl) rfl
  ·exact .own 8 ab (λ_ _=>rfl) (λ_=>rfl) rfl
  ·exact .own 9 ab (λ_ _=>rfl) (λ_=>rfl) rfl
  ·exact .own 10 ab (λ_ _=>rfl) (λ_=>rfl) rfl
  ·exact .own 11 ab (λ_ _=>rfl) (λ_=>rfl) rfl
  ·exact .own 12 ab (λ_ _=>rfl) (λ_=>rfl) rfl
  ·exact .own 13 ab (λ_ _=>rfl) (λ_=>rfl) rfl
  ·exact .own 14 ab (λ_ _=>rfl) (λ_=>rfl) rfl
  ·exact .own 15 ab (λ_ _=>rfl) (λ_=>rfl) rfl
  ·exact .own 16 ab (λ_ _=>rfl) (λ_=>rfl) rfl
  ·exact .own 17 ab (λ_ _=>rfl) (λ_=>rfl) rfl
  ·exact .own 18 ab (λ_ _=>rfl) (λ_=>rfl) rfl
  ·exact .own 19 ab (λ_ _=>rfl) (λ_=>rfl) rfl
  ·exact .own 20 ab (λ_ _=>rfl) (λ_=>rfl) rfl
  ·exact .own 21 ab (λ_ _=>rfl) (λ_=>rfl) rfl
  ·exact .st rfl
  ·exact .ie rfl
  ·exact .ip rfl
theorem sC (hz:e.length=22) (hl:∀ j,U (e.getD j 0)) (a:br 22 e=true) (n x:Int) (hx:U x) (h:df n=true):br 22 (bM e n x)=true:=by
 have d:mst (e.getD 0 0)=e.getD 0 0:=eq_of_beq (dX a 0 ab);have l:bits .and .u64 (e.getD 9 0) 2730=e.getD 9 0:=eq_of_beq (dX a 9 ab);cases P3 n h with
 | fixed b=>unfold bM;rw [if_pos b];exact a
 | st b =>subst b;show br 22 (e.set 0 (iQ (e.getD 0 0) 786722 x))=true;refine cE e hz a 0 ab _ ?_;show (mst (iQ (e.getD 0 0) 786722 x)==iQ (e.getD 0 0) 786722 x)=true;rw [Ny _ _ (hl 0) d];exact beq_self_eq_true _
 | ie b =>subst b;show br 22 (e.set 3 (bn 3 (iQ (e.getD 3 0) (e.getD 2 0) x)))=true;exact cE e hz a 3 ab _ (oq _ (aj _ _ _) 3 ab ab ab)
 | ip b =>subst b;show br 22 (e.set 9 (iQ (e.getD 9 0) (bits .and .u64 (e.getD 2 0) 2) x))=true;refine cE e hz a 9 ab _ ?_;show (bits .and .u64 (iQ (e.getD 9 0) (bits .and .u64 (e.getD 2 0) 2) x) 2730==iQ (e.getD 9 0) (bits .and .u64 (e.getD 2 0) 2) x)=true;rw [Fw _ _ _ l (λi f c=>by rw [az,Bool.and_eq_true] at c;exact Tl i f c.2)];exact beq_self_eq_true _
 | own k g m p o=>rw [m];exact Ih e hz hl a k g x hx
theorem jz (l:List Int) (hl:∀ j,U (l.getD j 0)) (k:Nat) (v:Int) (hv:U v) (j:Nat):U ((l.set k v).getD j 0):=by
 by_cases e:k=j
 ·subst e;by_cases a:k<l.length;·rw [ry l k v a];exact hv
  ·rw [List.set_eq_of_length_le ab];exact hl k
 ·rw [jT l k j v e];exact hl j
theorem Fx (h:U m):U (bn k m):=by
 unfold bn;split;·exact O6 m
 ·split;·exact aj _ _ _
  ·split;·exact aj _ _ _
   ·split;·exact aj _ _ _
    ·split;·exact aj _ _ _
     ·split;·exact aj _ _ _
      ·split;·exact aj _ _ _
       ·split;·rw [cI];exact aj _ _ _
        ·split;·exact aj _ _ _
         ·exact h
theorem Fy (hl:∀ j,U (e.getD j 0)) (n x:Int) (hx:U x) (j:Nat):U ((bM e n x).getD j 0):=by
 unfold bM;split;·exact hl j
 ·split;·exact jz e hl _ _ (aj _ _ _) j
  ·split;·exact jz e hl _ _ (Fx _ _ (aj _ _ _)) j
   ·split;·exact jz e hl _ _ (aj _ _ _) j
    ·unfold fS;split;·exact jz e hl _ _ (aj _ _ _) j
     ·split
      ·split;·exact jz e hl _ _ hx j
       ·exact hl j
      ·split;·exact jz e hl _ _ (DU e _ (Fx _ _ hx) 4) j
       ·split
        ·split;·exact hl j
         ·exact jz e hl _ _ (Fx _ _ hx) j
        ·exact jz e hl _ _ (Fx _ _ hx) j
theorem Nz (hl:∀ j,U (l.getD j 0)) (b:br 22 l=true) (j:Nat) (k:17<=j) (i:j<=20):0<=l.getD j 0/\l.getD j 0<18014398509481984:=by
 have h:=dX b j ab;have c:=hl j;have e:bits .and .u64 (l.getD j 0) 18014398509481983=l.getD j 0:=by have a:j=17\/j=18\/j=19\/j=20:=ab;have d:(bits .and .u64 (l.getD j 0) 18014398509481983==l.getD j 0)=true:=(by rcases a with rfl|rfl|rfl|rfl<;>exact h);simpa using d
 have f:=cn (l.getD j 0) 54 c.1 c.2 ab;have g:(2:Int)^54-1=18014398509481983:=a6
 rw [g,e] at f;have p54:(2:Int)^54=18014398509481984:=a6
 rw [p54] at f;refine ⟨c.1,?_⟩;have:=Int.emod_lt_of_pos (l.getD j 0) (show (0:Int)<18014398509481984 by omega);omega
theorem Kt:∀ n a,eU k n a<=n+a:=by
 intro n;induction n with
 | zero=>intro a;show a<=0+a;omega
 | succ n b =>
   intro a;unfold eU;split;·have:=b (a+1);omega
   ·omega
theorem Fz (hm:y<=54) (i:Nat) (a:i<64):bt (Uz.wrap (Uz.wrap (2^y)-1)) i=decide (i<y):=by
 have k:∀ y,y<=54->∀ i,i<64->bt (Uz.wrap (Uz.wrap (2^y)-1)) i=decide (i<y):=bb
 exact k y hm i a
theorem DZ (h:U k) (m:Nat) (hm:m<=54):bits .andNot .u64 k (Uz.wrap (Uz.wrap (2^m)-1))=k/2^m*2^m:=by
 have a:(0:Int)<2^m:=Int.pow_pos ab;have f:=lW k h m;have g:k/2^m*2^m<=k:=Int.ediv_mul_le _ ab;have c:0<=k/2^m*2^m:=Int.mul_nonneg f.1 ab;have j:Uz.wrap (k/2^m*2^m)=k/2^m*2^m:=by have:=h.2;rw [IntKind.wrap_u64];exact Int.emod_eq_of_lt c ab
 refine bu _ _ (aj _ _ _) ⟨c,by have:=h.2;omega⟩ λi e=>?_;rw [aA _ _ _ e,Fz m hm i e,<- j,m0 _ f,jw k h];by_cases b:m<=i;·have d:decide (i<m)=false:=decide_eq_false ab;rw [d,decide_eq_true b,decide_eq_true e,Nat.sub_add_cancel b];simp
 ·have d:decide (i<m)=true:=decide_eq_true ab;rw [d,decide_eq_false b];simp
theorem Ii {w':World} {o:Obj} (h:(x.alloc o).grownBy w' (Value.slice (some ⟨x.heap.size,0,none⟩) 0 0).ownBlock):Bw x w':=by
 refine Below.grown (bal _ _) h ?_ ?_;·simp
 ·intro k a;simp [Value.ownBlock] at a;omega
theorem qw (h:U k) (i:Nat):aq k i=if bt k i=true then 1 else 0:=by
 have b:∀ i,i<64->∀ (p o:Bool),((if i=0 then p else o)&&bt 1 i)=bt (if p=true then 1 else 0) i:=bb
 unfold aq;have e:∀ y:Int,bits .and .u64 y 1=if bt y 0=true then 1 else 0:=by
  intro y;refine bu _ _ (aj _ _ _) (by split<;>(constructor<;>decide)) λj c=>?_;rw [az,<- b j c (bt y 0) (bt y j)];by_cases a:j=0;·subst a;rfl
  ·rw [if_neg a]
 rw [e,jw k h,Nat.zero_add]
theorem O7:∀ i,i<64->bt 64 i=decide (i=6):=by decide +kernel
theorem P4:∀ i,i<64->bt 128 i=decide (i=7):=by decide +kernel
theorem tG (a:y<64):bt (cN k m) y=(bt k y||decide (y=6)||((m==3)&&decide (y=7))):=by
 unfold cN;cases (m==3) with
 | true=>rw [if_pos rfl,cg,cg,O7 y a,P4 y a,Bool.true_and]
 | false=>rw [if_neg a6,cg,O7 y a,Bool.false_and,Bool.or_false]
theorem jA (h:U k) (i:Nat) (c:i<64) (a:i≠6) (b:i≠7):aq (cN k m) i=aq k i:=by rw [qw _ (mt k m),qw _ h,tG k m i c];simp [a,b]
theorem Bq (h:U k) (e:Nat) (hk:8<=e):cN k m/2^e=k/2^e:=by
 refine bu _ _ (lW _ (mt k m) e) (lW _ h e) λi d=>?_;rw [jw _ (mt k m),jw _ h];by_cases a:i+e<64;·rw [tG k m _ a];have b:¬ i+e=6:=ab;have c:¬ i+e=7:=ab;simp [b,c]
 ·rw [tD _ _ ab,tD _ _ ab]
theorem Ij (h:U k):cN (cN k m) m=cN k m:=by refine bu _ _ (mt _ _) (mt _ _) λi a=>?_;rw [tG _ m i a,tG k m i a];cases bt k i<;>cases decide (i=6)<;>cases ((m==3)&&decide (i=7))<;>rfl
theorem FA (h:U k):bits .and .u64 k 1=aq k 0:=by unfold aq;rw [Int.pow_zero,Int.ediv_one]
theorem Bt (h:U k):pf (cN k m)=pf k:=by unfold pf;rw [FA _ (mt k m),FA _ h,jA k m h 0 ab ab ab,jA k m h 1 ab ab ab,jA k m h 2 ab ab ab];have:=Bq k m h 54 ab;rw [show ((2:Int)^54)=18014398509481984 from rfl] at this;rw [this]
theorem Bu (h:U k):mm (cN k m)=mm k:=by unfold mm;rw [jA k m h 1 ab ab ab,jA k m h 3 ab ab ab]
theorem uX (h:U k):eZ (cN k m)=eZ k:=by unfold eZ;have:=Bq k m h 10 ab;rw [show ((2:Int)^10)=1024 from rfl] at this;rw [this]
theorem gS:eI k≠0:=by unfold eI;split<;>(try split)<;>decide
theorem iE:dz k≠0:=by unfold dz;split<;>(try split)<;>decide
theorem qx (kind l x:Int) (lv:Nat) (h:(db e k m kind l x lv).code=0): m9 l lv=false/\hZ e kind l=false/\ic e k kind l=false/\(((cN l kind != l)=true/\aE e 1 x (bm x 8) 3 4 0=true/\db e k m kind l x lv=⟨gP l m lv,0,true,x,cN l kind⟩)\/((cN l kind != l)=false/\db e k m kind l x lv=⟨gP l m lv,0,false,0,0⟩)):=by
 unfold db at h ⊢;cases a:m9 l lv with
 | true=>rw [a,if_pos rfl] at h;exact absurd h (gS kind)
 | false =>
   rw [a,if_neg a6] at h;cases b:hZ e kind l with
   | true=>rw [b,if_pos rfl] at h;exact absurd h (gS kind)
   | false =>
     rw [b,if_neg a6] at h;cases c:ic e k kind l with
     | true=>rw [c,if_pos rfl] at h;exact absurd h (gS kind)
     | false =>
       rw [c,if_neg a6] at h;refine ⟨rfl,rfl,rfl,?_⟩;cases d:(cN l kind != l) with
       | true =>
         rw [d,if_pos rfl] at h;cases f:aE e 1 x (bm x 8) 3 4 0 with
         | true=>exact .inl ⟨rfl,rfl,rfl⟩
         | false=>rw [f,if_neg a6] at h;exact absurd h (iE kind)
       | false=>exact .inr ⟨rfl,rfl⟩
theorem uY (he:U s) (h:(db e k m c s w f).code=0):db e k m c (cN s c) w f=⟨gP s m f,0,false,0,0⟩:=by
 obtain ⟨a,b,va,_⟩:=qx e k m c s w f h;have d:m9 (cN s c) f=false:=by unfold m9 at a ⊢;rw [uX s c he];exact a
 have lv:hZ e c (cN s c)=false:=by unfold hZ at b ⊢;rw [jA s c he 1 ab ab ab,jA s c he 2 ab ab ab,jA s c he 3 ab ab ab];exact b
 have g:ic e k c (cN s c)=false:=by unfold ic at va ⊢;rw [jA s c he 4 ab ab ab];exact va
 have i:(cN (cN s c) c != cN s c)=false:=by rw [Ij s c he];simp
 have j:gP (cN s c) m f=gP s m f:=by unfold gP;rw [uX s c he]
 unfold db;rw [d,lv,g,i,j];rfl
theorem Rx (hz:∀ i,0<=e.getD i 0/\e.getD i 0<=255) (x:Int):U (fF e x):=tN e hz 8 _ ab
theorem Ry (a:k%8=0):bD k m y%8=0:=by unfold bD;generalize bits .and .u64 (m/2^(12+9*y)) 511=z;rw [IntKind.wrap_u64,IntKind.wrap_u64];omega
theorem Ku:Uz.wrap (k*4096)%8=0:=by rw [IntKind.wrap_u64];omega
theorem Bv (hz:e.length=y) (x v:Int) (hx:gU y x 8=true) (hv:U v):fF (lP e (x-2147483648).toNat v 8) x=v:=by have h:=yI hx;unfold fF;rw [PN e _ 8 v ab];have:=hv.1;have:=hv.2;omega
theorem NA (hx:gU y c 8=true) (hy:gU y s 8=true) (b:c%8=0) (n:s%8=0) (a:c≠s):fF (lP e (c-2147483648).toNat w 8) s=fF e s:=by have h:=yI hx;have d:=yI hy;unfold fF;exact Dq e _ _ 8 w ab
theorem Ik (hz:e.length=y) (hb:∀ i,0<=e.getD i 0/\e.getD i 0<=255) (l:List Int) (p va kind:Int):∀ a T,T%8=0->(bJ e y l p va kind a T).code=0->(bJ e y l p va kind a T).marked=true -> gU y (bJ e y l p va kind a T).at_ 8=true/\(bJ e y l p va kind a T).at_%8=0/\mm (fF e (bJ e y l p va kind a T).at_)=false /\ bJ (lP e ((bJ e y l p va kind a T).at_-2147483648).toNat (bJ e y l p va kind a T).entry 8) y l p va kind a T=⟨(bJ e y l p va kind a T).addr,0,false,0,0⟩:=by
 intro a;induction a with
 | zero =>
   intro T q b g;have E:=gK e y l p va kind 0 T;have f:=Ry T va 0 q;have m:=Rx e hb (bD T va 0);generalize w:bJ e y l p va kind 0 T=W at *;cases c:gU y (bD T va 0) 8 with
   | false=>rw [c,if_neg a6] at E;subst E;exact absurd b (iE kind)
   | true =>
     rw [c,if_pos rfl] at E;cases h:aE l 1 (bD T va 0) (bm (bD T va 0) 8) 2 4 0 with
     | false=>rw [h,if_neg a6] at E;subst E;exact absurd b (iE kind)
     | true =>
       rw [h,if_pos rfl] at E;cases j:pf (fF e (bD T va 0)) with
       | true=>rw [j,if_pos rfl] at E;subst E;exact absurd b (gS kind)
       | false =>
         rw [j,if_neg a6] at E;cases d:mm (fF e (bD T va 0)) with
         | true =>have s:kG (fF e (bD T va 0)) 0=true:=rfl;rw [d,if_pos rfl,s,if_pos rfl] at E;subst E;exact absurd b (gS kind)
         | false =>
           rw [d,if_neg a6] at E;rw [E] at b g;obtain ⟨_,_,_,⟨_,_,k⟩|⟨_,k⟩⟩:=qx _ _ _ _ _ _ _ b;·rw [E,k];refine ⟨c,f,d,?_⟩;rw [gK,c,if_pos rfl,h,if_pos rfl,Bv e y hz _ _ c (mt _ _),Bt _ kind m,j,if_neg a6,Bu _ kind m,d,if_neg a6];exact uY _ _ _ _ _ _ _ m b
           ·rw [k] at g;cases g
 | succ a n =>
   intro T q b g;have E:=gK e y l p va kind (a+1) T;have f:=Ry T va (a+1) q;have m:=Rx e hb (bD T va (a+1));rw [show a+1-1=a from rfl] at E;generalize w:bJ e y l p va kind (a+1) T=W at *;cases c:gU y (bD T va (a+1)) 8 with
   | false=>rw [c,if_neg a6] at E;subst E;exact absurd b (iE kind)
   | true =>
     rw [c,if_pos rfl] at E;cases h:aE l 1 (bD T va (a+1)) (bm (bD T va (a+1)) 8) 2 4 0 with
     | false=>rw [h,if_neg a6] at E;subst E;exact absurd b (iE kind)
     | true =>
       rw [h,if_pos rfl] at E;cases j:pf (fF e (bD T va (a+1))) with
       | true=>rw [j,if_pos rfl] at E;subst E;exact absurd b (gS kind)
       | false =>
         rw [j,if_neg a6] at E;cases d:mm (fF e (bD T va (a+1))) with
         | true =>
           rw [d,if_pos rfl] at E;cases o:kG (fF e (bD T va (a+1))) (a+1) with
           | true=>rw [o,if_pos rfl] at E;subst E;exact absurd b (gS kind)
           | false =>rw [o,if_neg a6] at E;rw [E] at b g;obtain ⟨u,v,t,x⟩:=n _ (Ku _) b g;rw [E];refine ⟨u,v,t,?_⟩;have r:(bJ e y l p va kind a (Uz.wrap (eZ (fF e (bD T va (a+1)))*4096))).at_≠bD T va (a+1):=(by intro zs;rw [zs,d] at t;cases t);rw [gK _ _ _ _ _ _ (a+1),c,if_pos rfl,h,if_pos rfl,NA e y _ _ _ u c v f r,j,if_neg a6,d,if_pos rfl,o,if_neg a6];exact x
         | false =>
           rw [d,if_neg a6] at E;rw [E] at b g;obtain ⟨_,_,_,⟨_,_,k⟩|⟨_,k⟩⟩:=qx _ _ _ _ _ _ _ b;·rw [E,k];refine ⟨c,f,d,?_⟩;rw [gK,c,if_pos rfl,h,if_pos rfl,Bv e y hz _ _ c (mt _ _),Bt _ kind m,j,if_neg a6,Bu _ kind m,d,if_neg a6];exact uY _ _ _ _ _ _ _ m b
           ·rw [k] at g;cases g
theorem uZ (va kind:Int):∀ l T,l<=2 -> ((bJ e y a c va kind l T).code=0/\(∃ zs k,k<=2/\(bJ e y a c va kind l T).addr=gP zs va k)/\((bJ e y a c va kind l T).marked=false->bJ e y a c va kind l T=⟨(bJ e y a c va kind l T).addr,0,false,0,0⟩)) \/ ((bJ e y a c va kind l T).code≠0/\(bJ e y a c va kind l T).addr=0/\(bJ e y a c va kind l T).marked=false):=by
 have p:∀ zs x k,k<=2->((db a c va kind zs x k).code=0/\(∃ j i,i<=2/\(db a c va kind zs x k).addr=gP j va i)/\((db a c va kind zs x k).marked=false->db a c va kind zs x k=⟨(db a c va kind zs x k).addr,0,false,0,0⟩))\/((db a c va kind zs x k).code≠0/\(db a c va kind zs x k).addr=0/\(db a c va kind zs x k).marked=false):=by
  intro zs x k g;by_cases b:(db a c va kind zs x k).code=0
  ·obtain ⟨_,_,_,⟨_,_,f⟩ | ⟨_,f⟩⟩:=qx _ _ _ _ _ _ _ b;·rw [f];exact .inl ⟨rfl,⟨zs,k,g,rfl⟩,λh=>kd⟩
   ·rw [f];exact .inl ⟨rfl,⟨zs,k,g,rfl⟩,λ_=>rfl⟩
  ·refine .inr ⟨b,?_⟩;unfold db at b ⊢;split;·exact ⟨rfl,rfl⟩
   ·rename_i m;rw [if_neg m] at b;split;·exact ⟨rfl,rfl⟩
    ·rename_i o;rw [if_neg o] at b;split;·exact ⟨rfl,rfl⟩
     ·rename_i q;rw [if_neg q] at b;split
      ·rename_i d;rw [if_pos d] at b;split;·rename_i r;rw [if_pos r] at b;exact absurd rfl b
       ·exact ⟨rfl,rfl⟩
      ·rename_i d;rw [if_neg d] at b;exact absurd rfl b
 intro l;induction l with
 | zero =>
   intro T _;rw [bJ];split
   ·split
    ·split;·exact .inr ⟨gS kind,rfl,rfl⟩
     ·split;·exact .inr ⟨gS kind,rfl,rfl⟩
      ·exact p _ _ _ ab
    ·exact .inr ⟨iE kind,rfl,rfl⟩
   ·exact .inr ⟨iE kind,rfl,rfl⟩
 | succ l t =>
   intro T s;rw [bJ];split
   ·split
    ·split;·exact .inr ⟨gS kind,rfl,rfl⟩
     ·split
      ·split;·exact .inr ⟨gS kind,rfl,rfl⟩
       ·exact t _ ab
      ·exact p _ _ _ ab
    ·exact .inr ⟨iE kind,rfl,rfl⟩
   ·exact .inr ⟨iE kind,rfl,rfl⟩
theorem NB:∀ i,i<64->bt 4095 i=decide (i<12):=by decide +kernel
theorem Kv (hk:y<=2):bits .and .u64 (gP k m y) 4095=bits .and .u64 m 4095:=by
 refine bu _ _ (aj _ _ _) (aj _ _ _) λi a=>?_;unfold gP Hd;rw [az,az,cg,aA _ _ _ a,az,Fz _ ab i a,NB i a];by_cases h:i<12;·have b:i<12+9*y:=ab;simp [h,b]
 ·simp [h]
theorem D2 (hz:e.length=y) (hb:∀ i,0<=e.getD i 0/\e.getD i 0<=255) (l:List Int) (p va kind:Int): ((bT e y l p va kind).code=0/\bT (bo e (bT e y l p va kind)) y l p va kind=⟨(bT e y l p va kind).addr,0,false,0,0⟩/\bits .and .u64 (bT e y l p va kind).addr 4095=bits .and .u64 va 4095) \/ ((bT e y l p va kind).code≠0/\(bT e y l p va kind).addr=0/\(bT e y l p va kind).marked=false):=by
 have E:∀ c,bT c y l p va kind=if ((p==3)||(l.getD 15 0/1152921504606846976==0))=true then ⟨va,0,false,0,0⟩ else if (av 39 va != va)=true then bP kind else bJ c y l p va kind 2 (nN l):=λc=>rfl
 rw [E e];cases f:((p==3)||(l.getD 15 0/1152921504606846976==0)) with
 | true =>rw [if_pos rfl];refine .inl ⟨rfl,?_,rfl⟩;rw [E,f,if_pos rfl]
 | false =>
   rw [if_neg a6];cases g:(av 39 va != va) with
   | true=>rw [if_pos rfl];exact .inr ⟨gS kind,rfl,rfl⟩
   | false =>
     rw [if_neg a6];rcases uZ e y l p va kind 2 (nN l) ab with ⟨d,⟨zs,k,o,m⟩,b⟩|h
     ·refine .inl ⟨d,?_,by rw [m];exact Kv zs va k o⟩;rw [E,f,if_neg a6,g,if_neg a6];cases a:(bJ e y l p va kind 2 (nN l)).marked with
      | true =>have j:nN l%8=0:=Ku _;obtain ⟨_,_,_,q⟩:=Ik e y hz hb l p va kind 2 (nN l) j d a;unfold bo;rw [a,if_pos rfl];exact q
      | false =>unfold bo;rw [a,if_neg a6];exact b a
     ·exact .inr h
structure MW (M:MV):Prop where
 cs:∀ j,U (M.cs.getD j 0)
 ram:∀ y ∈ M.ram,(Lit.int .u8 y).wf=true
 xs:∀ y ∈ M.d.xs,(Lit.int .u8 y).wf=true
 ys:∀ y ∈ M.d.ys,(Lit.int .u8 y).wf=true
theorem Rb.mw {A:MA} (h:Rb x n A):MW n:=⟨λj=>Aq h.wcs j,h.wram,h.wxs,h.wys⟩
theorem FC {y:Int} (h:(Lit.int .u8 y).wf=true):0<=y/\y<=255:=by simpa [Lit.wf,IntKind.min,IntKind.max,IntKind.signed,IntKind.bits] using h
theorem ze {y:Int} (h:0<=y/\y<=255):(Lit.int .u8 y).wf=true:=by simpa [Lit.wf,IntKind.min,IntKind.max,IntKind.signed,IntKind.bits] using h
theorem Kw (h:∀ y ∈ e,(Lit.int .u8 y).wf=true) (f:Nat) (x:Int) (k:Nat):∀ y ∈ lP e f x k,(Lit.int .u8 y).wf=true:=λy a=>ze (Pk e (λz b=>FC (h z b)) f x k y a)
theorem zf (h:∀ y ∈ e,(Lit.int .u8 y).wf=true) (F:Fd):∀ y ∈ bo e F,(Lit.int .u8 y).wf=true:=by
 unfold bo;split;·exact Kw e h _ _ _
 ·exact h
theorem aI (h:gE n=true):n.cs.length=22/\br 22 n.cs=true/\bN n.pr=true/\bq n.ram.length=true/\kP n.d.xs.length n.d.ys.length n.d.ir=true/\lD n=true:=by unfold gE at h;simp only [Bool.and_eq_true] at h;obtain ⟨⟨⟨⟨⟨⟨_,_⟩,c⟩,d⟩,e⟩,_⟩,f⟩:=h;have a:=km c;have b:=c;unfold be at b;rw [Bool.and_eq_true] at b;rw [a] at b;exact ⟨a,b.1,b.2,d,e,f⟩
theorem Rz (h:U k):k/2048%4=(if bt k 11=true then 1 else 0)+2*(if bt k 12=true then 1 else 0):=by
 have b:aq k 11=k/2^11%2^1:=by have a:=lW k h 11;exact cn (k/2^11) 1 a.1 a.2 ab
 have c:aq k 12=k/2^12%2^1:=by have a:=lW k h 12;exact cn (k/2^12) 1 a.1 a.2 ab
 have d:=qw k h 11;have e:=qw k h 12;rw [<- d,<- e,b,c];omega
theorem Bz (a:U k) (c:fy 0 k=true):bN (wrap64 (bits .and .u64 (k/2048) 3))=true:=by
 have g:mst k=k:=by unfold fy bn at c;simpa using c
 have b:=((rv _ a).1 g).2;have d:=lW k a 11;have f:=cn (k/2^11) 2 d.1 d.2 ab;have e:bits .and .u64 (k/2048) 3=k/2048%4:=f;rw [e,Rz k a];revert b;cases bt k 11<;>cases bt k 12<;>intro b;·decide +kernel
 ·cases b
 ·decide +kernel
 ·decide +kernel
theorem vb (c:U (l.getD 0 0)) (a:br 22 l=true) {p:Int} (d:bN p=true) (kind:Int):bN (fV l p kind)=true:=by
 unfold fV;split;·have b:fy 0 (l.getD 0 0)=true:=(by unfold br fs at a;simp only [Bool.and_eq_true] at a;exact a.2.1);exact Bz _ c b
 ·exact d
theorem tH (h:U s):U (bT e y a c s w).addr:=by
 unfold bT;split;·exact h
 ·split;·exact ⟨by show (0:Int)<=0;omega,by show (0:Int)<_;omega⟩
  ·rcases uZ e y a c s w 2 (nN a) ab with ⟨_,⟨zs,k,_,l⟩,_⟩|⟨_,l,_⟩;·rw [l];exact aj _ _ _
   ·rw [l];exact ⟨ab,ab⟩
theorem D3 (a:1<=m) (b:m<=8):bm k m=Uz.wrap (Uz.wrap (k+m)-1):=by unfold bm;rw [show Uz.wrap m=m by rw [IntKind.wrap_u64];omega]
theorem fp (a:Option Addr) (n cap:Nat) (l:List Int) (p:Int) (w:World) (hz:l.length=n) (hs:Sl .u64 w a l) (hl:∀ j,U (l.getD j 0)):CB 78 #[.slice a n cap,.i p] w (.bool (be n l p)):=by
 have f:Hid (CB 72 #[.slice a n cap] w (.bool (br n l))):=by have:=lw a n cap l w hz hs hl;rw [xy n l hl] at this;exact this
 have g:Hid (∀ w,CE 125 #[.i p] w (.bool (bN p))):=uQ p;have F:Hid (be n l p=(br n l&&bN p)):=(rfl:be n l p=_);clear hs hz hl;generalize br n l=q at *;generalize bN p=r at *;cases q with
 | false =>go_enter func78,ntmps78;go_wp2_with fail;refine f.out.mono ?_;rintro e m ⟨rfl,c⟩;go_wp2_with fail;go_ret;exact ⟨a7,c⟩
 | true =>go_enter func78,ntmps78;go_wp2_with fail;refine f.out.mono ?_;rintro e m ⟨rfl,c⟩;go_wp2_with fail;refine (g.out _).mono ?_;rintro e o ⟨rfl,d⟩;subst d;go_wp2_with fail;go_ret;exact ⟨a7,c⟩
end Go.Proofs.YtfagphfjfhpmjaaGreatDoor
