/- Own lemmas. -/
import Derived.Test.YtfagphfjfhpmjaaGreatDoorAuj
import Derived.Test.YtfagphfjfhpmjaaGreatDoorJ06
set_option maxRecDepth 100000
set_option maxHeartbeats 4000000
namespace Go.Proofs.YtfagphfjfhpmjaaGreatDoor
open Go.RowKit Tryz
open IntKind renaming u64->Uz
set_option linter.unusedVariables false
variable {x e:World} {k:Nat} {w:Int} {a:Ins} (b:Option Addr) (f l:Nat) (n:List Int) (c m:Int) (p:List (Nat × Nat × Nat)) (L:Fm) (M o r:Int) (T:Nat) (d:World) (g:Option Addr) (s:Nat)
theorem RC (h:U c) (i:Nat):aq c i=if bt c i=true then 1 else 0:=by
 unfold aq;have f:=lj c h i 1;have b:bits .and .u64 (c/2^i) 1=cQ c i 1:=by have:=iC c i 1 h.1 h.2 ab;rw [<- this];rfl
 rw [b];have d:=kv c i 1;have a:=lj c h i 1 0 ab;rw [Nat.zero_add] at a;simp only [Nat.lt_add_one,decide_true,Bool.true_and] at a;rw [<- a];have x:cQ c i 1=0\/cQ c i 1=1:=by
  have:(2:Int)^1=2:=a6
  omega
 rcases x with e|e;·rw [e];rfl
 ·rw [e];rfl
theorem FU (h:U c) (i:Nat):(aq c i==1)=bt c i:=by rw [RC c h i];cases bt c i<;>rfl
theorem qD (h:U c) (i:Nat):(aq c i==0)=!bt c i:=by rw [RC c h i];cases bt c i<;>rfl
theorem nu:bt 0 f=false:=by unfold bt;simp
theorem Eg:U 0:=⟨ab,ab⟩
theorem oC (L:List Nat) (e:∀ i,i<64->bt m i=L.contains i) (d:∀ i ∈ L,i<64):(bits .and .u64 c m==0)=L.all (λi=>!bt c i):=by
 rw [Bool.eq_iff_iff,beq_iff_eq,List.all_eq_true];constructor
 ·intro h i a;have b:=az c m i;rw [h,nu,e i (d i a)] at b;have:L.contains i=true:=by simpa using a
  rw [this,Bool.and_true] at b;rw [<- b];rfl
 ·intro h;refine bu _ _ (aj _ _ _) Eg λi a=>?_;rw [az,nu,e i a];cases f:L.contains i with
  | false=>rw [Bool.and_false]
  | true =>have:=h i e9;rw [Bool.and_true];simpa using this
theorem O9 (L:List Nat) (f:U m) (e:∀ i,i<64->bt m i=L.contains i) (d:∀ i ∈ L,i<64):(bits .and .u64 c m==m)=L.all (λi=>bt c i):=by
 rw [Bool.eq_iff_iff,beq_iff_eq,List.all_eq_true];constructor
 ·intro h i a;have b:=az c m i;rw [h,e i (d i a)] at b;have:L.contains i=true:=by simpa using a
  rw [this,Bool.and_true] at b;exact b.symm
 ·intro h;refine bu _ _ (aj _ _ _) f λi a=>?_;rw [az,e i a];cases g:L.contains i with
  | false=>rw [Bool.and_false]
  | true =>rw [h i vw];rfl
theorem Pa (L:List Nat) (he:U c) (e:∀ i,i<64->bt m i=L.contains i) (d:∀ i ∈ L,i<64):(bits .or .u64 c m==c)=L.all (λi=>bt c i):=by
 rw [Bool.eq_iff_iff,beq_iff_eq,List.all_eq_true];constructor
 ·intro h i a;have b:=cg c m i;rw [h,e i (d i a)] at b;have:L.contains i=true:=by simpa using a
  rw [this,Bool.or_true] at b;exact b
 ·intro h;refine bu _ _ (aj _ _ _) he λi a=>?_;rw [cg,e i a];cases f:L.contains i with
  | false=>rw [Bool.or_false]
  | true=>rw [h i e9];rfl
theorem m1:(bits .and .u64 c 1==0)=!bt c 0:=by rw [oC c 1 [0] bb a6];simp
theorem m2:(bits .and .u64 c 2==0)=!bt c 1:=by rw [oC c 2 [1] bb a6];simp
theorem m4:(bits .and .u64 c 4==0)=!bt c 2:=by rw [oC c 4 [2] bb a6];simp
theorem m8:(bits .and .u64 c 8==0)=!bt c 3:=by rw [oC c 8 [3] bb a6];simp
theorem Tn:(bits .and .u64 c 16==0)=!bt c 4:=by rw [oC c 16 [4] bb a6];simp
theorem To:(bits .and .u64 c 10==0)=(!bt c 1&&!bt c 3):=by rw [oC c 10 [1,3] bb a6];simp
theorem Sz:(bits .and .u64 c 208==0)=(!bt c 4&&(!bt c 6&&!bt c 7)):=by rw [oC c 208 [4,6,7] bb a6];simp
theorem Tp:(bits .and .u64 c 262144==0)=!bt c 18:=by rw [oC c 262144 [18] bb a6];simp
theorem Tr:(bits .and .u64 c 524288==0)=!bt c 19:=by rw [oC c 524288 [19] bb a6];simp
theorem Ts:(bits .and .u64 c 131072==0)=!bt c 17:=by rw [oC c 131072 [17] bb a6];simp
theorem m6:(bits .and .u64 c 6==4)=(!bt c 1&&bt c 2):=by
 have e:∀ i,i<64->bt 6 i=[1,2].contains i/\bt 4 i=[2].contains i:=bb
 rw [Bool.eq_iff_iff,beq_iff_eq,Bool.and_eq_true];constructor;·intro h;have a:=az c 6 1;have b:=az c 6 2;rw [h,(e 1 ab).1,(e 1 ab).2] at a;rw [h,(e 2 ab).1,(e 2 ab).2] at b;have f:false=(bt c 1&&true):=a;have g:true=(bt c 2&&true):=b;rw [Bool.and_true] at f g;rw [<- f,<- g];exact a0g
 ·rintro ⟨m,n⟩;have d:bt c 1=false:=(by simpa using m);refine bu _ _ (aj _ _ _) ⟨ab,ab⟩ λi j=>?_;rw [az,(e i j).1,(e i j).2];by_cases k:i=1;·subst k;rw [d];rfl
  ·by_cases l:i=2;·subst l;rw [n];rfl
   ·simp [k,l]
theorem Tt (he:U c):(bits .and .u64 c 18428729675200069632==0)=(c/18014398509481984==0):=by
 have f:∀ i,i<64->bt 18428729675200069632 i=decide (54<=i):=bb
 have e:(18014398509481984:Int)=2^54:=a6
 rw [e,Bool.eq_iff_iff,beq_iff_eq,beq_iff_eq];constructor
 ·intro h;refine bu _ _ (lW c he 54) Eg λi g=>?_;rw [jw c he,nu];by_cases d:64<=i+54;·exact tD _ _ d
  ·have a:=az c 18428729675200069632 (i+54);rw [h,nu,f _ ab] at a;simpa using a.symm
 ·intro h;refine bu _ _ (aj _ _ _) Eg λi g=>?_;rw [az,nu,f i g];by_cases b:54<=i;·have a:=jw c he 54 (i-54);rw [h,nu,Nat.sub_add_cancel b] at a;rw [<- a];rfl
  ·simp [b]
def NR (e:Int):Bool:=(bits .and .u64 e 1==0)||(bits .and .u64 e 6==4)||(bits .and .u64 e 18428729675200069632 != 0)
theorem Ql (he:U c):NR c=pf c:=by unfold NR pf;rw [qD c he,FU c he,m6,bne,bne,Tt c he]
theorem NS (he:U c):(bits .and .u64 c 10 != 0)=!mm c:=by unfold mm;rw [qD c he,qD c he,bne,To]
theorem NT (he:U c) (lv:Nat):(((lv:Int)==0)||(bits .and .u64 c 208 != 0))=kG c lv:=by
 unfold kG;have e:(16:Int)=2^4:=a6
 have a:=FU c he 4;unfold aq at a;rw [<- e] at a;have b:(bits .and .u64 (c/64) 3==0)=(!bt c 6&&!bt c 7):=by rw [oC (c/64) 3 [0,1] bb a6];have d:(64:Int)=2^6:=a6;simp only [List.all_cons,List.all_nil,Bool.and_true];rw [d,jw c he,jw c he]
 rw [bne,bne,Sz,a,b];cases ((lv:Int)==0)<;>cases bt c 4<;>cases bt c 6<;>cases bt c 7<;>rfl
theorem vk (he:U c):cQ c 10 44=eZ c:=by rw [<- iC c 10 44 he.1 he.2 ab];rfl
theorem NU:U (eZ c):=aj _ _ _
theorem La (he:U c) (lv:Nat) (h:lv<=2):(cQ c 10 (9*lv) != 0)=m9 c lv:=by
 unfold m9 Hd;have e:=NU c;have a:=iC (eZ c) 0 (9*lv) e.1 e.2 ab;rw [show eZ c/2^0=eZ c from bc] at a;rw [a,<- vk c he];congr 1;refine bu _ _ (rZ _ _ _ ab) (rZ _ _ _ ab) λi d=>?_;rw [lj c he _ _ _ ab,lj _ (rZ _ _ _ ab) _ _ _ ab,lj c he _ _ _ ab];by_cases b:i<9*lv;·simp [b,show i<44 from ab]
 ·simp [b]
def oD (x k e:Int):Bool:=if k=1 then (bits .and .u64 e 8 != 0) else if k=2 then ((bits .and .u64 e 2 != 0)||((bits .and .u64 x 524288 != 0)&&(bits .and .u64 e 8 != 0))) else (bits .and .u64 e 4 != 0)
theorem Lb (he:U m) (hx:U (n.getD 0 0)) (b:1<=c) (k:c<=3):oD (n.getD 0 0) c m=!hZ n c m:=by
 unfold oD hZ;rw [qD m he,qD m he,qD m he,qD _ hx];simp only [bne,m8,m2,m4,Tr];have a:c=1\/c=2\/c=3:=ab
 rcases a with rfl|rfl|rfl;·cases bt m 3<;>rfl
 ·cases bt m 1<;>cases bt m 3<;>cases bt (n.getD 0 0) 19<;>rfl
 ·cases bt m 2<;>rfl
def BN (x p k e:Int):Bool:=if (bits .and .u64 e 16==0)=true then (p==1) else ((p==0)||((k != 1)&&(bits .and .u64 x 262144 != 0)))
theorem Lc (he:U M) (hx:U (n.getD 0 0)) (a:c=0\/c=1):BN (n.getD 0 0) c m M=!ic n c m M:=by
 unfold BN ic;rw [qD M he,FU M he,qD _ hx];simp only [bne,Tn,Tp];rcases a with rfl|rfl;·cases bt M 4<;>rfl
 ·cases bt M 4<;>cases bt (n.getD 0 0) 18<;>cases (m==1)<;>rfl
def oE (k:Int):Int:=if k=3 then 192 else 64
theorem FW:bits .or .u64 c (oE m)=cN c m:=by
 unfold oE cN;by_cases h:m=3;·subst h;have a:∀ i,i<64->bt 192 i=(bt 64 i||bt 128 i):=bb;rw [if_pos rfl,if_pos a6];refine bu _ _ (aj _ _ _) (aj _ _ _) λi b=>?_;rw [cg,cg,cg,a i b,Bool.or_assoc]
 ·have:(m==3)=false:=by simpa using h
  rw [if_neg h,this];rfl
theorem FX (he:U c):(bits .and .u64 c (oE m)==oE m)=!(cN c m != c):=by
 rw [<- FW,bne,Bool.not_not];unfold oE;by_cases h:m=3;·rw [if_pos h,O9 c 192 [6,7] ⟨ab,ab⟩ bb a6,Pa c 192 [6,7] he bb a6]
 ·rw [if_neg h,O9 c 64 [6] ⟨ab,ab⟩ bb a6,Pa c 64 [6] he bb a6]
theorem NV (e va:Int) (he:U e) (hv:U va) (lv:Nat) (h:lv<=2) (j:m9 e lv=false):bits .or .u64 (Uz.wrap (cQ e 10 44*4096)) (cQ va 0 (12+9*lv))=gP e va lv:=by
 rw [<- La e he lv h] at j;have d:cQ e 10 (9*lv)=0:=by simpa using j
 unfold gP;rw [<- vk e he];have b:∀ i,i<64->bt (Hd (12+9*lv)) i=decide (i<12+9*lv):=by
  have:lv=0\/lv=1\/lv=2:=ab
  rcases this with rfl|rfl|rfl;·decide +kernel
  ·decide +kernel
  ·decide +kernel
 have a:(4096:Int)=2^12:=a6
 refine bu _ _ (aj _ _ _) (aj _ _ _) λi k=>?_;rw [cg,cg,aA _ _ _ k,az,b i k,lj va hv _ _ _ ab,Nat.add_zero,a,m0 _ (rZ _ _ _ ab)];by_cases c:i<12+9*lv
 ·simp only [c,decide_true,Bool.true_and,Bool.and_true,Bool.not_true,Bool.and_false,Bool.false_or];by_cases f:12<=i;·have g:=lj e he 10 (9*lv) (i-12) ab;rw [d,nu] at g;rw [lj e he _ _ _ ab];have l:decide (i-12<9*lv)=true:=a8;rw [l,Bool.true_and] at g;rw [<- g];simp
  ·simp [f]
 ·simp [c]
theorem Qm (h:U (n.getD 15 0)):Uz.wrap (cQ (n.getD 15 0) 0 44*4096)=nN n:=by rw [<- iC _ 0 44 h.1 h.2 ab];unfold nN;rw [show n.getD 15 0/2^0=n.getD 15 0 from bc];rfl
theorem Qn (hv:U m) (lv:Nat):Uz.wrap (c+Uz.wrap (8*cQ m (12+9*lv) 9))=bD c m lv:=by rw [<- iC _ (12+9*lv) 9 hv.1 hv.2 ab];rfl
theorem NW (h:U c):(cQ c 60 4==0)=(c/1152921504606846976==0):=by
 have b:(1152921504606846976:Int)=2^60:=a6
 have e:cQ c 60 4=c/2^60:=by unfold cQ;have a:(2:Int)^4=16:=a6;have s:(2:Int)^60=1152921504606846976:=a6;rw [a,s];have:=h.1;have:=h.2;omega
 rw [e,b]
theorem FY (b:be 22 n 1=true) (hx:gU f c 8=true) (g:1<=m) (h:m<=3):uA 22 n 1 c 8 m=aE n 1 c (bm c 8) m 4 0:=by
 unfold uA;obtain ⟨_,_,x,d,_,_,i,j⟩:=j8 hx;have e:bm c 8=c+7:=by unfold bm;rw [IntKind.wrap_u64,IntKind.wrap_u64,IntKind.wrap_u64];omega
 have a:decide (bm c 8<c)=false:=by rw [e];simp;omega
 have l:decide (1<=m/\m<=3)=true:=by simp;omega
 rw [b,a,l];rfl
theorem BO (zs:List Int) (x:Int) (w:World) (hz:zs.length=f) (hn:f<=1048576) (hs:Sl .u8 w b zs) (y:gU f (2147483648+(T:Int)) (s:Int)=true) (H:0<=x) (hx1:x<=18446744073709551615): Calls prog 214 #[.slice b f l,.u (2147483648+(T:Int)),.i (s:Int),.u x] w λe M=>e=.returned (.tuple #[.slice (some ⟨w.heap.size,0,none⟩) f f,.bool true]) /\ M.ownsRow w.heap.size 5 1 (.slice (some ⟨w.heap.size,0,none⟩) f f) f ((lP zs T x s).map (Value.int .u8))/\Bw w M:=by
 have B:Hid (zs.length=f):=hz;obtain ⟨hr,hsz,S,cap,Y,Z,W,X⟩:=j8 y;have R:0<=2147483648+(T:Int):=ab
 have C:2147483648+(T:Int)<=18446744073709551615:=ab
 clear hz;have Q:Hid (eR f (2147483648+(T:Int)) (s:Int)=T):=by show eR f (2147483648+(T:Int)) (s:Int)=T;simp only [eR,y,if_true];omega
 obtain ⟨a,L,rfl,N,E⟩:=hs 0 (by have:=B.out;omega);clear E;obtain ⟨P,O,J,A,K⟩:=info_parts info5;have z:(prog.info? 5).map (·.size)=some 1:=by rw [O];simp [A]
 have u:P.bytes*f<=281474976710656:=by rw [K];omega
 have D:f<=maxLen:=by unfold maxLen;omega
 go_enter func214,ntmps214;go_wp2_with (first | (go_at_call 248;refine (kO _ _ _ _ _ _ hn R C).mono ?_;rw [Q.out];rintro e M ⟨rfl,F⟩;have G:=F.symm;subst G) | (at_make;refine wpList_make_full _ rfl (.tmp 24) (.tmp 24) 24 rfl w.heap.size 5 P (.int .u8 0) 1 underlying24 O J A .i64 .i64 _ _ f rfl rfl rfl rfl u D (Nat.le_refl _) ?_;intro w1 q d) | (refine mE rfl (.tmp 26) (.tmp 27) 24 rfl 5 underlying24 z .u8 w.heap.size w.heap.size f f a L l zs _ rfl rfl q (hs.below ((Below.refl _ _).grown d (Nat.le_refl _) v8)) B.out ?_;intro w2 o g));have n:Bw w w2:=Below.grown ((Below.refl _ _).grown d (Nat.le_refl _) v8) g d.size (by intro k h;cases h;exact Nat.le_refl _);clear q d g hs;go_loopw [30] (λi wr=>∃ j:Nat,j<=s/\i=.i (j:Int)/\wr.ownsRow w.heap.size 5 1 (.slice (some ⟨w.heap.size,0,none⟩) f f) f ((lP zs T x j).map (Value.int .u8))/\Bw w wr)
  (λi _=>s-(intOf i).toNat)
 case atStart=>exact ⟨0,Nat.zero_le _,rfl,o,n⟩
 case round =>
  obtain ⟨j,hj,rfl,c,p⟩:=hrel;clear o n;by_cases V:j<s
  ·have U:wr.frozen? ⟨w.heap.size,T+j,none⟩=false:=c.frozenAt (T+j);have t:=(c.stored (T+j) (.int .u8 (x/256^j%256))).1;obtain ⟨v3,hv3⟩:∃ v,wr.cell? ⟨w.heap.size,T+j,none⟩=some v:=(by rw [c.cellAt (T+j) ab];exact ⟨_,List.getElem?_eq_getElem (by rw [List.length_map,kI,B.out];omega)⟩);rw [mX] at t;have r:(wr.setCell ⟨w.heap.size,T+j,none⟩ (.int .u8 (x/256^j%256))).ownsRow w.heap.size 5 1 (.slice (some ⟨w.heap.size,0,none⟩) f f) f ((lP zs T x (j+1)).map (Value.int .u8)):=t;have m:Bw w (wr.setCell ⟨w.heap.size,T+j,none⟩ (.int .u8 (x/256^j%256))):=p.setCell (Nat.le_refl _) _;have I:0<=x/256^j:=Int.ediv_nonneg H (Int.le_of_lt (Int.pow_pos ab));clear t c;rw [<- tO] at r m I;go_wp2;go_roundw;case rel=>exact ⟨j+1,ab,by go_num,r,m⟩
   case measure=>simp [intOf];omega
  ·have:j=s:=by omega
   subst this;go_wp2;go_ret2;exact ⟨rfl,c,p⟩
theorem BP:c=3860\/c=769\/c=256\/c=260\/c=324\/((c==3860)=false/\(c==769)=false/\(c==256)=false/\(c==260)=false/\(c==324)=false):=by simp only [beq_eq_false_iff_ne];omega
theorem Eh (hz:n.length=22) (hs:Sl .u64 d b n) (hk:df c=true): CB 149 #[.slice b 22 f,.i c] d (.u (dj n c)):=by
 obtain ⟨a,w,rfl,p,g⟩:=hs 0 ab;have cell:∀ j,j<22->d.cell? ⟨a,w+j,none⟩=some (.u (n.getD j 0)):=by intro j N;obtain ⟨M,u,e,_,E⟩:=hs j ab;simp only [Option.some.injEq,Addr.mk.injEq,and_true] at e;obtain ⟨rfl,rfl⟩:=e;exact E
 rcases BP c with rfl|rfl|rfl|rfl|rfl|⟨m,o,r,s,t⟩;·go_enter func149,ntmps149;exact a0m
 ·go_enter func149,ntmps149;exact a0m
 ·have F:Hid (dj n 256=bits .and .u64 (n.getD 0 0) 786722):=(rfl:dj n 256=_);have H:=cell 0 ab;rw [Nat.add_zero] at H;clear cell g;generalize n.getD 0 0=y at *;go_enter func149,ntmps149;exact a0b
 ·have F:Hid (dj n 260=bits .and .u64 (n.getD 3 0) (n.getD 2 0)):=(rfl:dj n 260=_);have J:=cell 3 ab;have I:=cell 2 ab;clear cell g;generalize n.getD 3 0=y at *;generalize n.getD 2 0=z at *;go_enter func149,ntmps149;go_wp2_with fail;go_quiet (fail)
  go_wp2_with fail;go_ret;exact ⟨a7,⟨rfl,rfl,rfl,Nat.le_refl _,λ_ _=>rfl⟩⟩
 ·have F:Hid (dj n 324=bits .and .u64 (n.getD 9 0) (n.getD 2 0)):=(rfl:dj n 324=_);have J:=cell 9 ab;have I:=cell 2 ab;clear cell g;generalize n.getD 9 0=y at *;generalize n.getD 2 0=z at *;go_enter func149,ntmps149;go_wp2_with fail;go_quiet (fail)
  go_wp2_with fail;go_ret;exact ⟨a7,⟨rfl,rfl,rfl,Nat.le_refl _,λ_ _=>rfl⟩⟩
 ·have G:0<=cG c:=(by simp only [df,m,o,Bool.false_or,decide_eq_true_eq] at hk;exact hk);have D:=qU c;obtain ⟨k,l⟩:∃ k:Nat,cG c=(k:Int):=⟨(cG c).toNat,ab⟩;have K:k<22:=ab;have F:Hid (dj n c=n.getD k 0):=(by show _=_;simp only [beq_eq_false_iff_ne] at m o r s t;unfold dj;rw [if_neg m,if_neg o,if_neg r,if_neg s,if_neg t,l,Int.toNat_natCast]);have A:Hid (∀ d,CB 151 #[.i c] d (.i (k:Int))):=(by rw [<- l];exact dx c);have B:Hid (d.cell? ⟨a,w+k,none⟩=some (.u (n.getD k 0))):=cell k K;clear cell g l D G hk;generalize n.getD k 0=y at *;go_enter func149,ntmps149;go_wp2_with fail;refine (A.out _).mono ?_;rintro e L ⟨rfl,cap⟩;have C:L.cell? ⟨a,w+k,none⟩=some (.u y):=(cap.cell (by exact p)).trans B.out;go_wp2_with fail;go_ret;exact ⟨a7,cap⟩
def qE (w:World) (p:Option Addr) (l:List (Nat × Nat × Nat)):Prop:=∀ k,k<l.length->∃ g,p=some ⟨g,0,none⟩/\g<w.heap.size/\w.cell? ⟨g,k*3,none⟩=some (.i (l.getD k (0,0,0)).1) /\
 w.cell? ⟨g,k*3+1,none⟩=some (.i (l.getD k (0,0,0)).2.1)/\w.cell? ⟨g,k*3+2,none⟩=some (.i (l.getD k (0,0,0)).2.2)
def pc (p:Nat × Nat × Nat):List Value:=[.i p.1,.i p.2.1,.i p.2.2]
theorem Ld (A:Obj) (cs:Array Value) (t:TypeId) (l:List (Nat × Nat × Nat)) (h:cs=(l.flatMap pc).toArray):qE ((d.alloc A).alloc (.cells cs t)) (some ⟨d.heap.size+1,0,none⟩) l:=by
 subst h;intro k a;have b:((d.alloc A).alloc (.cells (l.flatMap pc).toArray t)).heap[d.heap.size+1]?=some (.cells (l.flatMap pc).toArray t (0,0)):=heap_alloc2_new _ _ _;have e:∀ j,j<3->((d.alloc A).alloc (.cells (l.flatMap pc).toArray t)).cell? ⟨d.heap.size+1,k*3+j,none⟩=(pc (l.getD k (0,0,0)))[j]?:=by intro j c;rw [cell_of_row _ _ _ _ _ _ b];have:=ur pc 3 l (by intro x _;rfl) k a j c;rw [show l.getD k (0,0,0)=l[k] by simp [List.getD,a],<- this];simp
 exact ⟨_,rfl,bc,e 0 a6,e 1 a6,e 2 a6⟩
theorem xJ:qE d g []:=by intro k a;simp at a
theorem oF:(prog.info? 289).map (·.size)=some 5:=by kernel_rfl
theorem zu: Calls prog 259 #[.string L.str] d λe b=>∃ p,e=.returned (.agg #[.bool L.hasRd,.bool L.hasA,.bool L.hasB,.slice p L.pcs.length L.pcs.length,.i L.width])/\Hid (qE b p L.pcs)/\Bw d b:=by
 cases L
 case r =>
  simp only [Fm.str]
  go_enter func259,ntmps259
  go_wp2_with fail
  exact bodyPost_ret (results_cell_row results259 _ _ _ _ _ _ _ rfl (heap_alloc_new _ _) underlying289 rfl oF) rfl ⟨none,rfl,xJ _ _,bal _ _⟩
 case x =>
  simp only [Fm.str]
  go_enter func259,ntmps259
  go_wp2_with fail
  exact bodyPost_ret (results_cell_row results259 _ _ _ _ _ _ _ rfl (heap_alloc_new _ _) underlying289 rfl oF) rfl ⟨none,rfl,xJ _ _,bal _ _⟩
 all_goals (
  simp only [Fm.str]
  go_enter func259,ntmps259
  go_wp2_with fail
  exact bodyPost_ret (results_cell_row results259 _ _ _ _ _ _ _ rfl (heap_alloc2_old _ _ _) underlying289 rfl oF) rfl ⟨some ⟨d.heap.size+1,0,none⟩,rfl,Ld _ _ _ _ _ rfl,(bal _ _).alloc bc _⟩)
def qF (x:Int) (l:List (Nat × Nat × Nat)):Int:=l.foldl (λa p=>bits .or .u64 a (Uz.wrap (cQ x p.1 p.2.1*2^p.2.2))) 0
def Le (f:Fm) (x:Int):Int:=if f.hasRd then cQ x 7 5 else 0
def aV (f:Fm) (x:Int):Int:=if f.hasA then cQ x 15 5 else 0
def bV (f:Fm) (x:Int):Int:=if f.hasB then cQ x 20 5 else 0
theorem Iy (h:T<p.length):bits .or .u64 (qF c (p.take T)) (Uz.wrap (cQ c (p.getD T (0,0,0)).1 (p.getD T (0,0,0)).2.1*2^(p.getD T (0,0,0)).2.2))=qF c (p.take (T+1)):=by
 have e:p.getD T (0,0,0)=p[T]:=by simp [List.getD,h]
 rw [e,List.take_succ_eq_append_getElem h];simp only [qF,List.foldl_append,List.foldl_cons,List.foldl_nil]
theorem qE.below {p:Option Addr} {l:List (Nat × Nat × Nat)} (h:qE x p l) (hb:Bw x e):qE e p l:=by intro k f;obtain ⟨g,w',a,b,c,d⟩:=h k f;exact ⟨g,w',Nat.lt_of_lt_of_le a hb.size,(hb.cell (by exact a)).trans b,(hb.cell (by exact a)).trans c,(hb.cell (by exact a)).trans d⟩
theorem jp (hb:Bw x e) {g:Nat} {o:Obj} (h:x.heap[g]?=some o):e.heap[g]?=some o:=by
 rw [hb.block g ?_];·exact h
 ·obtain ⟨a,_⟩:=Array.getElem?_eq_some_iff.1 h;exact a
theorem BT (h:Below k x e) (n:Nat):Below k x (e.drewN n):=⟨h.os,h.tape,h.output,h.size,h.block⟩
theorem Lf (a:0<=c) (b:c<18446744073709551616) (hk:T<64) (hn:s<64) (w:World):
 Calls prog 76 #[.u c,.i T,.i s] w λe x=>e=.returned (.u (cQ c T s))/\∃ m,x=w.drewN m :=
 (bA c T s a b hk hn w).mono λ_ _ h=>⟨h.1,1,h.2⟩
theorem oG:(#[Value.int .i64 c,.i m,.i M,.i o,.i r]:Array Value).all (·.oneCell')=true:=by simp [Value.oneCell']
theorem fI:(prog.info? 80).map (·.size)=some 5:=by kernel_rfl
theorem vm (h0:0<=M) (h1:M<18446744073709551616) (w:World): CB 224 #[.i c,.string L.str,.u M] w (.agg #[.i c,.i (Le L M),.i (aV L M),.i (bV L M),.i (wrap64 (av L.width (qF M L.pcs)))]):=by
 have G:=zu L
 obtain ⟨b1,D⟩:∃ b,b=L.hasRd:=⟨_,rfl⟩
 obtain ⟨b2,E⟩:∃ b,b=L.hasA:=⟨_,rfl⟩
 obtain ⟨b3,F⟩:∃ b,b=L.hasB:=⟨_,rfl⟩
 obtain ⟨l,Y⟩:∃ l,l=L.pcs:=⟨_,rfl⟩
 obtain ⟨B,t⟩:∃ B,B=L.width:=⟨_,rfl⟩
 obtain ⟨s,hs⟩:∃ s,s=L.str:=⟨_,rfl⟩
 have W1:1<=B:=by rw [t];cases L<;>decide
 have W2:B<=64:=by rw [t];cases L<;>decide
 have PB:Hid (∀ p ∈ l,p.1<64/\p.2.1<64/\p.2.2<64):=by
  show ∀ p ∈ l,p.1<64/\p.2.1<64/\p.2.2<64
  rw [Y];cases L<;>decide
 have LB:l.length<=4:=by rw [Y];cases L<;>decide
 rw [<- D,<- E,<- F,<- Y,<- t,<- hs] at G
 have R1:Hid (Le L M=if b1 then cQ M 7 5 else 0):=by show _=_;rw [Le,D]
 have R2:Hid (aV L M=if b2 then cQ M 15 5 else 0):=by show _=_;rw [aV,E]
 have R3:Hid (bV L M=if b3 then cQ M 20 5 else 0):=by show _=_;rw [bV,F]
 rw [<- hs,<- Y,<- t]
 clear D E F Y t hs
 obtain ⟨Z,I⟩:∃ y,y=cQ M 7 5:=⟨_,rfl⟩
 obtain ⟨y2,J⟩:∃ y,y=cQ M 15 5:=⟨_,rfl⟩
 obtain ⟨y3,K⟩:∃ y,y=cQ M 20 5:=⟨_,rfl⟩
 have B1:=bA M 7 5 h0 h1 a6 a6
 have B2:=bA M 15 5 h0 h1 a6 a6
 have B3:=bA M 20 5 h0 h1 a6 a6
 have L1:0<=Z/\Z<32:=by rw [I];exact kv M 7 5
 have L2:0<=y2/\y2<32:=by rw [J];exact kv M 15 5
 have L3:0<=y3/\y3<32:=by rw [K];exact kv M 20 5
 have V1:wrap64 Z=Z:=IntWalk.wrap64_in _ ab
 have V2:wrap64 y2=y2:=IntWalk.wrap64_in _ ab
 have V3:wrap64 y3=y3:=IntWalk.wrap64_in _ ab
 rw [<- I] at B1 R1
 rw [<- J] at B2 R2
 rw [<- K] at B3 R3
 clear I J K L1 L2 L3
 have R:Hid (∀ w:World,Calls prog 76 #[.u M,.i 7,.i 5] w λe u=>e=.returned (.u Z)/\u=w.drew):=B1
 have S:Hid (∀ w:World,Calls prog 76 #[.u M,.i 15,.i 5] w λe u=>e=.returned (.u y2)/\u=w.drew):=B2
 have T:Hid (∀ w:World,Calls prog 76 #[.u M,.i 20,.i 5] w λe u=>e=.returned (.u y3)/\u=w.drew):=B3
 clear B1 B2 B3
 cases b1<;>cases b2<;>cases b3
 all_goals (
  go_enter func224,ntmps224
  go_wp2_with fail
  refine (G _).mono ?_
  rintro e d ⟨p,rfl,hP,op⟩
  clear G
  have Q:Hid (d.heap[w.heap.size]?=some (.cells #[.i 0,.i 0,.i 0,.i 0,.i 0] 80 (0,0))):=by
   show _=_
   rw [op.block _ bc];exact heap_alloc_new _ _
  have hsz:w.heap.size<d.heap.size:=by have:=op.size;simp at this;omega
  go_wp2_with (go_at_call 76;first | (with_reducible refine (R.out _).mono ?_;rintro e w2 ⟨rfl,rfl⟩) | (with_reducible refine (S.out _).mono ?_;rintro e w2 ⟨rfl,rfl⟩) | (with_reducible refine (T.out _).mono ?_;rintro e w2 ⟨rfl,rfl⟩))
  go_loopw [9,37] (λacc i wr=>∃ k:Nat,k<=l.length/\i=.i k/\acc=.u (qF M (l.take k))/\∃ N O P:Int,∃ c1 c2 c3:Bool,Hid (N=Le L M)/\Hid (O=aV L M)/\Hid (P=bV L M) /\
   Hid (wr.heap[w.heap.size]?=some (.cells #[.i 0,.i 0,.i 0,.i 0,.i 0] 80 (0,0))) /\
   Hid (wr.heap[d.heap.size]?=some (.cells #[.bool c1,.bool c2,.bool c3,.slice p l.length l.length,.i B] 289 (0,0))) /\
   Hid (wr.heap[d.heap.size+1]?=some (.cells #[.i c,.i N,.i O,.i P,.i 0] 80 (0,0))) /\
   Hid (qE wr p l)/\Bw w wr)
   (λ_ i _=>l.length-(intOf i).toNat)
  case atStart =>
   have hb0:=((bal _ _).trans (op.mono bc):Bw w d)
   refine ⟨0,ab,rfl,rfl,_,_,_,_,_,_,?_,?_,?_,?_,heap_alloc2_old _ _ _,heap_alloc2_new _ _ _,?_,?_⟩
   ·show _=_;rw [R1.out];rfl
   ·show _=_;rw [R2.out];rfl
   ·show _=_;rw [R3.out];rfl
   ·exact jp ka Q.out
   ·exact qE.below hP.out ka
   ·exact aa hb0 ka
  case round =>
   obtain ⟨k,hk,rfl,rfl,N,O,P,c1,c2,c3,Q1,Q2,Q3,G6,G7,G8,HP,o⟩:=hrel
   clear hP op Q
   by_cases H:k<l.length
   ·obtain ⟨g,hpg,hg,d0,d1,d2⟩:=HP.out k H
    subst hpg
    have AC:Hid (bits .or .u64 (qF M (l.take k)) (Uz.wrap (cQ M (l.getD k (0,0,0)).1 (l.getD k (0,0,0)).2.1*2^(l.getD k (0,0,0)).2.2))=qF M (l.take (k+1))):=Iy M l k H
    have V:=PB.out (l.getD k (0,0,0)) (by simp [List.getD,H])
    obtain ⟨⟨pa,pb,pt⟩,hq⟩:∃ q,q=l.getD k (0,0,0):=⟨_,rfl⟩
    rw [<- hq] at d0 d1 d2 AC V
    clear hq
    obtain ⟨W,X,PB5⟩:=V
    simp only at d0 d1 d2 W X PB5
    have C:=Lf M pa pb h0 h1 W X
    obtain ⟨y,hy⟩:∃ y,y=cQ M pa pb:=⟨_,rfl⟩
    obtain ⟨z,f⟩:∃ z,z=qF M (l.take k):=⟨_,rfl⟩
    rw [<- hy] at C
    have AC2:Hid (bits .or .u64 z (Uz.wrap (y*2^pt))=qF M (l.take (k+1))):=by
     show _=_
     rw [f,hy];exact AC.out
    have BQ:Hid (∀ w:World,Calls prog 76 #[.u M,.i pa,.i pb] w λe u=>e=.returned (.u y)/\∃ m,u=w.drewN m):=C
    rw [<- f]
    clear C AC hy f
    go_wp2_with fail
    go_quiet (first | (go_at_call 76;with_reducible refine Calls.quiet_of (BQ.out _)))
    go_wp2_with fail
    go_roundw
    case rel=>
     have r:Bw wr ((wr.alloc (.cells #[.i pa,.i pb,.i pt] 292)).drewN nq):=BT (bal _ _) nq
     exact ⟨k+1,ab,by go_num,by rw [<- AC2.out],N,O,P,c1,c2,c3,Q1,Q2,Q3,jp r G6.out,jp r G7.out,jp r G8.out,qE.below HP.out r,aa o r⟩
    case measure=>simp [intOf];omega
   ·have hkl:k=l.length:=by omega
    have A:l.take k=l:=List.take_of_length_le ab
    rw [A]
    subst hkl
    clear A R S T R1 R2 R3
    obtain ⟨z,f⟩:∃ z,z=qF M l:=⟨_,rfl⟩
    have HZ:Hid (z=qF M l):=f
    rw [<- f]
    clear f
    have e7:=cell_of_row wr d.heap.size 4 _ _ _ G7.out
    have x:∀ j,wr.cell? ⟨d.heap.size+1,j,none⟩=_:=λj=>cell_of_row wr (d.heap.size+1) j _ _ _ G8.out
    have e80:=x 0
    have e81:=x 1
    have e82:=x 2
    have e83:=x 3
    have e84:=x 4
    have f84:=frozen_of_row wr (d.heap.size+1) 4 _ _ G8.out
    have U:(wr.setCell ⟨d.heap.size+1,4,none⟩ (.i (wrap64 (av B z)))).heap[w.heap.size]?=some (.cells #[.i 0,.i 0,.i 0,.i 0,.i 0] 80 (0,0)):=by
     rw [heap_setCell_other _ _ _ _ (by show w.heap.size≠d.heap.size+1;omega)];exact G6.out
    simp at e7 e80 e81 e82 e83 e84
    clear x
    go_wp2_with (first | (go_at_call 153;with_reducible refine (iW z B W1 W2 _).mono ?_;rintro e w2 ⟨rfl,hw2⟩;have hw3:=hw2.symm;subst hw3) | (refine wpList_store_rowTo rfl 80 (.tmp 6) (.tmp 59) rfl rfl w.heap.size #[.i c,.i N,.i O,.i P,.i (wrap64 (av B z))] rfl rfl 80 _ U fI rfl (oG c N O P _) ?_))
    refine bodyPost_ret (results_cell_row results224 _ _ _ _ _ _ _ rfl (setRow_heap _ _ _ _ _ _ U) underlying80 rfl fI) rfl ⟨?_,?_⟩
    ·rw [<- Q1.out,<- Q2.out,<- Q3.out,<- HZ.out]
    ·exact aF (o.setCell (by show w.heap.size<=d.heap.size+1;omega) _) (Nat.le_refl _) _)
def nv:List (Nat × Bool)->Nat
 | []=>0
 | (n,b)::l=>(if b then 2^n-1 else 0)+2^n*nv l
def rI:List (Nat × Bool)->Nat->Nat
 | [],_=>0
 | (n,b)::l,x=>(if b then x%2^n else 0)+2^n*rI l (x/2^n)
theorem Lg:∀ (l:List (Nat × Bool)) (x:Nat),x &&& nv l=rI l x:=by
 intro l;induction l with
 | nil=>intro x;simp [nv,rI]
 | cons p l e =>
   intro x;obtain ⟨n,b⟩:=p;have d:0<2^n:=Nat.two_pow_pos n;have a:nv ((n,b)::l)/2^n=nv l:=(by rw [nv,Nat.add_mul_div_left _ _ d,Nat.div_eq_of_lt,Nat.zero_add];cases b<;>simp<;>omega);have c:nv ((n,b)::l)%2^n=if b then 2^n-1 else 0:=by rw [nv,Nat.add_mul_mod_self_left,Nat.mod_eq_of_lt];cases b<;>simp<;>omega
   rw [Ha x _ n,a,c,e,rI];cases b;·simp
   ·simp only [if_true];rw [JI,Nat.mod_mod];omega
theorem sG (l:List (Nat × Bool)) (a:0<=c) (b:c<4294967296) (hm:T=nv l) (hb:T<18446744073709551616):bits .and .u64 c (T:Int)=(rI l c.toNat:Nat):=by subst hm;rw [u64_and c _ a ab ab ab,Int.toNat_natCast,Lg]
theorem RD (a:0<=c) (b:c<4294967296):bits .and .u64 c 127=c%128:=by have h:=sG c 127 [(7,true)] a b a6 a6;rw [show ((127:Nat):Int)=127 from rfl] at h;rw [h];simp [rI];omega
theorem NY (a:0<=c) (b:c<4294967296):bits .and .u64 c 28799=c%128+c/4096%8*4096:=by have h:=sG c 28799 [(7,true),(5,false),(3,true)] a b a6 a6;rw [show ((28799:Nat):Int)=28799 from rfl] at h;rw [h];simp [rI];omega
theorem RE (a:0<=c) (b:c<4294967296):bits .and .u64 c 4261441663=c%128+c/4096%8*4096+c/33554432*33554432:=by have h:=sG c 4261441663 [(7,true),(5,false),(3,true),(10,false),(7,true)] a b a6 a6;rw [show ((4261441663:Nat):Int)=4261441663 from rfl] at h;rw [h];simp [rI];omega
theorem RG (a:0<=c) (b:c<4294967296):bits .and .u64 c 4261445631=c%32768+c/33554432*33554432:=by have h:=sG c 4261445631 [(15,true),(10,false),(7,true)] a b a6 a6;rw [show ((4261445631:Nat):Int)=4261445631 from rfl] at h;rw [h];simp [rI];omega
theorem SA (a:0<=c) (b:c<4294967296):bits .and .u64 c 4227887231=c%128+c/4096%8*4096+c/67108864*67108864:=by have h:=sG c 4227887231 [(7,true),(5,false),(3,true),(11,false),(6,true)] a b a6 a6;rw [show ((4227887231:Nat):Int)=4227887231 from rfl] at h;rw [h];simp [rI];omega
theorem SB (a:0<=c) (b:c<4294967296):bits .and .u64 c 4160778367=c%128+c/4096%8*4096+c/134217728*134217728:=by have h:=sG c 4160778367 [(7,true),(5,false),(3,true),(12,false),(5,true)] a b a6 a6;rw [show ((4160778367:Nat):Int)=4160778367 from rfl] at h;rw [h];simp [rI];omega
theorem RH (a:0<=c) (b:c<4294967296):bits .and .u64 c 4193284223=c%128+c/4096%8*4096+c/1048576%32*1048576+c/134217728*134217728:=by have h:=sG c 4193284223 [(7,true),(5,false),(3,true),(5,false),(5,true),(2,false),(5,true)] a b a6 a6;rw [show ((4193284223:Nat):Int)=4193284223 from rfl] at h;rw [h];simp [rI];omega
theorem SC (a:0<=c) (b:c<4294967296):bits .and .u64 c 4294967295=c:=by have h:=sG c 4294967295 [(32,true)] a b a6 a6;rw [show ((4294967295:Nat):Int)=4294967295 from rfl] at h;rw [h];simp [rI];omega
def xK (k:Nat) (r:Row):Bool:=decide (0<=r.op/\r.op<128/\0<=r.more/\(k=97->r.fm=.r)/\(k=62\/k=73->r.fm=.a)) &&
 (match r.fm with
 | .r=>decide (r.more<128/\0<=r.f3/\r.f3<8)
 | .w=>decide (r.more<128/\0<=r.f3/\r.f3<8)
 | .h=>decide (r.more<64/\0<=r.f3/\r.f3<8)
 | .a=>decide (r.more<32/\0<=r.f3/\r.f3<8)
 | .x=>decide (r.more<4096/\r.f3=0)
 | .u=>decide (r.more=0/\r.f3=-1)
 | .j=>decide (r.more=0/\r.f3=-1)
 | _=>decide (r.more=0/\0<=r.f3/\r.f3<8))
theorem FZ:∀ k,k<98->xK k (bO k)=true:=by
 have h:(List.range 98).all (λk=>xK k (bO k))=true:=a4
 intro k a;exact List.all_eq_true.1 h k qh
theorem iB (i:0<=M) (q:M<128) (j:0<=o) (k:o<8) (c:0<=r) (l:r<2^(32-L.at)) (n:L.at=0->r=0):uB L M o r=M+o*4096+r*2^L.at:=by
 unfold uB;have e:Uz.wrap (o*4096)=o*2^12:=by rw [IntKind.wrap_u64];omega
 have g:bits .or .u64 M (o*2^12)=M+o*2^12:=mG M o 12 3 i ab j k ab ab;rw [e,g];by_cases d:L.at=0;·have p:=n d;subst p;have a:Uz.wrap (0*2^L.at)=0:=(by rw [Int.zero_mul];rfl);have h:bits .or .u64 (M+o*2^12) 0=M+o*2^12:=(by have:=mG (M+o*2^12) 0 0 1 ab ab ab ab ab;rw [u64_or _ _ ab ab ab ab];simp;omega);rw [a,h];omega
 ·have b:L.at=20\/L.at=25\/L.at=26\/L.at=27:=(by cases L<;>simp [Fm.at] at d ⊢);rcases b with b|b|b|b<;>rw [b] at l ⊢;·have a:Uz.wrap (r*2^20)=r*2^20:=bh;rw [a,mG (M+o*2^12) r 20 12 ab ab c ab ab ab];omega
  ·have a:Uz.wrap (r*2^25)=r*2^25:=bh;rw [a,mG (M+o*2^12) r 25 7 ab ab c ab ab ab];omega
  ·have a:Uz.wrap (r*2^26)=r*2^26:=bh;rw [a,mG (M+o*2^12) r 26 6 ab ab c ab ab ab];omega
  ·have a:Uz.wrap (r*2^27)=r*2^27:=bh;rw [a,mG (M+o*2^12) r 27 5 ab ab c ab ab ab];omega
theorem Lh (r:Row) (hr:xK f r=true) (x:Int) (d:0<=x) (g:x<4294967296): (bits .and .u64 x (iX ((f:Int)+1) r.fm)==uB r.fm r.op r.f3z r.more)=decide (fE f r.fm r.op r.f3 r.more x):=by
 obtain ⟨E,k,o,z,m⟩:=r
 simp only [xK,Bool.and_eq_true,decide_eq_true_eq] at hr
 obtain ⟨⟨l,n,p,v,y⟩,t⟩:=hr
 simp only [Row.f3z]
 rw [Bool.eq_iff_iff,beq_iff_eq,decide_eq_true_iff]
 have C:∀ k,iX 98 k=bits .or .u64 (Fm.mask k) 3968:=λk=>by rw [iX,if_pos rfl]
 cases k
 case r =>
  simp only [decide_eq_true_eq] at t
  rw [if_neg ab,iB .r o z m l n ab ab p ia (by simp [Fm.at])]
  by_cases A:f=97
  ·subst A
   have e:iX (((97:Nat):Int)+1) .r=4261445631:=a6
   rw [e,RG x d g]
   simp only [fE,Fm.at,forall_const]
   omega
  ·have e:iX ((f:Int)+1) .r=4261441663:=by
    have D:¬ (f=62\/f=73):=λh=>by cases y h
    rw [iX,if_neg ab,if_neg ab];rfl
   rw [e,RE x d g]
   simp only [fE,Fm.at]
   omega
 case a =>
  simp only [decide_eq_true_eq] at t
  have q:¬ f=97:=λh=>by cases v h
  rw [if_neg ab,iB .a o z m l n ab ab p ia (by simp [Fm.at])]
  by_cases A:f=62\/f=73
  ·have e:iX ((f:Int)+1) .a=4193284223:=by
    rw [iX,if_neg ab,if_pos ab];decide
   rw [e,RH x d g]
   simp only [fE,Fm.at]
   omega
  ·have e:iX ((f:Int)+1) .a=4160778367:=by
    rw [iX,if_neg ab,if_neg ab];rfl
   rw [e,SB x d g]
   simp only [fE,Fm.at]
   omega
 all_goals (
  have q:¬ f=97:=λh=>by cases v h
  have B:¬ (f=62\/f=73):=λh=>by cases y h
  simp only [decide_eq_true_eq] at t
  rw [iX,if_neg ab,if_neg ab]
  simp only [Fm.mask])
 case h =>
  rw [if_neg ab,iB .h o z m l n ab ab p ia (by simp [Fm.at]),SA x d g]
  simp only [fE,Fm.at]
  omega
 case w =>
  rw [if_neg ab,iB .w o z m l n ab ab p ia (by simp [Fm.at]),RE x d g]
  simp only [fE,Fm.at]
  omega
 case x =>
  rw [if_neg ab,iB .x o z m l n ab ab p ia (by simp [Fm.at]),SC x d g]
  simp only [fE,Fm.at]
  omega
 case u =>
  rw [if_pos ab,iB .u o 0 m l n ab ab p ia (by intro _;omega),RD x d g]
  simp only [fE,Fm.at,and_true]
  omega
 case j =>
  rw [if_pos ab,iB .j o 0 m l n ab ab p ia (by intro _;omega),RD x d g]
  simp only [fE,Fm.at,and_true]
  omega
 case i =>
  rw [if_neg ab,iB .i o z m l n ab ab p ia (by intro _;omega),NY x d g]
  simp only [fE,Fm.at,and_true]
  omega
 case s =>
  rw [if_neg ab,iB .s o z m l n ab ab p ia (by intro _;omega),NY x d g]
  simp only [fE,Fm.at,and_true]
  omega
 case b =>
  rw [if_neg ab,iB .b o z m l n ab ab p ia (by intro _;omega),NY x d g]
  simp only [fE,Fm.at,and_true]
  omega
 case c =>
  rw [if_neg ab,iB .c o z m l n ab ab p ia (by intro _;omega),NY x d g]
  simp only [fE,Fm.at,and_true]
  omega
theorem Qo:cQ c T s=c/2^T%2^s:=rfl
theorem NZ (k:0<=M) (l:M<4294967296):qF M L.pcs=yx L M:=by
 have Z:∀ y:Int,0<=y->y<18446744073709551616->bits .or .u64 0 (Uz.wrap y)=y:=by
  intro y d g
  have e:Uz.wrap y=y:=by rw [IntKind.wrap_u64];omega
  rw [e,u64_or 0 y ab ab d g]
  simp;omega
 have W:∀ y:Int,0<=y->y<18446744073709551616->Uz.wrap y=y:=by
  intro y d g
  rw [IntKind.wrap_u64];omega
 cases L<;>simp only [Fm.pcs,qF,List.foldl_cons,List.foldl_nil,yx,Qo]
 case i=>rw [Z _ ab ab];omega
 case h=>rw [Z _ ab ab];omega
 case w=>rw [Z _ ab ab];omega
 case u=>rw [Z _ ab ab];omega
 case a=>rw [Z _ ab ab];omega
 case c=>rw [Z _ ab ab];omega
 case s =>
  rw [Z _ ab ab,W _ ab ab,mG _ (M/2^7%2^5) 0 5 ab ab ab ab ab ab]
  omega
 case b =>
  rw [Z _ ab ab,W _ ab ab,mG _ (M/2^7%2^1) 11 1 ab ab ab ab ab ab,
   W _ ab ab,mG _ (M/2^25%2^6) 5 6 ab ab ab ab ab ab,
   W _ ab ab,mG _ (M/2^8%2^4) 1 4 ab ab ab ab ab ab]
  omega
 case j =>
  rw [Z _ ab ab,W _ ab ab,mG _ (M/2^12%2^8) 12 8 ab ab ab ab ab ab,
   W _ ab ab,mG _ (M/2^20%2^1) 11 1 ab ab ab ab ab ab,
   W _ ab ab,mG _ (M/2^21%2^10) 1 10 ab ab ab ab ab ab]
  omega
def qG (k:Nat) (x:Int):Ins:=⟨(k:Int)+1,Le (bO k).fm x,aV (bO k).fm x,bV (bO k).fm x,nM (bO k).fm x⟩
def mv (k:Nat) (x:Int):Bool:=decide (fE k (bO k).fm (bO k).op (bO k).f3 (bO k).more x)
def bZ (x:Int):Nat->Nat->Option Nat
 | 0,_=>none
 | n+1,k=>if mv k x=true then some k else bZ x n (k+1)
theorem sH (hk:T<98) (h:mv T c=true):bZ c (98-T) T=some T:=by rw [show 98-T=(98-(T+1))+1 from ab,bZ,if_pos h]
theorem qH (hk:T<98) (h:mv T c=false):bZ c (98-T) T=bZ c (98-(T+1)) (T+1):=by rw [show 98-T=(98-(T+1))+1 from ab,bZ,if_neg (by rw [h];decide)]
def F4 (x:Int):Option Ins:=if x<4294967296 then (bZ x 98 0).map (λk=>qG k x) else none
def qI:Ins:=⟨0,0,0,0,0⟩
def mN (x:Int):Value:=match F4 x with
 | some i=>.tuple #[i.val,.bool true]
 | none=>.tuple #[qI.val,.bool false]
theorem BU (h:¬ c<4294967296):mN c=.tuple #[qI.val,.bool false]:=by simp [mN,F4,h]
theorem BV (h:c<4294967296) (a:bZ c 98 0=some T):mN c=.tuple #[(qG T c).val,.bool true]:=by simp [mN,F4,h,a]
theorem xL (h:c<4294967296) (a:bZ c 98 0=none):mN c=.tuple #[qI.val,.bool false]:=by simp [mN,F4,h,a]
theorem zv:∀ n k j,bZ c n k=some j->k<=j/\j<k+n/\mv j c=true:=by
 intro n;induction n with
 | zero=>intro k j h;simp [bZ] at h
 | succ n b =>
   intro k j h;rw [bZ] at h;split at h;·rename_i a;simp at h;subst h;exact ⟨ab,ab,a⟩
   ·have:=b (k+1) j h;exact ⟨ab,ab,this.2.2⟩
theorem Li {i:Ins} (h:F4 w=some i):w<4294967296/\∃ k,k<98/\mv k w=true/\i=qG k w:=by
 unfold F4 at h;split at h
 ·rename_i c;cases a:bZ w 98 0 with
  | none=>rw [a] at h;simp at h
  | some k =>rw [a] at h;simp at h;obtain ⟨d,e,b⟩:=zv w 98 0 k a;exact ⟨c,k,ab,b,h.symm⟩
 ·simp at h
theorem Qp:0<=Le L M/\Le L M<=31:=by have:=kv M 7 5;unfold Le;split<;>omega
theorem RJ:0<=aV L M/\aV L M<=31:=by have:=kv M 15 5;unfold aV;split<;>omega
theorem RK:0<=bV L M/\bV L M<=31:=by have:=kv M 20 5;unfold bV;split<;>omega
theorem zw (h:c%2=0):av 13 c%2=0:=by
 have e:(2:Int)^(64-13)=2251799813685248:=a6
 unfold av;exact a0d
theorem zy (h:c%2=0):av 21 c%2=0:=by
 have e:(2:Int)^(64-21)=8796093022208:=a6
 unfold av;exact a0d
structure jJ (i:Ins):Prop where
 op1:1<=i.op
 op98:i.op<=98
 rd0:0<=i.rd
 rd31:i.rd<=31
 a0:0<=i.a
 a31:i.a<=31
 b0:0<=i.b
 b31:i.b<=31
 im0 : -9223372036854775808<=i.imm
 im1:i.imm<9223372036854775808
 even:(i.op=3\/5<=i.op/\i.op<=10)->i.imm%2=0
theorem Qq:∀ k,k<98->(k=2\/4<=k/\k<=9)->(bO k).fm=.b\/(bO k).fm=.j:=by
 have h:(List.range 98).all (λk=>!(decide (k=2\/4<=k/\k<=9))||(decide ((bO k).fm=.b\/(bO k).fm=.j)))=true:=a4
 intro k a e;have:=List.all_eq_true.1 h k qh;rw [decide_eq_true e] at this;simpa using this
theorem zA (h:F4 w=some a):jJ a:=by
 obtain ⟨m,k,g,l,rfl⟩:=Li h;have i:=Qp (bO k).fm w;have b:=RJ (bO k).fm w;have c:=RK (bO k).fm w;have d : -9223372036854775808<=nM (bO k).fm w/\nM (bO k).fm w<9223372036854775808:=by unfold nM RowKit.wrap64;omega
 refine ⟨by show (1:Int)<=(k:Int)+1;omega,by show (k:Int)+1<=98;omega,i.1,i.2,b.1,b.2,c.1,c.2,d.1,d.2,λe=>?_⟩;have f:k=2\/4<=k/\k<=9:=by have j:((k:Int)+1=3\/5<=(k:Int)+1/\(k:Int)+1<=10):=e;omega
 show nM (bO k).fm w%2=0;rcases Qq k g f with q|q<;>rw [q]<;>unfold nM;·have:=zw (yx .b w) (by simp only [yx];omega);show RowKit.wrap64 (av 13 (yx .b w))%2=0;unfold RowKit.wrap64;omega
 ·have:=zy (yx .j w) (by simp only [yx];omega);show RowKit.wrap64 (av 21 (yx .j w))%2=0;unfold RowKit.wrap64;omega
theorem rJ:CE 144 #[.u c,.u 32] d (.u (av 32 c)):=dO c 32 ab ab d
theorem rK (j:0<=c) (l:c<18446744073709551616) (a:0<=m) (f:m<18446744073709551616) (w:World):CE 202 #[.string ⟨#[100,105,118]⟩,.u c,.u m] w (.u (AF.div.v c m)):=by
 by_cases h:m=0;·have F:Hid (AF.div.v c m=18446744073709551615):=dn;have d:(wrap64 m==0)=true:=(by simpa using (fl a f).mpr h);exact a0n
 by_cases g:m=18446744073709551615;·have F:Hid (AF.div.v c m=Uz.wrap (-c)):=(by show _=_;simp only [AF.v,if_neg h];rw [(jm a f).mpr g];exact JL c j l);have d:(wrap64 m==0)=false:=oj;have b:(wrap64 m == -1)=true:=(by simpa using (jm a f).mpr g);exact a0o
 ·have F:Hid (AF.div.v c m=Uz.wrap (wrap64 ((wrap64 c).tdiv (wrap64 m)))):=dn;have d:(wrap64 m==0)=false:=oj;have b:(wrap64 m == -1)=false:=(by simpa using λk=>g ((jm a f).mp k));have p:¬ wrap64 m=0:=λk=>h ((fl a f).mp k);exact a0o
theorem rL (b:0<=c) (o:c<18446744073709551616) (a:0<=m) (f:m<18446744073709551616) (w:World):CE 202 #[.string ⟨#[114,101,109]⟩,.u c,.u m] w (.u (AF.rem.v c m)):=by
 by_cases h:m=0;·have F:Hid (AF.rem.v c m=c):=dn;have d:(wrap64 m==0)=true:=(by simpa using (fl a f).mpr h);exact a0n
 by_cases g:m=18446744073709551615;·have F:Hid (AF.rem.v c m=0):=(by show _=_;simp only [AF.v,if_neg h];rw [(jm a f).mpr g];exact JM c);have d:(wrap64 m==0)=false:=oj;have j:(wrap64 m == -1)=true:=(by simpa using (jm a f).mpr g);exact a0o
 ·have F:Hid (AF.rem.v c m=Uz.wrap ((wrap64 c).tmod (wrap64 m))):=dn;have d:(wrap64 m==0)=false:=oj;have j:(wrap64 m == -1)=false:=(by simpa using λk=>g ((jm a f).mp k));have p:¬ wrap64 m=0:=λk=>h ((fl a f).mp k);exact a0o
theorem pL (a:0<=c) (f:c<18446744073709551616) (g:0<=m) (j:m<18446744073709551616) (w:World):CE 202 #[.string ⟨#[100,105,118,117]⟩,.u c,.u m] w (.u (AF.divu.v c m)):=by
 by_cases h:m=0;·have F:Hid (AF.divu.v c m=18446744073709551615):=dn;have d:(m==0)=true:=cp;exact a0n
 ·have F:Hid (AF.divu.v c m=Uz.wrap (c.tdiv m)):=dn;have d:(m==0)=false:=cp;clear a f g j;go_enter func202,ntmps202;exact a09
theorem pM (a:0<=c) (f:c<18446744073709551616) (g:0<=m) (j:m<18446744073709551616) (w:World):CE 202 #[.string ⟨#[114,101,109,117]⟩,.u c,.u m] w (.u (AF.remu.v c m)):=by
 by_cases h:m=0;·have F:Hid (AF.remu.v c m=c):=dn;have d:(m==0)=true:=cp;exact a0n
 ·have F:Hid (AF.remu.v c m=c.tmod m):=dn;have d:(m==0)=false:=cp;clear a f g j;go_enter func202,ntmps202;exact a09
abbrev O3 (a b:Int) (w:World) (s:Array UInt8) (k:Nat):Prop:=CE 145 #[.string ⟨s⟩,.u a,.u b] w (.u ((ob k).v a b))
def U4 (a b:Int):Prop:=0<=a/\a<18446744073709551616/\0<=b/\b<18446744073709551616
section
variable (a b : Int) (w : World)
theorem SE:O3 a b w #[97,100,100,105] 0/\O3 a b w #[120,111,114,105] 3/\O3 a b w #[111,114,105] 4/\O3 a b w #[97,110,100,105] 5/\O3 a b w #[97,100,100] 13/\O3 a b w #[115,117,98] 14/\O3 a b w #[120,111,114] 18/\O3 a b w #[111,114] 21/\O3 a b w #[97,110,100] 22/\O3 a b w #[109,117,108] 28:=by
 refine ⟨?_,?_,?_,?_,?_,?_,?_,?_,?_,?_⟩<;>(
  delta O3
  go_enter func145,ntmps145
  go_wp2_with (fail)
  go_ret
  exact ⟨rfl,rfl⟩)
theorem SF:O3 a b w #[115,108,116,105] 1/\O3 a b w #[115,108,116,105,117] 2/\O3 a b w #[115,108,116] 16/\O3 a b w #[115,108,116,117] 17:=by
 refine ⟨?_,?_,?_,?_⟩<;>(
  delta O3
  go_enter func145,ntmps145
  go_wp2_with (go_at_call 120;with_reducible refine (JQ _ _).mono ?_;rintro e c ⟨rfl,rfl⟩)
  go_ret
  exact ⟨rfl,rfl⟩)
theorem SG (g:U4 a b):O3 a b w #[115,108,108,105] 6/\O3 a b w #[115,114,108,105] 7/\O3 a b w #[115,114,97,105] 8/\O3 a b w #[115,108,108] 15/\O3 a b w #[115,114,108] 19/\O3 a b w #[115,114,97] 20:=by
 obtain ⟨j,l,c,d⟩:=g
 have m:bits .and .u64 b 63=(sh b:Int):=by rw [<- OV];exact cn b 6 c d ab
 have f:=EY b
 refine ⟨?_,?_,?_,?_,?_,?_⟩<;>(
  delta O3
  go_enter func145,ntmps145
  go_wp2_with (fail)
  go_ret
  exact ⟨rfl,rfl⟩)
theorem SH (l:U4 a b):O3 a b w #[97,100,100,105,119] 9/\O3 a b w #[97,100,100,119] 23/\O3 a b w #[115,117,98,119] 24/\O3 a b w #[109,117,108,119] 36/\O3 a b w #[115,108,108,105,119] 10/\O3 a b w #[115,108,108,119] 25/\O3 a b w #[115,114,108,105,119] 11/\O3 a b w #[115,114,108,119] 26/\O3 a b w #[115,114,97,105,119] 12/\O3 a b w #[115,114,97,119] 27:=by
 obtain ⟨c,d,f,g⟩:=l
 have o:bits .and .u64 b 31=(JK b:Int):=by rw [<- PL];exact cn b 5 f g ab
 have j:=PM b
 have m:=lm a c d
 refine ⟨?_,?_,?_,?_,?_,?_,?_,?_,?_,?_⟩<;>(
  delta O3
  go_enter func145,ntmps145
  go_wp2_with (go_at_call 144;with_reducible refine (rJ _ _).mono ?_;rintro e p ⟨rfl,rfl⟩)
  go_ret
  exact ⟨by first | (rw [Rf];rfl) | (rw [Rg];rfl) | (rw [Rh];rfl) | (rw [Ss];rfl) | (rw [St];rfl) | (rw [Ri];rfl),rfl⟩)
theorem SI (j:U4 a b):O3 a b w #[109,117,108,104,117] 31:=by obtain ⟨c,d,f,g⟩:=j;delta O3;go_enter func145,ntmps145;go_wp2_with (go_at_call 201;with_reducible refine (qf a b c d f g _).mono ?_;rintro e l ⟨rfl,rfl⟩);go_ret;exact a0g
theorem SJ (m:U4 a b):O3 a b w #[100,105,118] 32/\O3 a b w #[100,105,118,117] 33/\O3 a b w #[114,101,109] 34/\O3 a b w #[114,101,109,117] 35:=by
 obtain ⟨f,g,j,l⟩:=m
 have c:=And.intro f g
 have d:=And.intro j l
 refine ⟨?_,?_,?_,?_⟩<;>(
  delta O3
  go_enter func145,ntmps145
  go_wp2_with (go_at_call 202;(first | with_reducible refine (rK a b c.1 c.2 d.1 d.2 _).mono ?_ | with_reducible refine (pL a b c.1 c.2 d.1 d.2 _).mono ?_ | with_reducible refine (rL a b c.1 c.2 d.1 d.2 _).mono ?_ | with_reducible refine (pM a b c.1 c.2 d.1 d.2 _).mono ?_);rintro e o ⟨rfl,rfl⟩)
  go_ret
  exact ⟨rfl,rfl⟩)
theorem SK (f:U4 a b):O3 a b w #[100,105,118,119] 37/\O3 a b w #[114,101,109,119] 39:=by
 obtain ⟨j,l,m,o⟩:=f
 have c:=bg a
 have d:=bg b
 refine ⟨?_,?_⟩<;>(
  delta O3
  go_enter func145,ntmps145
  go_wp2_with (first | (go_at_call 144;with_reducible refine (rJ _ _).mono ?_;rintro e g ⟨rfl,rfl⟩) | (go_at_call 202;(first | with_reducible refine (rK (av 32 a) (av 32 b) c.1 c.2 d.1 d.2 _).mono ?_ | with_reducible refine (pL (av 32 a) (av 32 b) c.1 c.2 d.1 d.2 _).mono ?_ | with_reducible refine (rL (av 32 a) (av 32 b) c.1 c.2 d.1 d.2 _).mono ?_ | with_reducible refine (pM (av 32 a) (av 32 b) c.1 c.2 d.1 d.2 _).mono ?_);rintro e g ⟨rfl,rfl⟩))
  go_ret
  exact ⟨rfl,rfl⟩)
theorem SM (m:U4 a b):O3 a b w #[100,105,118,117,119] 38/\O3 a b w #[114,101,109,117,119] 40:=by
 obtain ⟨f,g,j,l⟩:=m
 have p:=lm a f g
 have q:=lm b j l
 have c:0<=a%4294967296/\a%4294967296<18446744073709551616:=ab
 have d:0<=b%4294967296/\b%4294967296<18446744073709551616:=ab
 refine ⟨?_,?_⟩<;>(
  delta O3
  go_enter func145,ntmps145
  go_wp2_with (first | (go_at_call 144;with_reducible refine (rJ _ _).mono ?_;rintro e o ⟨rfl,rfl⟩) | (go_at_call 202;(first | with_reducible refine (rK (a%4294967296) (b%4294967296) c.1 c.2 d.1 d.2 _).mono ?_ | with_reducible refine (pL (a%4294967296) (b%4294967296) c.1 c.2 d.1 d.2 _).mono ?_ | with_reducible refine (rL (a%4294967296) (b%4294967296) c.1 c.2 d.1 d.2 _).mono ?_ | with_reducible refine (pM (a%4294967296) (b%4294967296) c.1 c.2 d.1 d.2 _).mono ?_);rintro e o ⟨rfl,rfl⟩))
  go_ret
  exact ⟨rfl,rfl⟩)
theorem SO (y:U4 a b):O3 a b w #[109,117,108,104] 29/\O3 a b w #[109,117,108,104,115,117] 30:=by
 obtain ⟨p,q,r,s⟩:=y
 have j:Hid ((ob 29).v a b=mj a b):=rfl
 have l:Hid ((ob 30).v a b=gq a b):=rfl
 obtain ⟨z,c⟩:∃ v,v=mj a b:=⟨_,rfl⟩
 obtain ⟨A,d⟩:∃ v,v=gq a b:=⟨_,rfl⟩
 unfold O3
 rw [j.out,l.out,<- c,<- d]
 unfold mj gq at c
 unfold gq at d
 clear j l
 by_cases f:wrap64 a<0<;>by_cases g:wrap64 b<0<;>(
  simp only [f,g,if_true,if_false] at c d
  have m:Hid (z=_):=c
  have o:Hid (A=_):=d
  clear c d
  first | have t:decide (wrap64 a<0)=true:=decide_eq_true f | have t:decide (wrap64 a<0)=false:=decide_eq_false f
  first | have u:decide (wrap64 b<0)=true:=decide_eq_true g | have u:decide (wrap64 b<0)=false:=decide_eq_false g
  clear f g
  refine ⟨?_,?_⟩<;>(
   go_enter func145,ntmps145
   go_wp2_with (go_at_call 201;with_reducible refine (qf a b p q r s _).mono ?_;rintro e B ⟨rfl,rfl⟩)
   go_ret
   exact ⟨by first | (rw [m.out];rfl) | (rw [o.out];rfl),rfl⟩))
end
theorem Lj (hk:f<41) (s:ByteArray) (hs:s=(bO (f+21)).name) (a b:Int) (N:0<=a) (O:a<18446744073709551616) (P:0<=b) (Q:b<18446744073709551616) (w:World):CE 145 #[.string s,.u a,.u b] w (.u ((ob f).v a b)):=by
 subst hs;have c:U4 a b:=⟨N,O,P,Q⟩;obtain ⟨R,U,V,W,i,j,o,r,t,A⟩:=SE a b w;obtain ⟨S,T,m,n⟩:=SF a b w;obtain ⟨X,Y,Z,l,p,q⟩:=SG a b w c;obtain ⟨h9,u,v,I,d,x,k,y,g,z⟩:=SH a b w c;have D:=SI a b w c;obtain ⟨E,F,G,H⟩:=SJ a b w c;obtain ⟨J,L⟩:=SK a b w c;obtain ⟨K,M⟩:=SM a b w c;obtain ⟨B,C⟩:=SO a b w c;match f,hk with
 | 0,_=>exact R
 | 1,_=>exact S
 | 2,_=>exact T
 | 3,_=>exact U
 | 4,_=>exact V
 | 5,_=>exact W
 | 6,_=>exact X
 | 7,_=>exact Y
 | 8,_=>exact Z
 | 9,_=>exact h9
 | 10,_=>exact d
 | 11,_=>exact k
 | 12,_=>exact g
 | 13,_=>exact i
 | 14,_=>exact j
 | 15,_=>exact l
 | 16,_=>exact m
 | 17,_=>exact n
 | 18,_=>exact o
 | 19,_=>exact p
 | 20,_=>exact q
 | 21,_=>exact r
 | 22,_=>exact t
 | 23,_=>exact u
 | 24,_=>exact v
 | 25,_=>exact x
 | 26,_=>exact y
 | 27,_=>exact z
 | 28,_=>exact A
 | 29,_=>exact B
 | 30,_=>exact C
 | 31,_=>exact D
 | 32,_=>exact E
 | 33,_=>exact F
 | 34,_=>exact G
 | 35,_=>exact H
 | 36,_=>exact I
 | 37,_=>exact J
 | 38,_=>exact K
 | 39,_=>exact L
 | 40,_=>exact M
 | f+41,h=>exact absurd h ab
theorem sI (A:(Lit.int .i64 c).wf=true) (o:0<=m) (p:m<18446744073709551616) (q:0<=M) (r:M<18446744073709551616) (w:World): CB 100 #[.i c,.u m,.u M] w (.tuple #[.u (m7 c m M),.bool (yy c)]):=by
 cases h:yy c with
 | false =>have e:m7 c m M=0:=(by simp [m7,h]);rw [e];have op:decide (22<=c/\c<=62)=false:=h;clear h e;go_enter func100,ntmps100;go_wp2_with fail;refine (iV c 22 62 _).mono ?_;rintro e B ⟨rfl,rfl⟩;rw [op];clear op;go_wp2_with fail;go_ret2;exact ⟨rfl,Below.refl _ _⟩
 | true =>have t:22<=c/\c<=62:=(by simpa [yy] using h);have op:decide (22<=c/\c<=62)=true:=h;obtain ⟨k,rfl⟩:∃ k:Nat,c=(k:Int)+22:=⟨(c-22).toNat,ab⟩;have e:m7 ((k:Int)+22) m M=(ob k).v m M:=(by simp [m7,h]);rw [e];have l:jN ((k:Int)+22)=(bO (k+21)).name:=(by have u:rX ((k:Int)+22)=true:=(by simp [rX];omega);have z:((k:Int)+22-1).toNat=k+21:=ab;simp [jN,u,z]);have j:Hid (∀ w,CE 145 #[.string (jN ((k:Int)+22)),.u m,.u M] w (.u ((ob k).v m M))):=Lj k ab _ l m M o p q r;obtain ⟨s,a⟩:∃ s,s=jN ((k:Int)+22):=⟨_,rfl⟩;have g:Hid (∀ w,CB 146 #[.i ((k:Int)+22)] w (.string (jN ((k:Int)+22)))):=yv _ A;rw [<- a] at j g;clear h t e l a;go_enter func100,ntmps100;go_wp2_with fail;refine (iV _ 22 62 _).mono ?_;rintro e B ⟨rfl,f⟩;subst f;rw [op];clear op;go_wp2_with fail;refine (g.out _).mono ?_;rintro e C ⟨rfl,y⟩;go_wp2_with fail;refine (j.out _).mono ?_;rintro e D ⟨rfl,rfl⟩;go_wp2_with fail;go_ret2;exact ⟨rfl,y⟩
theorem wK {c:Array Oper} {rest:List Oper} {o:Oper} {a:Act} {Q:Exit->Act->World->Prop} {T V:Value} {kk:IntKind} (H:Hid (∀ x:World,(Instr.index 261 T (.int kk w)).run prog x=.ok V x)) (e:o.guard=none) (k i:Operand) (g:o.op=.index 261 k i) (hx:a.eval k=T) (f:a.eval i=.int kk w) (h:wpList prog c Q rest (a.put o.dst V) x):wpList prog c Q (o::rest) a x:=by
 refine wpList_plain e λK d=>?_;have b:(execOp a.eval o).run prog x=.ok (.value V) x:=by simp [execOp,g,hx,f,H.out]
 unfold Oper.wp;rw [b,Oper.upon_value];exact d _ _ h
theorem qJ:(d.alloc (.cells #[.i 0,.i 0,.i 0,.i 0,.i 0] 80)).heap[d.heap.size]?=some (.cells #[.i 0,.i 0,.i 0,.i 0,.i 0] 80 (0,0)):=heap_alloc_new _ _
theorem vq (Y:0<=c) (h1:c<18446744073709551616) (w:World): CB 167 #[.u c] w (mN c):=by
 by_cases b:c<4294967296
 ·have d1:decide (4294967295<c)=false:=by simp;omega
  have p:=λk (h:bZ c 98 0=some k)=>BV c k b h
  have d:=λ(h:bZ c 98 0=none)=>xL c b h
  have HH:Hid (∀ k,bZ c 98 0=some k->mN c=.tuple #[(qG k c).val,.bool true]):=p
  have HM:Hid (bZ c 98 0=none->mN c=.tuple #[qI.val,.bool false]):=d
  obtain ⟨V,E⟩:∃ V,V=mN c:=⟨_,rfl⟩
  rw [<- E] at HH HM ⊢
  clear p d E
  go_enter func167,ntmps167
  go_wp2_with fail
  refine (AD _).mono ?_
  rintro e w1 ⟨T,rfl,HT,S⟩
  have hsz:w.heap.size<w1.heap.size:=by have:=S.size;simp at this;omega
  have G0:Hid (w1.heap[w.heap.size]?=some (.cells #[.i 0,.i 0,.i 0,.i 0,.i 0] 80 (0,0))):=by
   show _=_
   rw [S.block _ bc];exact qJ w
  have H:Bw w w1:=(bal _ _).trans (S.mono bc)
  clear S
  go_wp2_with fail
  go_loopw [13] (λi wr=>∃ k:Nat,k<=98/\i=.i k/\Hid (bZ c (98-k) k=bZ c 98 0) /\
   Hid (wr.heap[w.heap.size]?=some (.cells #[.i 0,.i 0,.i 0,.i 0,.i 0] 80 (0,0)))/\Bw w wr)
   (λi _=>98-(intOf i).toNat)
  case atStart=>exact ⟨0,ab,rfl,(rfl:bZ c (98-0) 0=bZ c 98 0),G0,H⟩
  case round =>
   obtain ⟨k,hk,rfl,hf,G,I⟩:=hrel
   clear G0 H
   by_cases l:k<98
   ·have RO:=FZ k l
    have q:=Lh k (bO k) RO c Y b
    obtain ⟨r,g⟩:∃ r,r=bO k:=⟨_,rfl⟩
    have hr:Hid (r=bO k):=g
    rw [<- g] at q
    have MB:decide (fE k r.fm r.op r.f3 r.more c)=mv k c:=by rw [g];rfl
    rw [MB] at q
    have x:=vm ((k:Int)+1) r.fm c Y h1
    have IM:wrap64 (av r.fm.width (qF c r.fm.pcs))=nM r.fm c:=by rw [NZ r.fm c Y b];rfl
    rw [IM] at x
    have X:Hid (Value.agg #[.i ((k:Int)+1),.i (Le r.fm c),.i (aV r.fm c),.i (bV r.fm c),.i (nM r.fm c)]=(qG k c).val):=by
     show _=_
     rw [g];rfl
    clear g MB IM RO
    obtain ⟨W,f,o,m3,m⟩:=r
    simp only [Row.f3z] at q
    obtain ⟨z,hz⟩:∃ z:Int,z=if m3<0 then 0 else m3:=⟨_,rfl⟩
    rw [<- hz] at q
    have j:=uC ((k:Int)+1) W f o z m
    obtain ⟨MM,D⟩:∃ M,M=iX ((k:Int)+1) f:=⟨_,rfl⟩
    obtain ⟨BB,C⟩:∃ B,B=uB f o z m:=⟨_,rfl⟩
    rw [<- D,<- C] at q j
    simp only at x X
    obtain ⟨s,hs⟩:∃ s,s=f.str:=⟨_,rfl⟩
    obtain ⟨y1,N⟩:∃ y,y=Le f c:=⟨_,rfl⟩
    obtain ⟨y2,O⟩:∃ y,y=aV f c:=⟨_,rfl⟩
    obtain ⟨y3,P⟩:∃ y,y=bV f c:=⟨_,rfl⟩
    obtain ⟨y4,Q⟩:∃ y,y=nM f c:=⟨_,rfl⟩
    rw [<- hs] at j x
    rw [<- N,<- O,<- P,<- Q] at x X
    have RF:Hid (∀ w:World,CB 224 #[.i ((k:Int)+1),.string s,.u c] w (.agg #[.i ((k:Int)+1),.i y1,.i y2,.i y3,.i y4])):=x
    have RP:Hid (∀ w:World,CB 223 #[.i ((k:Int)+1),.agg #[.string W,.string s,.u o,.u z,.u m]] w (.tuple #[.u MM,.u BB])):=j
    have IX:∀ w:World,(Instr.index 261 T (.i (k:Int))).run prog w=.ok (.agg #[.string W,.string s,.u o,.u z,.u m]) w:=by
     intro w
     rw [rY HT .i64 k l _ hr w,hs,hz];rfl
    clear N O P Q x j D C hs hz hr
    have A:Hid (∀ w:World,(Instr.index 261 T (.i (k:Int))).run prog w=.ok (.agg #[.string W,.string s,.u o,.u z,.u m]) w):=IX
    clear IX HT
    go_wp2_with (refine wK A rfl _ _ rfl rfl rfl ?_)
    refine (RP.out _).mono ?_
    rintro e w2 ⟨rfl,t⟩
    clear RP A
    have L:Bw wr w2:=(bal _ _).trans (t.mono bc)
    have c1:w2.cell? ⟨wr.heap.size,1,none⟩=some (.string s):=by
     rw [t.cell bc]
     rw [cell_of_row _ _ _ _ _ _ (heap_alloc_new _ _)];rfl
    have G2:Hid (w2.heap[w.heap.size]?=some (.cells #[.i 0,.i 0,.i 0,.i 0,.i 0] 80 (0,0))):=jp L G.out
    have J:=aa I L
    clear t
    cases U:mv k c with
    | true =>
      rw [U] at q
      have F:Hid (V=.tuple #[(qG k c).val,.bool true]):=HH.out k (hf.out.symm.trans (sH c k l U))
      go_wp2_with fail
      refine (RF.out _).mono ?_
      rintro e w3 ⟨rfl,K⟩
      have u:w3.heap[w.heap.size]?=some (.cells #[.i 0,.i 0,.i 0,.i 0,.i 0] 80 (0,0)):=jp K G2.out
      have Z:=aa J K
      go_wp2_with (refine wpList_store_rowTo rfl 80 (.tmp 2) (.tmp 34) rfl rfl w.heap.size #[.i ((k:Int)+1),.i y1,.i y2,.i y3,.i y4] rfl rfl 80 _ u fI rfl (oG _ _ _ _ _) ?_)
      refine bodyPost_ret (gJ results167 _ _ _ _ _ _ _ rfl (setRow_heap _ _ _ _ _ _ u) underlying80 rfl fI) rfl ⟨?_,?_⟩
      ·rw [F.out,<- X.out];rfl
      ·exact aF Z (Nat.le_refl _) _
    | false =>
      rw [U] at q
      have F:Hid (bZ c (98-(k+1)) (k+1)=bZ c 98 0):=(qH c k l U).symm.trans hf.out
      clear RF
      go_wp2_with fail
      go_roundw
      case rel=>exact ⟨k+1,ab,by go_num,F,G2,J⟩
      case measure=>simp [intOf];omega
   ·have hk2:k=98:=by omega
    subst hk2
    have F:Hid (V=.tuple #[qI.val,.bool false]):=HM.out hf.out.symm
    have u:=G.out
    go_wp2_with (refine wpList_store_rowTo rfl 80 (.tmp 2) (.tmp 36) rfl rfl w.heap.size #[.i 0,.i 0,.i 0,.i 0,.i 0] rfl rfl 80 _ u fI rfl (oG _ _ _ _ _) ?_)
    refine bodyPost_ret (gJ results167 _ _ _ _ _ _ _ rfl (setRow_heap _ _ _ _ _ _ u) underlying80 rfl fI) rfl ⟨?_,?_⟩
    ·rw [F.out];rfl
    ·exact aF I (Nat.le_refl _) _
 ·have d1:decide (4294967295<c)=true:=by simp;omega
  have F:Hid (mN c=.tuple #[qI.val,.bool false]):=BU c b
  obtain ⟨V,E⟩:∃ V,V=mN c:=⟨_,rfl⟩
  rw [<- E] at F ⊢
  clear E
  go_enter func167,ntmps167
  go_wp2_with fail
  refine bodyPost_ret (gJ results167 _ _ _ _ _ _ _ rfl (qJ w) underlying80 rfl fI) rfl ⟨?_,?_⟩
  ·rw [F.out];rfl
  ·exact bal _ _
theorem BW (t:f<98) (c:ByteArray) (v:Fm) (o z m x:Int) (b:0<=x) (s:x<4294967296) (hx:Hid (v=.x->0<=o/\o<128/\0<=m/\m<4096)) (w:World): CB 141 #[.i f,.agg #[.string c,.string v.str,.u o,.i z,.u m],.u x] w (.bool (decide (fE f v o z m x))):=by
 have g:bits .and .u64 x 127=x%128:=cn x 7 b ab a6
 have j:bits .and .u64 (x/4096) 7=x/4096%8:=cn (x/4096) 3 ab ab a6
 have l:bits .and .u64 (x/128) 31=x/128%32:=cn (x/128) 5 ab ab a6
 have p:bits .and .u64 (x/1048576) 31=x/1048576%32:=cn (x/1048576) 5 ab ab a6
 cases v
 case x =>
  have H:=hx.out rfl
  have q:Uz.wrap (m*1048576)=m*1048576:=by rw [IntKind.wrap_u64];omega
  have r:bits .or .u64 (m*1048576) o=m*1048576+o:=by
   rw [u64_or _ _ ab ab ab ab]
   rw [nat_join 20 _ _ ab ab];omega
  clear H
  simp only [Fm.str]
  go_enter func141,ntmps141
  go_wp2_with fail
  all_goals go_ret
  all_goals refine ⟨?_,bal _ _⟩
  all_goals (clear hx;go_tidy;show Ending.returned (Value.bool _)=Ending.returned (Value.bool _);congr 2;rw [Bool.eq_iff_iff,decide_eq_true_iff];simp only [fE,bne_iff_ne,beq_iff_eq,bne_eq_false_iff_eq,Bool.false_eq_true,ne_eq,false_iff] at *)
  all_goals omega
 all_goals (
  simp only [Fm.str]
  go_enter func141,ntmps141
  go_wp2_with fail
  all_goals go_ret
  all_goals refine ⟨?_,bal _ _⟩
  all_goals (clear hx;go_tidy;show Ending.returned (Value.bool _)=Ending.returned (Value.bool _);congr 2;rw [Bool.eq_iff_iff,decide_eq_true_iff];simp only [fE,bne_iff_ne,beq_iff_eq,bne_eq_false_iff_eq,Bool.false_eq_true,ne_eq,true_iff,false_iff,and_true] at *)
  all_goals omega)
theorem Iz (C:0<=M) (D:M<4294967296) (w:World): CE 142 #[.string L.str,.u M] w (.i (nM L M)):=by
 cases L;case i =>simp only [Fm.str];go_enter func142,ntmps142;go_wp2_with fail;refine (dO (M/1048576) 12 a6 a6 _).mono ?_;exact a0p
 case s =>have d:Uz.wrap (M/33554432*32)=M/33554432*32:=bh;have m:bits .and .u64 (M/128) 31=M/128%32:=cn (M/128) 5 ab ab a6;have o:bits .or .u64 (M/33554432*32) (M/128%32)=M/33554432*32+M/128%32:=(by have:=mG (M/33554432*32) (M/128%32) 0 5 ab ab ab ab ab ab;simpa using this);simp only [Fm.str];go_enter func142,ntmps142;go_wp2_with fail;refine (dO (M/33554432*32+M/128%32) 12 a6 a6 _).mono ?_;exact a0p
 case b =>
  have d:Uz.wrap (M/2147483648*4096)=M/2147483648*4096:=bh;have m:bits .and .u64 (M/128) 1=M/128%2:=cn (M/128) 1 ab ab a6;have o:Uz.wrap (M/128%2*2048)=M/128%2*2048:=bh;have p:bits .or .u64 (M/2147483648*4096) (M/128%2*2048)=M/2147483648*4096+M/128%2*2048 :=
   mG (M/2147483648*4096) (M/128%2) 11 1 ab ab ab ab ab ab
  have q:bits .and .u64 (M/33554432) 63=M/33554432%64:=cn (M/33554432) 6 ab ab a6;have t:Uz.wrap (M/33554432%64*32)=M/33554432%64*32:=bh;have y:bits .or .u64 (M/2147483648*4096+M/128%2*2048) (M/33554432%64*32)=M/2147483648*4096+M/128%2*2048+M/33554432%64*32 :=
   mG (M/2147483648*4096+M/128%2*2048) (M/33554432%64) 5 6 ab ab ab ab ab ab
  have z:bits .and .u64 (M/256) 15=M/256%16:=cn (M/256) 4 ab ab a6;have A:Uz.wrap (M/256%16*2)=M/256%16*2:=bh;have l:bits .or .u64 (M/2147483648*4096+M/128%2*2048+M/33554432%64*32) (M/256%16*2)=M/2147483648*4096+M/128%2*2048+M/33554432%64*32+M/256%16*2 :=
   mG (M/2147483648*4096+M/128%2*2048+M/33554432%64*32) (M/256%16) 1 4 ab ab ab ab ab ab
  simp only [Fm.str];go_enter func142,ntmps142;go_wp2_with fail;refine (dO (M/2147483648*4096+M/128%2*2048+M/33554432%64*32+M/256%16*2) 13 a6 a6 _).mono ?_;exact a0p
 case u =>have d:Uz.wrap (M/4096*4096)=M/4096*4096:=bh;simp only [Fm.str];go_enter func142,ntmps142;go_wp2_with fail;refine (dO (M/4096*4096) 32 a6 a6 _).mono ?_;exact a0p
 case j =>
  have d:Uz.wrap (M/2147483648*1048576)=M/2147483648*1048576:=bh;have m:bits .and .u64 (M/4096) 255=M/4096%256:=cn (M/4096) 8 ab ab a6;have o:Uz.wrap (M/4096%256*4096)=M/4096%256*4096:=bh;have p:bits .or .u64 (M/2147483648*1048576) (M/4096%256*4096)=M/2147483648*1048576+M/4096%256*4096 :=
   mG (M/2147483648*1048576) (M/4096%256) 12 8 ab ab ab ab ab ab
  have q:bits .and .u64 (M/1048576) 1=M/1048576%2:=cn (M/1048576) 1 ab ab a6;have t:Uz.wrap (M/1048576%2*2048)=M/1048576%2*2048:=bh;have y:bits .or .u64 (M/2147483648*1048576+M/4096%256*4096) (M/1048576%2*2048)=M/2147483648*1048576+M/4096%256*4096+M/1048576%2*2048 :=
   mG (M/2147483648*1048576+M/4096%256*4096) (M/1048576%2) 11 1 ab ab ab ab ab ab
  have z:bits .and .u64 (M/2097152) 1023=M/2097152%1024:=cn (M/2097152) 10 ab ab a6;have A:Uz.wrap (M/2097152%1024*2)=M/2097152%1024*2:=bh;have l:bits .or .u64 (M/2147483648*1048576+M/4096%256*4096+M/1048576%2*2048) (M/2097152%1024*2)=M/2147483648*1048576+M/4096%256*4096+M/1048576%2*2048+M/2097152%1024*2 :=
   mG (M/2147483648*1048576+M/4096%256*4096+M/1048576%2*2048) (M/2097152%1024) 1 10 ab ab ab ab ab ab
  simp only [Fm.str];go_enter func142,ntmps142;go_wp2_with fail;refine (dO (M/2147483648*1048576+M/4096%256*4096+M/1048576%2*2048+M/2097152%1024*2) 21 a6 a6 _).mono ?_;exact a0p
 case h =>have d:bits .and .u64 (M/1048576) 63=M/1048576%64:=cn (M/1048576) 6 ab ab a6;have F:Hid (nM .h M=M/1048576%64):=oP (M/1048576%64) ab ab;exact a0q
 case w =>have d:bits .and .u64 (M/1048576) 31=M/1048576%32:=cn (M/1048576) 5 ab ab a6;have F:Hid (nM .w M=M/1048576%32):=oP (M/1048576%32) ab ab;exact a0q
 case a =>have d:bits .and .u64 (M/33554432) 3=M/33554432%4:=cn (M/33554432) 2 ab ab a6;have F:Hid (nM .a M=M/33554432%4):=oP (M/33554432%4) ab ab;exact a0q
 case c =>have F:Hid (nM .c M=M/1048576):=oP (M/1048576) ab ab;exact a0q
 case r =>have F:Hid (nM .r M=0):=oP (0) ab ab;exact a0q
 case x =>have F:Hid (nM .x M=0):=oP (0) ab ab;exact a0q
theorem N0 {r:Row} (h:xK k r=true):r.fm=.x->0<=r.op/\r.op<128/\0<=r.more/\r.more<4096:=by intro a;simp only [xK,a,Bool.and_eq_true,decide_eq_true_eq] at h;omega
theorem vt (x:Int) (h0:0<=x) (h1:x<18446744073709551616) (w:World):CB 94 #[.u x] w (mN x):=by
 by_cases c:x<4294967296
 ·have d1:(x/4294967296 != 0)=false:=by simp;omega
  have HH:Hid (∀ k,bZ x 98 0=some k->mN x=.tuple #[(qG k x).val,.bool true]):=λk (h:bZ x 98 0=some k)=>BV x k c h
  have HM:Hid (bZ x 98 0=none->mN x=.tuple #[qI.val,.bool false]):=λ(h:bZ x 98 0=none)=>xL x c h
  obtain ⟨V,K⟩:∃ V,V=mN x:=⟨_,rfl⟩
  rw [<- K] at HH HM ⊢
  clear K
  go_enter func94,ntmps94
  go_wp2_with fail
  refine (uw _).mono ?_
  rintro e w1 ⟨rfl,R,hb⟩
  have hsz:w.heap.size+1<w1.heap.size:=by have:=R.out.1;simp at this;omega
  have G0:Hid (w1.heap[w.heap.size]?=some (.cells #[.i 0,.i 0,.i 0,.i 0,.i 0] 80 (0,0))):=by
   show _=_
   rw [hb.block _ bc];exact qJ w
  have L:Bw w w1:=(bal _ _).trans (hb.mono bc)
  obtain ⟨g,hg⟩:∃ g,g=(w.alloc (.cells #[.i 0,.i 0,.i 0,.i 0,.i 0] 80)).heap.size:=⟨_,rfl⟩
  rw [<- hg] at R ⊢
  clear hb hg
  go_wp2_with fail
  go_loopw [5] (λi wr=>∃ k:Nat,k<=98/\i=.i k/\Hid (bZ x (98-k) k=bZ x 98 0)/\Hid (AE wr g) /\
   Hid (wr.heap[w.heap.size]?=some (.cells #[.i 0,.i 0,.i 0,.i 0,.i 0] 80 (0,0)))/\Bw w wr)
   (λi _=>98-(intOf i).toNat)
  case atStart=>exact ⟨0,ab,rfl,(rfl:bZ x (98-0) 0=bZ x 98 0),R,G0,L⟩
  case round =>
   obtain ⟨k,hk,rfl,hf,B,G,M⟩:=hrel
   clear G0 L R
   by_cases l:k<98
   ·have W:=N0 (FZ k l)
    obtain ⟨r,q⟩:∃ r,r=bO k:=⟨_,rfl⟩
    obtain ⟨c0,X,c2,c3,c4⟩:=B.out.2 k l r q
    have MB:decide (fE k r.fm r.op r.f3 r.more x)=mv k x:=by rw [q];rfl
    have U:Hid (Value.agg #[.i ((k:Int)+1),.i (Le r.fm x),.i (aV r.fm x),.i (bV r.fm x),.i (nM r.fm x)]=(qG k x).val):=by
     show _=_
     rw [q];rfl
    rw [<- q] at W
    have d:=BW k l r.name r.fm r.op r.f3 r.more x h0 c W
    rw [MB] at d
    clear q MB W
    obtain ⟨nm,f,o,z,m⟩:=r
    simp only at c0 X c2 c3 c4 U d
    obtain ⟨s,O⟩:∃ s,s=f.str:=⟨_,rfl⟩
    rw [<- O] at X d
    obtain ⟨mb,E⟩:∃ b,b=mv k x:=⟨_,rfl⟩
    rw [<- E] at d
    have LM:Hid (∀ w:World,CB 141 #[.i k,.agg #[.string nm,.string s,.u o,.i z,.u m],.u x] w (.bool mb)):=d
    have I:Hid (mb=mv k x):=E
    have HS:Hid (s=f.str):=O
    clear d E O
    go_wp2_with fail
    refine (LM.out _).mono ?_
    rintro e j ⟨rfl,t⟩
    have D:Bw wr j:=(bal _ _).trans (t.mono bc)
    have J:j.cell? ⟨wr.heap.size,1,none⟩=some (.string s):=by
     rw [t.cell bc]
     rw [cell_of_row _ _ _ _ _ _ (heap_alloc_new _ _)];rfl
    have S:j.heap[w.heap.size]?=some (.cells #[.i 0,.i 0,.i 0,.i 0,.i 0] 80 (0,0)):=jp D G.out
    have Z:Hid (AE j g):=AE.below B.out B.out.1 D
    have C:=aa M D
    have N:wr.heap.size<j.heap.size:=by have:=t.size;simp at this;omega
    have Y:∀ o,(j.alloc o).cell? ⟨wr.heap.size,1,none⟩=some (.string s):=λo=>(((Below.refl j.heap.size j).alloc (Nat.le_refl _) o).cell (p:=⟨wr.heap.size,1,none⟩) N).trans J
    have H:∀ o,(j.alloc o).heap[w.heap.size]?=some (.cells #[.i 0,.i 0,.i 0,.i 0,.i 0] 80 (0,0)):=λo=>jp ((Below.refl j.heap.size j).alloc (Nat.le_refl _) o) S
    have u:Hid (∀ o,(j.alloc o).heap[w.heap.size]?=some (.cells #[.i 0,.i 0,.i 0,.i 0,.i 0] 80 (0,0))):=H
    have T:Hid (j.heap[w.heap.size]?=some (.cells #[.i 0,.i 0,.i 0,.i 0,.i 0] 80 (0,0))):=S
    clear S H
    clear t LM c0 X c2 c3 c4
    cases mb with
    | true =>
      have F:Hid (V=.tuple #[(qG k x).val,.bool true]):=HH.out k (hf.out.symm.trans (sH x k l I.out.symm))
      have A7:bits .and .u64 (x/128) 31=x/128%32:=cn (x/128) 5 ab ab a6
      have A15:bits .and .u64 (x/32768) 31=x/32768%32:=cn (x/32768) 5 ab ab a6
      have A20:bits .and .u64 (x/1048576) 31=x/1048576%32:=cn (x/1048576) 5 ab ab a6
      have O:=HS.out
      subst O
      have A:=Iz f x h0 c
      obtain ⟨y4,P⟩:∃ y,y=nM f x:=⟨_,rfl⟩
      rw [<- P] at A U
      have LI:Hid (∀ w:World,CE 142 #[.string f.str,.u x] w (.i y4)):=A
      clear A P HS
      cases f
      all_goals (
       simp only [Fm.str] at J Y LI ⊢
       go_wp2_with fail
       refine (LI.out _).mono ?_
       rintro e w3 ⟨rfl,hw3⟩
       have hw4:=hw3.symm
       subst hw4
       go_wp2_with (refine wpList_store_rowTo rfl 80 (.tmp 2) (.tmp 82) rfl rfl w.heap.size _ rfl rfl 80 _ (u.out _) fI rfl (oG _ _ _ _ _) ?_)
       refine bodyPost_ret (gJ results94 _ _ _ _ _ _ _ rfl (setRow_heap _ _ _ _ _ _ (u.out _)) underlying80 rfl fI) rfl ⟨?_,?_⟩
       ·rw [F.out,<- U.out];rfl
       ·exact aF (C.alloc C.size _) (Nat.le_refl _) _)
    | false =>
      have F:Hid (bZ x (98-(k+1)) (k+1)=bZ x 98 0):=(qH x k l I.out.symm).symm.trans hf.out
      go_wp2_with fail
      go_roundw
      case rel=>exact ⟨k+1,ab,by go_num,F,Z,T,C⟩
      case measure=>simp [intOf];omega
   ·have hk2:k=98:=by omega
    subst hk2
    have F:Hid (V=.tuple #[qI.val,.bool false]):=HM.out hf.out.symm
    have G3:=G.out
    go_wp2_with (refine wpList_store_rowTo rfl 80 (.tmp 2) (.tmp 83) rfl rfl w.heap.size #[.i 0,.i 0,.i 0,.i 0,.i 0] rfl rfl 80 _ G3 fI rfl (oG _ _ _ _ _) ?_)
    refine bodyPost_ret (gJ results94 _ _ _ _ _ _ _ rfl (setRow_heap _ _ _ _ _ _ G3) underlying80 rfl fI) rfl ⟨?_,?_⟩
    ·rw [F.out];rfl
    ·exact aF M (Nat.le_refl _) _
 ·have d1:(x/4294967296 != 0)=true:=by simp;omega
  have F:Hid (mN x=.tuple #[qI.val,.bool false]):=BU x c
  obtain ⟨V,K⟩:∃ V,V=mN x:=⟨_,rfl⟩
  rw [<- K] at F ⊢
  clear K
  go_enter func94,ntmps94
  go_wp2_with fail
  refine bodyPost_ret (gJ results94 _ _ _ _ _ _ _ rfl (qJ w) underlying80 rfl fI) rfl ⟨?_,?_⟩
  ·rw [F.out];rfl
  ·exact bal _ _
def AF.fn:AF->Nat
 | .sum=>277 | .slt=>278 | .sltu=>279 | .xor=>280 | .or=>281 | .and=>282
 | .sl=>283 | .sr=>284 | .sra=>285 | .sub=>287 | .mul=>288
 | .mulh=>289 | .mulhsu=>290 | .high=>291 | .div=>292 | .divu=>293
 | .rem=>294 | .remu=>295
def SD.fn:SD->Nat
 | .low=>265 | .sgn=>264 | .five=>286
theorem AF.calls (f:AF) (a b:Int) (g:0<=a) (h:a<18446744073709551616) (c:0<=b) (d:b<18446744073709551616) (w:World):Calls prog f.fn #[.u a,.u b] w λe i=>e=.returned (.u (f.v a b))/\∃ m,i=w.drewN m:=by
 cases f;·exact bj (xo a b w)
 ·exact bj (uE a b w)
 ·exact bj (yG a b w)
 ·exact bj (xp a b w)
 ·exact bj (AW a b w)
 ·exact bj (xq a b w)
 ·exact na (wv a b c d w)
 ·exact na (uD a b c d w)
 ·exact na (oc a b c d w)
 ·exact bj (rk a b w)
 ·exact bj (wu a b w)
 ·exact bj (uF a b g h c d w)
 ·exact bj (jh a b g h c d w)
 ·exact bj (nb a b g h c d w)
 ·exact bj (pJ a b c d w)
 ·exact bj (rl a b w)
 ·exact bj (uG a b c d w)
 ·exact bj (yH a b w)
theorem SD.calls (s:SD) (x:Int) (a:0<=x) (b:x<18446744073709551616) (w:World):Calls prog s.fn #[.u x] w λe c=>e=.returned (.u (s.v x))/\∃ m,c=w.drewN m:=by
 cases s;·exact bj (sf x a w)
 ·exact bj (po x w)
 ·exact na (AV x a b w)
def AO.cells:AO->List Value
 | .d f=>[.func (.func f.fn) #[] #[],.nilFunc,.nilFunc]
 | .w f l r=>[.func (.func f.fn) #[] #[],.func (.func l.fn) #[] #[],.func (.func r.fn) #[] #[]]
def aluCells:Array Value:=(QZ.flatMap AO.cells).toArray
def eD:Array Value:=(List.replicate 123 Value.nilFunc).toArray
theorem jC:eD.size=123:=by kernel_rfl
theorem dB:aluCells.size=123:=by kernel_rfl
theorem jD:(prog.info? 297).bind (·.zero)=some (.agg eD):=by kernel_rfl
theorem jE:aluCells.all (·.oneCell')=true:=by kernel_rfl
theorem iF:(prog.info? 297).map (·.size)=some 123:=by kernel_rfl
theorem zB:QZ.length=41:=by rfl
theorem BX (h:f<41) (j:Nat) (a:j<3):aluCells[f*3+j]?=(ob f).cells[j]?:=by
 have:=ur AO.cells 3 QZ (by intro x _;cases x<;>rfl) f (by rw [zB];exact h) j a;have e:QZ[f]'(by rw [zB];exact h)=ob f:=by simp [ob,List.getD,List.getElem?_eq_getElem (show f<QZ.length by rw [zB];exact h)]
 rw [e] at this;rw [<- this];simp [aluCells]
theorem BY:CB 261 #[] d (.agg aluCells):=by go_enter func261,ntmps261;apply wp_seq_k;intro c b;apply wp_region_list;refine cD rfl 297 rfl (some 0) rfl _ jD ?_;apply wpList_nil;refine b _ _ ?_;clear b c;apply wp_seq_k;intro c b;apply wp_region_lit;refine ku 42 0 42 (.p d.heap.size 0) (.agg aluCells) a4 ?_;intro m f w j;have g:(d.alloc (.cells (Value.agg eD).cells 297)).heap[d.heap.size]?=some (.cells eD 297 (0,0)):=heap_alloc_new _ _;refine wpList_store_rowTo rfl 297 (.tmp 0) (.tmp 42) rfl rfl d.heap.size aluCells f w 297 eD g (by rw [iF,dB]) (by rw [jC,dB]) jE ?_;apply wpList_nil;refine b _ _ ?_;clear b c;apply wp_ret;refine bodyPost_ret (results_cell_row results261 _ _ _ _ _ _ _ f (setRow_heap _ _ _ _ _ _ g) underlying297 rfl (by rw [iF,dB])) j ⟨rfl,?_⟩;exact aF (bal _ _) (Nat.le_refl _) _
theorem oX:Calls prog 261 #[] d λe a=>∃ T,e=.returned T/\Hid (T=.agg aluCells)/\Bw d a :=
 (BY d).mono λe a h=>⟨.agg aluCells,h.1,(rfl:Value.agg aluCells=.agg aluCells),h.2⟩
theorem AF.enters (f:AF):(prog.funcs[f.fn]?).map (λa=>(a.name == "runtime.NumGoroutine",a.body.isSome))=some (false,true):=by cases f<;>kernel_rfl
theorem SD.enters (s:SD):(prog.funcs[s.fn]?).map (λa=>(a.name == "runtime.NumGoroutine",a.body.isSome))=some (false,true):=by cases s<;>kernel_rfl
def Ll (w:World) (g:Nat):Prop:=g<w.heap.size/\∀ k,k<41->∀ a b c,(ob k).cells=[a,b,c]->w.cell? ⟨g,k*3,none⟩=some a/\w.cell? ⟨g,k*3+1,none⟩=some b/\w.cell? ⟨g,k*3+2,none⟩=some c
theorem F5 {t:TypeId} (h:x.heap[k]?=some (.cells aluCells t (0,0))):Ll x k:=by
 refine ⟨?_,λg c f i l a=>?_⟩
 ·by_cases d:k<x.heap.size;·exact d
  ·rw [Array.getElem?_eq_none ab] at h;cases h
 ·have e:∀ j,j<3->x.cell? ⟨k,g*3+j,none⟩=(ob g).cells[j]?:=(by intro j b;rw [cell_of_row _ _ _ _ _ _ h];exact BX g c j b);rw [a] at e;exact ⟨e 0 a6,e 1 a6,e 2 a6⟩
theorem BZ:(binOp .eql 151 (.func (.func f) #[] #[]) .nilFunc).run prog d=.ok (.bool false) d:=by kernel_rfl
theorem Ei:(binOp .eql 151 .nilFunc .nilFunc).run prog d=.ok (.bool true) d:=by kernel_rfl
theorem sJ:(prog.info? 296).map (·.size)=some 3:=by kernel_rfl
theorem Lm:(#[Value.func (.func f) #[] #[],.func (.func l) #[] #[],.func (.func T) #[] #[]]:Array Value).all (·.oneCell')=true:=by simp [Value.oneCell']
theorem Ln:(#[Value.func (.func f) #[] #[],.nilFunc,.nilFunc]:Array Value).all (·.oneCell')=true:=by simp [Value.oneCell']
theorem IA (hk:f<41) (a b:Int) (z:0<=a) (I:a<18446744073709551616) (A:0<=b) (J:b<18446744073709551616) (k:AF) (l r:SD) (hr:Hid (ob f=.w k l r)) (w:World): CB 228 #[.i ((f:Int)+22),.u a,.u b] w (.tuple #[.u (av 32 (k.v (l.v a) (r.v b))),.bool true]):=by
 have N:wrap64 ((f:Int)+22-22)=f:=by unfold wrap64;omega
 have R:decide ((f:Int)+22<22)=false:=by simp;omega
 have S:decide (41<=(f:Int))=false:=by simp;omega
 have C:=BZ;have K:=mH k.enters;have L:=mH l.enters;have M:=mH r.enters;go_enter func228,ntmps228;go_wp2_with fail;refine (oX _).mono ?_;rintro e j ⟨T,rfl,H,u⟩;have B:(j.alloc (.cells (Value.agg eD).cells 297)).heap[j.heap.size]?=some (.cells eD 297 (0,0)):=heap_alloc_new _ _;obtain ⟨c,o⟩:∃ c,c=(j.alloc (.cells (Value.agg eD).cells 297)).setRow j.heap.size aluCells:=⟨_,rfl⟩;have D:Hid (Ll c j.heap.size):=by show Ll _ _;rw [o];exact F5 (setRow_heap _ _ _ _ _ _ B)
 have s:Hid (c=(j.alloc (.cells (Value.agg eD).cells 297)).setRow j.heap.size aluCells):=o;clear o;have y:(c.alloc (.cells #[.nilFunc,.nilFunc,.nilFunc] 296)).heap[c.heap.size]?=some (.cells #[.nilFunc,.nilFunc,.nilFunc] 296 (0,0)):=heap_alloc_new _ _;obtain ⟨q,p⟩:∃ q,q=(c.alloc (.cells #[.nilFunc,.nilFunc,.nilFunc] 296)).setRow c.heap.size #[.func (.func k.fn) #[] #[],.func (.func l.fn) #[] #[],.func (.func r.fn) #[] #[]]:=⟨_,rfl⟩;have d:q.heap[c.heap.size]?=some (.cells #[.func (.func k.fn) #[] #[],.func (.func l.fn) #[] #[],.func (.func r.fn) #[] #[]] 296 (0,0)):=by rw [p];exact setRow_heap _ _ _ _ _ _ y
 have U:q.cell? ⟨c.heap.size,0,none⟩=some (.func (.func k.fn) #[] #[]):=cell_of_row _ _ _ _ _ _ d;have V:q.cell? ⟨c.heap.size,1,none⟩=some (.func (.func l.fn) #[] #[]):=cell_of_row _ _ _ _ _ _ d;have W:q.cell? ⟨c.heap.size,2,none⟩=some (.func (.func r.fn) #[] #[]):=cell_of_row _ _ _ _ _ _ d;have t:Hid (q=(c.alloc (.cells #[.nilFunc,.nilFunc,.nilFunc] 296)).setRow c.heap.size #[.func (.func k.fn) #[] #[],.func (.func l.fn) #[] #[],.func (.func r.fn) #[] #[]]):=p;clear p d;obtain ⟨O,P,Q⟩:=D.out.2 f hk _ _ _ (by rw [hr.out];rfl);go_wp2_with (first | refine cD rfl 297 rfl (some 8) rfl _ jD ?_ | (refine wpList_store_rowTo rfl 297 (.tmp 8) (.tmp 10) rfl rfl j.heap.size aluCells rfl H.out 297 eD B (by rw [iF,dB]) (by rw [jC,dB]) jE ?_;rw [<- s.out]) | (refine wpList_store_rowTo rfl 296 (.tmp 9) (.tmp 21) rfl rfl c.heap.size #[.func (.func k.fn) #[] #[],.func (.func l.fn) #[] #[],.func (.func r.fn) #[] #[]] rfl rfl 296 _ y sJ rfl (Lm _ _ _) ?_;rw [<- t.out]));have F:Hid (∀ w:World,Calls prog l.fn #[.u a] w λe g=>e=.returned (.u (l.v a))/\∃ m,g=w.drewN m):=SD.calls l a z I;have HR:Hid (∀ w:World,Calls prog r.fn #[.u b] w λe g=>e=.returned (.u (r.v b))/\∃ m,g=w.drewN m):=SD.calls r b A J;have E:Hid (∀ w:World,Calls prog k.fn #[.u (l.v a),.u (r.v b)] w λe g=>e=.returned (.u (k.v (l.v a) (r.v b)))/\∃ m,g=w.drewN m):=AF.calls k _ _ (l.bd a z).1 (l.bd a z).2 (r.bd b A).1 (r.bd b A).2;have G:Hid (∀ (x:Int) (w:World),Calls prog 153 #[.u x,.i 32] w λe g=>e=.returned (.u (av 32 x))/\∃ m,g=w.drewN m):=λx w=>bj (iW x 32 ab ab w);go_quiet (first | with_reducible refine Calls.quiet_of (F.out _) | with_reducible refine Calls.quiet_of (HR.out _) | with_reducible refine Calls.quiet_of (E.out _) | with_reducible refine Calls.quiet_of (G.out _ _))
 go_wp2_with fail;go_ret2;refine ⟨rfl,qe ?_ _⟩;rw [t.out,s.out];refine aF (Below.alloc (aF (u.alloc u.size _) u.size _) ?_ _) ?_ _;·rw [setRow_size];exact Nat.le_trans u.size bc
 ·rw [setRow_size];exact Nat.le_trans u.size bc
theorem IB (hk:f<41) (a b:Int) (A:0<=a) (B:a<18446744073709551616) (C:0<=b) (D:b<18446744073709551616) (k:AF) (hr:Hid (ob f=.d k)) (w:World): CB 228 #[.i ((f:Int)+22),.u a,.u b] w (.tuple #[.u (k.v a b),.bool true]):=by
 have F:wrap64 ((f:Int)+22-22)=f:=by unfold wrap64;omega
 have K:decide ((f:Int)+22<22)=false:=by simp;omega
 have L:decide (41<=(f:Int))=false:=by simp;omega
 have u:=Ei;have E:=mH k.enters;go_enter func228,ntmps228;go_wp2_with fail;refine (oX _).mono ?_;rintro e g ⟨T,rfl,z,q⟩;have t:(g.alloc (.cells (Value.agg eD).cells 297)).heap[g.heap.size]?=some (.cells eD 297 (0,0)):=heap_alloc_new _ _;obtain ⟨c,j⟩:∃ c,c=(g.alloc (.cells (Value.agg eD).cells 297)).setRow g.heap.size aluCells:=⟨_,rfl⟩;have y:Hid (Ll c g.heap.size):=by show Ll _ _;rw [j];exact F5 (setRow_heap _ _ _ _ _ _ t)
 have o:Hid (c=(g.alloc (.cells (Value.agg eD).cells 297)).setRow g.heap.size aluCells):=j;clear j;have r:(c.alloc (.cells #[.nilFunc,.nilFunc,.nilFunc] 296)).heap[c.heap.size]?=some (.cells #[.nilFunc,.nilFunc,.nilFunc] 296 (0,0)):=heap_alloc_new _ _;obtain ⟨m,l⟩:∃ m,m=(c.alloc (.cells #[.nilFunc,.nilFunc,.nilFunc] 296)).setRow c.heap.size #[.func (.func k.fn) #[] #[],.nilFunc,.nilFunc]:=⟨_,rfl⟩;have d:m.heap[c.heap.size]?=some (.cells #[.func (.func k.fn) #[] #[],.nilFunc,.nilFunc] 296 (0,0)):=by rw [l];exact setRow_heap _ _ _ _ _ _ r
 have M:m.cell? ⟨c.heap.size,0,none⟩=some (.func (.func k.fn) #[] #[]):=cell_of_row _ _ _ _ _ _ d;have N:m.cell? ⟨c.heap.size,1,none⟩=some .nilFunc:=cell_of_row _ _ _ _ _ _ d;have O:m.cell? ⟨c.heap.size,2,none⟩=some .nilFunc:=cell_of_row _ _ _ _ _ _ d;have p:Hid (m=(c.alloc (.cells #[.nilFunc,.nilFunc,.nilFunc] 296)).setRow c.heap.size #[.func (.func k.fn) #[] #[],.nilFunc,.nilFunc]):=l;clear l d;obtain ⟨H,I,J⟩:=y.out.2 f hk _ _ _ (by rw [hr.out];rfl);go_wp2_with (first | refine cD rfl 297 rfl (some 8) rfl _ jD ?_ | (refine wpList_store_rowTo rfl 297 (.tmp 8) (.tmp 10) rfl rfl g.heap.size aluCells rfl z.out 297 eD t (by rw [iF,dB]) (by rw [jC,dB]) jE ?_;rw [<- o.out]) | (refine wpList_store_rowTo rfl 296 (.tmp 9) (.tmp 21) rfl rfl c.heap.size #[.func (.func k.fn) #[] #[],.nilFunc,.nilFunc] rfl rfl 296 _ r sJ rfl (Ln _) ?_;rw [<- p.out]));refine (AF.calls k a b A B C D _).mono ?_;rintro e P ⟨rfl,nq,s⟩;subst s;go_wp2_with fail;go_ret2;refine ⟨rfl,qe ?_ _⟩;rw [p.out,o.out];refine aF (Below.alloc (aF (q.alloc q.size _) q.size _) ?_ _) ?_ _;·rw [setRow_size];exact Nat.le_trans q.size bc
 ·rw [setRow_size];exact Nat.le_trans q.size bc
theorem zC (a:(Lit.int .i64 c).wf=true) (h:yy c=false) (w:World): CB 228 #[.i c,.u m,.u M] w (.tuple #[.u 0,.bool false]):=by
 have l:¬ (22<=c/\c<=62):=by simpa [yy] using h
 have p:=Dz a;clear a h;by_cases f:c<22;·have o:decide (c<22)=true:=e9;clear l f;go_enter func228,ntmps228;go_wp2_with fail;refine (oX _).mono ?_;rintro e d ⟨T,rfl,g,op⟩;have j:(d.alloc (.cells (Value.agg eD).cells 297)).heap[d.heap.size]?=some (.cells eD 297 (0,0)):=heap_alloc_new _ _;go_wp2_with (first | refine cD rfl 297 rfl (some 8) rfl _ jD ?_ | (refine wpList_store_rowTo rfl 297 (.tmp 8) (.tmp 10) rfl rfl d.heap.size aluCells rfl g.out 297 eD j (by rw [iF,dB]) (by rw [jC,dB]) jE ?_));go_ret2;exact ⟨rfl,aF (op.alloc op.size _) op.size _⟩
 ·have o:decide (c<22)=false:=e9;have s:wrap64 (c-22)=c-22:=lg;have r:decide (41<=c-22)=true:=a8;clear l f;go_enter func228,ntmps228;go_wp2_with fail;refine (oX _).mono ?_;rintro e d ⟨T,rfl,g,op⟩;have j:(d.alloc (.cells (Value.agg eD).cells 297)).heap[d.heap.size]?=some (.cells eD 297 (0,0)):=heap_alloc_new _ _;go_wp2_with (first | refine cD rfl 297 rfl (some 8) rfl _ jD ?_ | (refine wpList_store_rowTo rfl 297 (.tmp 8) (.tmp 10) rfl rfl d.heap.size aluCells rfl g.out 297 eD j (by rw [iF,dB]) (by rw [jC,dB]) jE ?_));go_ret2;exact ⟨rfl,aF (op.alloc op.size _) op.size _⟩
theorem sK (a b:Int) (n:(Lit.int .i64 c).wf=true) (op:0<=a) (g:a<18446744073709551616) (i:0<=b) (j:b<18446744073709551616) (w:World): CB 228 #[.i c,.u a,.u b] w (.tuple #[.u (m7 c a b),.bool (yy c)]):=by
 cases h:yy c with
 | false =>have e:m7 c a b=0:=(by simp [m7,h]);rw [e];exact zC c a b n h w
 | true =>
   have p:22<=c/\c<=62:=(by simpa [yy] using h);obtain ⟨k,rfl⟩:∃ k:Nat,c=(k:Int)+22:=⟨(c-22).toNat,ab⟩;have e:m7 ((k:Int)+22) a b=(ob k).v a b:=(by simp [m7,h]);rw [e];cases m:ob k with
   | d f=>exact IB k ab a b op g i j f m w
   | w f l r=>exact IA k ab a b op g i j f l r m w
end Go.Proofs.YtfagphfjfhpmjaaGreatDoor
