/- Own lemmas. -/
import Derived.Test.YtfekjlcnnjhofaaGreatDoorAut
import Derived.WalkKit
import Derived.Conc.LoneCalls
namespace Go.Proofs.YtfekjlcnnjhofaaGreatDoor
open Bool renaming and_eq_true->I5
open Go renaming bits->D4,World->D8,Value->F0,Oper->F3,execOp->G1,Program->H8,Frame->I1,Exit->I2,stepG_op->I3,step_lone_go->I4
open Int renaming pow_pos->K0,mul_comm->K1,mul_le_mul_of_nonneg_right->L0,toNat_natCast->L6,emod_eq_of_lt->N1,mul_nonneg->O1,pow_succ->P2,pow_add->R4
open List renaming all_eq_true->R5,range->R6,getElem?_eq_none->R7,map_congr_left->R8,mem_range->S2
open Nat renaming lt_of_succ_le->S5,blt->T3,beq->T4
open Region renaming wanted->D1,ready->D2,binds->D3
open _root_.Array renaming getD_eq_getD_getElem?->A5,getElem?_setIfInBounds_ne->A6,getElem?_eq_some_iff->A8,getElem?_eq_getElem->A9,getD->C5,mem_toList_iff->C6
set_option linter.unusedVariables false
variable {x:Nat} (k n:Int) (y:List Int) (f a:Nat) (b:Int)
def bf (n:Nat):Bool:=decide (4096<=n/\n<=65536/\n%4096=0)
theorem gu (h:bf x):4096<=x/\x<=65536:=by unfold bf at h;have:=of_decide_eq_true h;omega
def jt (s:Int):Bool:=decide (s=1\/s=2\/s=4\/s=8)
def gQ (n:Nat) (addr size:Int):Bool:=bf n&&jt size&&decide (2147483648<=addr/\addr-2147483648+size<=n)
theorem ku {addr size:Int} (h:gQ x addr size): bf x/\jt size/\2147483648<=addr/\addr-2147483648+size<=x/\1<=size/\size<=8/\4096<=x/\x<=65536:=by simp only [gQ,I5,JZ6] at h;obtain ⟨⟨a,b⟩,d,e⟩:=h;have f:size=1\/size=2\/size=4\/size=8:=of_decide_eq_true b;have c:=gu a;exact ⟨a,b,d,e,ab,ab,c.1,c.2⟩
def le (zs:List Int):Nat->Nat->Int
 | _,0=>0
 | f,m+1=>zs.getD f 0+256*le zs (f+1) m
theorem yj (hz:∀ i,0<=y.getD i 0/\y.getD i 0<=255):∀ m f,0<=le y f m/\le y f m<256^m:=by
 intro m;induction m with
 | zero=>intro f;simp [le]
 | succ m b =>intro f;have c:=b (f+1);have d:=hz f;have a:(256:Int)^(m+1)=256*256^m:=(by rw [P2,K1]);rw [le,a];omega
theorem nv (h:f<=a):(256:Int)^f<=256^a:=by obtain ⟨d,rfl⟩:=Nat.exists_eq_add_of_le h;rw [R4];have c:(0:Int)<256^f:=K0 ab;have e:(0:Int)<256^d:=K0 ab;have b:(256:Int)^f*1<=256^f*256^d:=Int.mul_le_mul_of_nonneg_left ab ab;omega
theorem Sd (hz:∀ i,0<=y.getD i 0/\y.getD i 0<=255) (m f:Nat) (hm:m<=7):0<=le y f m/\le y f m<72057594037927936:=by
 have h:=yj y hz m f;have a:=nv m 7 hm;have e7:(256:Int)^7=72057594037927936:=bc
 omega
theorem uM (hz:∀ i,0<=y.getD i 0/\y.getD i 0<=255) (m f:Nat) (hm:m<=8):0<=le y f m/\le y f m<18446744073709551616:=by
 have h:=yj y hz m f;have a:=nv m 8 hm;have e7:(256:Int)^8=18446744073709551616:=bc
 omega
theorem DY:∀ d f m,le y f (d+m)=le y f d+256^d*le y (f+d) m:=by
 intro d;induction d with
 | zero=>intro f m;simp [le]
 | succ d b =>intro f m;have a:(256:Int)^(d+1)=256*256^d:=(by rw [P2,K1]);have e:d+1+m=(d+m)+1:=ab;rw [e,le,le,b (f+1) m,a,show f+1+d=f+(d+1) from ab,Int.mul_add,Int.mul_assoc,Int.add_assoc]
theorem O4:le y f (a+1)=le y f a+y.getD (f+a) 0*256^a:=by rw [DY y a f 1];simp [le];rw [K1]
theorem Se (hz:∀ i,0<=y.getD i 0/\y.getD i 0<=255) (f d m:Nat):le y f (d+m)/256^d=le y (f+d) m:=by rw [DY];have h:=yj y hz d f;have a:(0:Int)<256^d:=K0 ab;rw [Int.add_mul_ediv_left _ _ ab,Int.ediv_eq_zero_of_lt h.1 h.2,Int.zero_add]
theorem KT (hz:∀ i,0<=y.getD i 0/\y.getD i 0<=255) (f d m:Nat):le y f (d+m)%256^d=le y f d:=by rw [DY];have h:=yj y hz d f;rw [Int.add_mul_emod_self_left,N1 h.1 h.2]
theorem uN:(2:Int)^(8*f)=256^f:=by rw [Int.pow_mul];rfl
theorem O5 (hk:f<8) (a:0<=k) (d:k<256^f) (b:0<=n) (e:n<=255): D4 .or .u64 k (n*256^f)=k+n*256^f:=by
 have j:(0:Int)<256^f:=K0 ab;have y:(256:Int)^f<=256^7:=by
  have:f=0\/f=1\/f=2\/f=3\/f=4\/f=5\/f=6\/f=7:=ab
  rcases this with rfl|rfl|rfl|rfl|rfl|rfl|rfl|rfl<;>decide
 have e7:(256:Int)^7=72057594037927936:=bc
 rw [e7] at y;have h:0<=n*256^f:=O1 b ab;have i:n*256^f<=255*72057594037927936:=Int.le_trans (L0 e ab) ab;rw [u64_or k (n*256^f) a ab h ab];have g:k.toNat ||| (n*256^f).toNat=(n*256^f).toNat+k.toNat:=by
  rw [Nat.or_comm];refine nat_join (8*f) _ _ ?_ ?_
  ·have:(n*256^f).toNat=n.toNat*2^(8*f):=by
    obtain ⟨c,rfl⟩:=Int.eq_ofNat_of_zero_le b;rw [<- uN f];have:((c:Int)*2^(8*f))=((c*2^(8*f):Nat):Int):=di
    rw [this,L6,L6]
   rw [this];exact Nat.mul_mod_left _ _
  ·have:(k.toNat:Int)<((2^(8*f):Nat):Int):=by rw [Int.toNat_of_nonneg a,Int.natCast_pow];show k<2^(8*f);rw [uN];exact d
   omega
 rw [g];omega
theorem O6 (hk:f<8) (a:0<=k) (b:k<=255):IntKind.u64.wrap (k*2^(8*f))=k*256^f:=by
 rw [uN,IntKind.wrap_u64];have y:=nv f 7 ab;have e:(0:Int)<256^f:=K0 ab;have e7:(256:Int)^7=72057594037927936:=bc
 have c:0<=k*256^f:=O1 a ab;have d:k*256^f<=255*256^f:=L0 b ab;exact N1 c ab
theorem IQ (hz:∀ i,0<=y.getD i 0/\y.getD i 0<=255) (f k:Nat) (hk:k<8): D4 .or .u64 (le y f k) (IntKind.u64.wrap (y.getD (f+k) 0*2^(8*k)))=le y f (k+1):=by have h:=yj y hz k f;have a:=hz (f+k);rw [O6 _ _ hk a.1 a.2,O5 _ _ _ hk h.1 h.2 a.1 a.2,O4]
theorem yk (c:1<=f) (hm:f<=8) (b:0<=k):IntKind.u64.wrap (k*2^(64-8*f))/2^(64-8*f)=k%256^f:=by
 rw [IntKind.wrap_u64,<- uN];have a:(0:Int)<2^(64-8*f):=K0 ab;have e:(18446744073709551616:Int)=2^(64-8*f)*2^(8*f):=by rw [<- R4,show (64-8*f)+8*f=64 from ab];rfl
 rw [e,K1 k,Int.mul_emod_mul_of_pos _ _ a,Int.mul_ediv_cancel_left _ ab]
theorem Sf (c:0<=k) (d:k<72057594037927936) (a:0<=n) (e:n<=255):D4 .or .u64 (k*256) n=n+256*k:=by
 rw [u64_or (k*256) n ab ab a ab];have b:(k*256).toNat ||| n.toNat=(k*256).toNat+n.toNat:=nat_join 8 _ _ ab ab
 rw [b];omega
def kU (zs:List Int) (f:Nat) (x:Int):Nat->List Int
 | 0=>zs
 | k+1=>(kU zs f x k).set (f+k) (x/256^k%256)
theorem jA:∀ k,(kU y f b k).length=y.length:=by
 intro k;induction k with
 | zero=>rfl
 | succ k a=>simp [kU,a]
theorem KU (hz:∀ zs ∈ y,0<=zs/\zs<=255) (f:Nat) (x:Int):∀ k,∀ zs ∈ kU y f x k,0<=zs/\zs<=255:=by
 intro k;induction k with
 | zero=>exact hz
 | succ k b =>
   intro zs a;rcases List.mem_or_eq_of_mem_set a with h|h;·exact b zs h
   ·subst h;omega
def kH (zs:List Int) (n:Nat) (addr size x:Int):List Int:=if gQ n addr size then kU zs (addr-2147483648).toNat x size.toNat else []
theorem D5 (size x:Int) (hz:y.length=f) (hn:f<=1048576):(kH y f b size x).length<=1048576:=by
 unfold kH;split;·rw [jA];omega
 ·simp
def Wm (k:Int) (n:Nat):List Int:=(R6 n).map λ(i:Nat)=>(k+(i:Int))%256
open Go.RowKit
variable {l:Nat} {x:List Int} {k:Int} (n:List Int) (p m:Int) (a:Nat)
def mst (x:Int):Int:=if (D4 .and .u64 (D4 .and .u64 x 924074/2048) 3==2)=true then D4 .andNot .u64 (D4 .and .u64 x 924074) 6144 else D4 .and .u64 x 924074
def jB (x:Int) (k:Nat):Int :=
 if (D4 .and .u64 (D4 .and .u64 (x/2^(8*k)) 159) 1==0)=true then D4 .andNot .u64 (D4 .and .u64 (x/2^(8*k)) 159) 2 else D4 .and .u64 (x/2^(8*k)) 159
def cT (x:Int):Nat->Int
 | 0=>0
 | k+1=>D4 .or .u64 (cT x k) (IntKind.u64.wrap (jB x k*2^(8*k)))
def bq (p x:Int):Int :=
 if p=0 then mst x else if p=1 then D4 .and .u64 x 46079 else if p=2 then D4 .and .u64 x 546 else if p=3 then D4 .and .u64 x 2730
 else if p=4\/p=10 then D4 .andNot .u64 x 2 else if p=6\/p=12 then D4 .andNot .u64 x 3 else if p=7\/p=13 then D4 .and .u64 x 9223372036854775823
 else if p=16 then cT x 4 else if p=17\/p=18\/p=19\/p=20 then D4 .and .u64 x 18014398509481983 else x
def fL (k:Nat) (x:Int):Bool :=
 if k=9 then (D4 .and .u64 x 2730==x) else if k=15 then (x/1152921504606846976==0)||(x/1152921504606846976==8) else (bq k x==x)
def fH (l:List Int):Nat->Nat->Bool
 | 0,_=>true
 | n+1,k=>fL k (l.getD k 0)&&fH l n (k+1)
def bD (n:Nat) (l:List Int):Bool:=decide (n=22)&&fH l 22 0
theorem D6 (hk:a<22) (h:fL a (n.getD a 0)):fH n (22-a) a=fH n (22-(a+1)) (a+1):=by rw [show 22-a=(22-(a+1))+1 from ab,fH,h,Bool.true_and]
theorem IR (hk:a<22) (h:fL a (n.getD a 0)=false):fH n (22-a) a=false:=by rw [show 22-a=(22-(a+1))+1 from ab,fH,h,Bool.false_and]
def dV:List Int:=[768,770,771,772,773,832,833,834,835,836,261,320,321,322,323,384,928,944,945,946,947,2818]
def eB (x:Int):Nat->Nat->Int
 | 0,_=>-1
 | n+1,k=>if (dV.getD k 0==x)=true then (k:Int) else eB x n (k+1)
theorem Bp (hk:a<22) (h:(dV.getD a 0==p)):eB p (22-a) a=(a:Int):=by rw [show 22-a=(22-(a+1))+1 from ab,eB,JZ8 h]
theorem zn (hk:a<22) (h:(dV.getD a 0==p)=false):eB p (22-a) a=eB p (22-(a+1)) (a+1):=by rw [show 22-a=(22-(a+1))+1 from ab,eB,JZ9 (by rw [h];decide)]
def cN (x:Int):Int:=if x=256 then 0 else if x=260 then 3 else if x=324 then 9 else eB x 22 0
theorem D7:∀ n k,k+n<=22->-1<=eB p n k/\eB p n k<22:=by
 intro n;induction n with
 | zero=>intro k _;simp [eB]
 | succ n a =>
   intro k b;unfold eB;split;·omega
   ·exact a (k+1) ab
theorem rO: -1<=cN p/\cN p<22:=by
 have:=D7 p 22 0 ab;unfold cN;split;·omega
 ·split;·omega
  ·split;·omega
   ·exact this
def dB (x:Int):Bool:=(x==3860)||(x==769)||decide (0<=cN x)
def bZ (p:Int):Bool:=(p==0)||(p==1)||(p==3)
def jC (n:Nat) (l:List Int) (x p:Int):Bool:=bD n l&&dB x&&bZ p&&decide ((wrap64 (x.tdiv 256)).tmod 4<=p)
def dF (l:List Int) (x:Int):Int :=
 if x=3860 then 0 else if x=769 then 9223372036856090881 else if x=256 then D4 .and .u64 (l.getD 0 0) 786722
 else if x=260 then D4 .and .u64 (l.getD 3 0) (l.getD 2 0) else if x=324 then D4 .and .u64 (l.getD 9 0) (l.getD 2 0) else l.getD (cN x).toNat 0
def dW (l:List Int) (i:Nat):Int:=D4 .and .u64 (l.getD 16 0/2^(8*i)) 255
def fI (l:List Int) (i:Nat):Bool:=(dW l i/128==1)||(decide (i<3)&&(dW l (i+1)/128==1)&&(D4 .and .u64 (dW l (i+1)/8) 3==1))
def eC (l:List Int) (y:Int):Nat->Int
 | 0=>y
 | k+1=>if (dW l k/128==1)=true then D4 .or .u64 (D4 .andNot .u64 (eC l y k) (IntKind.u64.wrap (255*2^(8*k)))) (D4 .and .u64 (l.getD 16 0) (IntKind.u64.wrap (255*2^(8*k)))) else eC l y k
def iW (old m x:Int):Int:=D4 .or .u64 (D4 .andNot .u64 old m) (D4 .and .u64 x m)
def fZ (l:List Int) (p x:Int):List Int :=
 if p=9 then l.set 9 (iW (l.getD 9 0) 546 x)
 else if p=15 then (if ((x/1152921504606846976==0)||(x/1152921504606846976==8))=true then l.set 15 x else l)
 else if p=16 then l.set 16 (eC l (bq 16 x) 4)
 else if p=17\/p=18\/p=19\/p=20 then (if fI l (p-17).toNat=true then l else l.set p.toNat (bq p x))
 else l.set p.toNat (bq p x)
def cg (l:List Int) (n x:Int):List Int :=
 if n=769\/n=3860 then l
 else if n=256 then l.set 0 (iW (l.getD 0 0) 786722 x)
 else if n=260 then l.set 3 (bq 3 (iW (l.getD 3 0) (l.getD 2 0) x))
 else if n=324 then l.set 9 (iW (l.getD 9 0) (D4 .and .u64 (l.getD 2 0) 2) x)
 else fZ l (cN n) x
theorem KV:(fZ n p m).length=n.length:=by
 unfold fZ;split;·simp
 ·split;·split<;>simp
  ·split;·simp
   ·split;·split<;>simp
    ·simp
theorem qf:(cg n p m).length=n.length:=by
 unfold cg;split;·rfl
 ·split;·simp
  ·split;·simp
   ·split;·simp
    ·exact KV _ _ _
def D9 (m:Nat) (l:List Int) (n p:Int):Bool:=jC m l n p&&!((wrap64 (n.tdiv 1024)).tmod 4==3)
def Ea (m:Nat) (l:List Int) (n p x:Int):List Int:=if D9 m l n p=true then cg l n x else []
theorem Eb {p:Int} (h:jC l x k p):l=22/\dB k:=by simp only [jC,bD,I5,JZ6] at h;exact ⟨h.1.1.1.1,h.1.1.2⟩
def bm (n:Nat) (l:List Int) (p:Int):Bool:=bD n l&&bZ p
theorem gH (h:bm l x k):l=22/\bZ k:=by simp only [bm,bD,I5,JZ6] at h;exact ⟨h.1.1,h.2⟩
def aw (x:Int) (i:Nat):Int:=D4 .and .u64 (x/2^i) 1
def gG (k:Int) (intr:Bool):Int:=match intr with | true=>D4 .or .u64 k 9223372036854775808 | false=>k
def cU (l:List Int) (p:Int) (k:Nat) (intr:Bool):Bool:=!(p==3)&&(aw (match intr with | true=>l.getD 2 0 | false=>l.getD 1 0) k==1)
def ml (s:Int) (a:Bool):Int:=match a with
 | true=>D4 .or .u64 (D4 .or .u64 (D4 .andNot .u64 s 290) (IntKind.u64.wrap (aw s 1*32))) 256
 | false=>D4 .or .u64 (D4 .andNot .u64 s 290) (IntKind.u64.wrap (aw s 1*32))
def mO (s p:Int):Int:=D4 .or .u64 (D4 .or .u64 (D4 .andNot .u64 s 6280) (IntKind.u64.wrap (aw s 3*128))) (IntKind.u64.wrap (p*2048))
def iO (l:List Int) (d:Bool) (p t pc v:Int):List Int:=match d with
 | true=>(((l.set 13 t).set 12 (D4 .andNot .u64 pc 3)).set 14 v).set 0 (ml (l.getD 0 0) (p==1))
 | false=>(((l.set 7 t).set 6 (D4 .andNot .u64 pc 3)).set 8 v).set 0 (mO (l.getD 0 0) p)
def od (l:List Int) (d:Bool):Int:=match d with | true=>l.getD 10 0 | false=>l.getD 4 0
def dX (to k:Int) (jump:Bool):Int:=match jump with
 | true=>IntKind.u64.wrap (D4 .andNot .u64 to 1+IntKind.u64.wrap (4*k))
 | false=>D4 .andNot .u64 to 1
def te (d:Bool):Int:=match d with | true=>1 | false=>3
section
variable {P : H8} {md : Region.Mode} {ops : Array F3} {Q : I2 -> Act -> D8 -> Prop}
def uO (l:Array Bool):Nat:=l.toList.countP (λb=>!b)
theorem uP {l:Array Bool} {i:Nat} (h:l.getD i true=false):uO (l.setIfInBounds i true)+1=uO l:=by
 have b:i<l.size:=by
  by_cases a:i<l.size;·exact a
  ·simp [C5,a] at h
 have d:l.toList[i]=false:=by simpa [C5,b] using h
 have c:i<l.toList.length:=lw
 unfold uO;rw [Array.toList_setIfInBounds,List.set_eq_take_append_cons_drop,JZ8 c];conv=>rhs;rw [<- List.take_append_drop i l.toList,<- List.getElem_cons_drop c]
 simp [List.countP_append,d];omega
theorem O7 {a:Act} {l:List F0} {d:List Deferred} (hs:a.tmps.size=l.length) (hv:∀ i,i<l.length->a.tmps[i]?=l[i]?) (hd:a.defers=d):a=⟨l.toArray,d⟩:=by
 cases a with
 | mk tm c =>
   dsimp only at hs hv hd;subst hd;congr;apply Array.ext';apply List.ext_getElem?;intro i;by_cases b:i<l.length;·have:=hv i b;simpa using this
   ·rw [R7 (by rw [Array.length_toList];omega),R7 (by rw [List.toList_toArray];omega)]
theorem jU {a:Act} {n:Nat} (h:a.tmps.size=n) (t:Nat) (b:T3 t n):∃ u,a.tmps[t]?=some u:=by have:t<n:=S5 (by simpa [T3] using b);exact ⟨_,A9 ab⟩
theorem KX {o:F3} {a:Act} {w:D8} {K:Act->D8->Prop} {v:F0} (h:(G1 a.eval o).run P w=.ok (.value v) w) (b:K (a.put o.dst v) w):o.wp P a w K Q:=by unfold Oper.wp;rw [h];exact b
theorem IS (I:Array Bool->Act->D8->Prop) (hs:∀ listed a w i,I listed a w->i ∈ D2 md ops listed->wpOp P ops Q i (I (listed.setIfInBounds i true)) a w) (he:∀ listed a w,I listed a w->D2 md ops listed=[]->Q .normal a w):∀ fuel listed a w,uO listed<=fuel->I listed a w->wpAny P md ops Q fuel listed a w:=by
 intro fuel;induction fuel with
 | zero =>
   intro listed a w e b;have c:D2 md ops listed=[]:=by
    cases c:D2 md ops listed with
    | nil=>rfl
    | cons x l =>have f:x ∈ D2 md ops listed:=(by rw [c];exact List.mem_cons_self);have:=uP (mem_ready.1 f).1;omega
   exact ⟨c,he _ _ _ b c⟩
 | succ fuel g =>intro listed a w e b;refine ⟨he _ _ _ b,λi d=>?_⟩;have:=uP (mem_ready.1 d).1;exact wpOp_mono (λj k h=>g _ _ _ ab h) (hs _ _ _ _ b d)
def pR (ops:Array F3) (a:Act) (j:Nat):Value:=match ops[j]? with
 | some o=>match o.dst with
   | some d=>a.tmps.getD d undef
   | none=>undef
 | none=>undef
def kf (o:F3) (j:Nat):Bool:=o.after.any (λe=>D3 .any e&&e.on==j)
structure Li (ops:Array F3) (D:Nat->List Nat) (V:Nat->List F0->D8->Prop) (G:D8->Prop) (a0:Act) (listed:Array Bool) (a:Act) (w:D8):Prop where
 sz:listed.size=ops.size
 df:a.defers=a0.defers
 size:a.tmps.size=a0.tmps.size
 g:G w
 off:∀ t,ops.toList.all (λo=>o.dst != some t)->a.tmps[t]?=a0.tmps[t]?
 dn:∀ i o,ops[i]?=some o->listed.getD i true->∀ j,kf o j->listed.getD j false
 vs:∀ i,i<ops.size->listed.getD i true->V i ((D i).map (pR ops a)) w
def Sg (P:H8) (ops:Array F3) (Q:I2->Act->D8->Prop) (D:Nat->List Nat) (V:Nat->List F0->D8->Prop) (G:D8->Prop) (c:Act) (i:Nat) (o:F3):Prop :=
 ∀ a w,G w->(∀ t,ops.toList.all (λo=>o.dst != some t)->a.tmps[t]?=c.tmps[t]?)->a.tmps.size=c.tmps.size ->
  (∀ j,j<ops.size->kf o j->V j ((D j).map (pR ops a)) w) ->
  o.wp P a w (λd b=>∃ v,d=a.put o.dst v/\V i ((D i).map (λj=>if j=i then v else pR ops a j)) b/\G b/\∀ j l,V j l w->V j l b) Q
def Rq (ops:Array F3) (D:Nat->List Nat) (n:Nat):Bool :=
 (R6 ops.size).all λi=>match ops[i]? with
  | none=>false
  | some o=>(D i).all (λj=>(o.dst.isSome&&T4 j i)||(!(T4 j i)&&kf o j))&&o.guard.isNone&&o.after.all (λe=>!Region.binds .any e||T3 e.on i)&&(match o.dst with
    | none=>true
    | some d=>T3 d n&&(R6 ops.size).all λj=>T4 i j||(match ops[j]? with
      | none=>false
      | some a=>match a.dst with
        | none=>true
        | some y=>!(T4 d y)))
structure Rt (ops:Array F3) (D:Nat->List Nat) (n:Nat):Prop where
 dd:∀ (i:Nat) (o:F3),ops[i]?=some o->∀ j ∈ D i,(o.dst.isSome/\j=i)\/(j≠i/\kf o j)
 gd:∀ (i:Nat) (o:F3),ops[i]?=some o->o.guard=none
 down:∀ (i:Nat) (o:F3),ops[i]?=some o->∀ e ∈ o.after,D3 .any e->e.on<i
 lt:∀ (i:Nat) (o:F3) (d:Nat),ops[i]?=some o->o.dst=some d->d<n
 ne:∀ (i:Nat) (o:F3) (d j:Nat) (oj:F3),ops[i]?=some o->o.dst=some d->ops[j]?=some oj->i≠j->oj.dst≠some d
theorem Ec {D:Nat->List Nat} {n:Nat} (h:Rq ops D n):Rt ops D n:=by
 have b:∀ i o,ops[i]?=some o->(∀ j ∈ D i,(o.dst.isSome/\j=i)\/(j≠i/\kf o j))/\o.guard=none/\(∀ e ∈ o.after,D3 .any e->e.on<i)/\∀ d,o.dst=some d->d<n/\∀ j g,ops[j]?=some g->i≠j->g.dst≠some d:=by
  intro i o a
  have s:i<ops.size:=(A8.1 a).1
  have m:=R5.1 h i (S2.2 s)
  rw [a] at m
  simp only [I5] at m
  obtain ⟨⟨⟨v,t⟩,u⟩,k⟩:=m
  refine ⟨λj l=>by
   have c:=R5.1 v j l
   by_cases e:j=i
   ·subst e
    exact .inl ⟨kc,rfl⟩
   ·have e2:T4 j i=false:=by
     cases q:T4 j i with
     | false=>rfl
     | true=>exact absurd (Nat.eq_of_beq_eq_true q) e
    rw [e2] at c
    exact .inr ⟨e,kc⟩,by simpa using t,λe w q=>?_,λd f=>?_⟩
  ·have:=Array.all_eq_true_iff_forall_mem.1 u e w
   rw [q] at this
   have c:T3 e.on i:=by simpa using this
   exact S5 (by simpa [T3] using c)
  ·rw [f] at k
   simp only [I5] at k
   refine ⟨S5 (by simpa [T3] using k.1),λj g l r e=>?_⟩
   have p:=R5.1 k.2 j (S2.2 (A8.1 l).1)
   rw [l] at p
   simp only [e,Bool.or_eq_true,Nat.beq_eq,Nat.beq_refl,Bool.not_true,Bool.false_eq_true,or_false] at p
   exact r p
 exact ⟨λi o a=>(b i o a).1,λi o a=>(b i o a).2.1,λi o a=>(b i o a).2.2.1,λi o d a f=>((b i o a).2.2.2 d f).1,λi o d j g a f=>((b i o a).2.2.2 d f).2 j g⟩
theorem ym {D:Nat->List Nat} {n:Nat} (L:Rt ops D n) {i:Nat} {o:F3} (k:ops[i]?=some o) {j:Nat} (h:j≠i) (a:Act) (v:F0):pR ops (a.put o.dst v) j=pR ops a j:=by
 unfold pR;cases c:ops[j]? with
 | none=>rfl
 | some f =>
   dsimp only;cases g:f.dst with
   | none=>rfl
   | some d =>
     dsimp only;cases b:o.dst with
     | none=>rfl
     | some x =>have:x≠d:=λe=>L.ne j f d i o c g k h (by rw [b,e]);simp [Act.put,A5,A6 this]
theorem xu {id:Nat} {s:Act} {w:D8} (hm:P.follows .mixedOrders) (D:Nat->List Nat) (V:Nat->List F0->D8->Prop) (G:D8->Prop) (S:Rq ops D s.tmps.size) (X:G {w with drawn:=w.drawn+1}) (hs:∀ i o,ops[i]?=some o->Sg P ops Q D V G s i o) (he:∀ a O,G O->(∀ t,ops.toList.all (λo=>o.dst != some t)->a.tmps[t]?=s.tmps[t]?)->a.tmps.size=s.tmps.size->a.defers=s.defers->(∀ i,i<ops.size->V i ((D i).map (pR ops a)) O)->Q .normal a O):(Go.Code.region id ops true).wp P Q s w:=by
 have L:=Ec S
 refine wp_region_any hm (IS (λlisted a w=>Li ops D V G s listed a w) ?_ ?_ _ _ _ _ ?_ ?_)
 ·intro listed a w i b T
  obtain ⟨K,o,c,m⟩:=mem_ready.1 T
  have y:=b.sz
  have p:i<ops.size:=(A8.1 c).1
  have M:∀ j,kf o j->listed.getD j false:=by
   intro j n
   unfold kf at n
   rw [<- Array.any_toList] at n
   obtain ⟨e,C,x⟩:=List.any_eq_true.1 n
   rw [C6] at C
   rw [I5,beq_iff_eq] at x
   have U:=m e C x.1
   rw [x.2] at U
   exact U
  have J:∀ j,listed.getD j false->listed.getD j true:=by
   intro j n
   by_cases F:j<listed.size
   ·simpa [C5,F] using n
   ·simp [C5,F] at n
  unfold wpOp
  simp only [c,D1,L.gd i o c,if_true]
  refine .inl (Oper.wp_mono ?_ (hs i o c a w b.g b.off b.size (λj n hw=>b.vs j n (J j (M j hw)))))
  rintro a' O ⟨v,rfl,hv,hg,z⟩
  refine ⟨by simp [y],?_,?_,hg,?_,?_,?_⟩
  ·cases o.dst<;>exact b.df
  ·rw [<- b.size];cases o.dst<;>simp [Act.put]
  ·intro t W
   have R:o.dst≠some t:=by
    have:=R5.1 W o (by rw [C6];exact Array.mem_of_getElem? c)
    simpa using this
   rw [<- b.off t W]
   cases N:o.dst with
   | none=>rfl
   | some d =>
     have:d≠t:=λe=>R (by rw [N,e])
     simp [Act.put,A6 this]
  ·intro j oj l q k B
   have E:∀ k,listed.getD k false->(listed.setIfInBounds i true).getD k false:=by
    intro k h
    by_cases e:i=k
    ·subst e
     simp [A5,y,p]
    ·simp only [A5,A6 e] at h ⊢
     exact h
   by_cases f:j=i
   ·subst f
    rw [c] at l
    cases l
    exact E k (M k B)
   ·refine E k (b.dn j oj l ?_ k B)
    simp only [A5,A6 (Ne.symm f)] at q ⊢
    exact q
  ·intro j n q
   by_cases f:j=i
   ·subst f
    rwa [R8 (g:=λk=>if k=j then v else pR ops a k) (λk B=>?_)]
    rcases L.dd j o c k B with ⟨u,A⟩|⟨u,_⟩
    ·subst A
     rw [JZ8 rfl]
     obtain ⟨d,N⟩:=Option.isSome_iff_exists.1 u
     have r:=L.lt k o d c N
     rw [<- b.size] at r
     unfold pR
     rw [c]
     simp [N,Act.put,A5,r]
    ·rw [JZ9 u]
     exact ym L c u a v
   ·have H:listed.getD j true:=by
     simp only [A5,A6 (Ne.symm f)] at q ⊢
     exact q
    have u:=z j _ (b.vs j n H)
    have l:ops[j]?=some ops[j]:=A9 n
    rwa [R8 (g:=pR ops a) (λk B=>ym L c (λe=>?_) a v)]
    rcases L.dd j _ l k B with ⟨_,h⟩|⟨_,h⟩
    ·exact f (h.symm.trans e)
    ·have A:=b.dn j _ l H k h
     rw [e] at A
     rw [J i A] at K
     cases K
 ·intro listed a w b T
  have y:=b.sz
  have m:∀ i,i<ops.size->listed.getD i true:=by
   intro i
   induction i using Nat.strongRecOn with
   | _ i ih =>
     intro p
     cases Z:listed.getD i true with
     | true=>rfl
     | false =>
       have c:ops[i]?=some ops[i]:=A9 p
       have:i ∈ D2 .any ops listed:=mem_ready.2 ⟨Z,_,c,λe he Y=>by
        have r:=L.down i _ c e he Y
        have u:=ih e.on r ab
        have A:e.on<listed.size:=ab
        simpa [C5,A] using u⟩
       rw [T] at this
       cases this
  exact he a w b.g b.off b.size b.df λi p=>b.vs i p (m i p)
 ·unfold uO
  rw [Array.toList_replicate]
  exact Nat.le_trans List.countP_le_length di
 ·have I:∀ i,i<ops.size->¬ (Array.replicate ops.size false).getD i true:=λi p h=>by simp [C5,p] at h
  exact ⟨di,rfl,rfl,X,λt _=>rfl,λi o c q=>absurd q (I i (A8.1 c).1),λi p q=>absurd q (I i p)⟩
end
open Go.Conc Go.RowKit
def eU (P:H8) (ops:Array F3) (Q:I2->Act->D8->Prop) (l:List Nat) (a:Act) (w:D8):Prop :=
 ∀ (b:I1) (k:List Item) (d:List I1),∃ e c f,Q e c f/\Arrives P (lone (b.at a (.inRegion ops l::k)) d w) b k d e c f
section
variable {P : H8} {ops : Array F3} {Q : I2 -> Act -> D8 -> Prop} {a : Act} {w w₁ : D8} {i : Nat} {rest : List Nat} {o : F3}
theorem uQ {id:Nat} (h:eU P ops Q (R6 ops.size) a w):(Code.region id ops false).wp P Q a w :=
 λb k d=>let ⟨e,c,f,q,r⟩:=h b k d;⟨e,c,f,q,.of_steps (.one step_region) r⟩
theorem mP (h:Q .normal a w):eU P ops Q [] a w:=λ_ _ _=>⟨.normal,a,w,h,.one step_region_end⟩
theorem mR {d:Act} (hs:∀ (b:I1) (k:List Item) (c:List I1),step P (lone (b.at a (.inRegion ops (i::rest)::k)) c w)=.next (lone (b.at d (.inRegion ops rest::k)) c w₁))
 (h:eU P ops Q rest d w₁):eU P ops Q (i::rest) a w :=
 λb k c=>let ⟨e,d,f,q,r⟩:=h b k c;⟨e,d,f,q,.of_steps (.one (hs b k c)) r⟩
theorem fin (c:ops[i]?=some o) (b:I1) (k:List Item) (v:F0):(b.at a (.inRegion ops (i::rest)::k)).finish v=b.at (a.put o.dst v) (.inRegion ops rest::k):=by rw [Frame.finish_at,c];rfl
theorem Ed {v:F0} (c:ops[i]?=some o) (d:D1 o (yielded ops a.tmps)) (hr:(G1 a.eval o).run P w=.ok (.value v) w₁) (h:eU P ops Q rest (a.put o.dst v) w₁):eU P ops Q (i::rest) a w:=by refine mR (λb k e=>I4 ?_) h;rw [I3 c d,<- fin c];simp [stepG.apply,hr]
theorem IT (c:ops[i]?=some o) (d:D1 o (yielded ops a.tmps)) (hr:(G1 a.eval o).run P w=.ok .skip w₁) (h:eU P ops Q rest (a.put o.dst undef) w₁):eU P ops Q (i::rest) a w:=by refine mR (λb k e=>I4 ?_) h;rw [I3 c d,<- fin c];simp [stepG.apply,hr]
def Sh (P:H8) (ops:Array F3) (Q:I2->Act->D8->Prop) (rest:List Nat) (a:Act) (o:F3):Result Next->Prop
 | .ok (.value v) w'=>eU P ops Q rest (a.put o.dst v) w'
 | .ok .skip w'=>eU P ops Q rest (a.put o.dst undef) w'
 | _=>False
@[simp] theorem upon_value (v:F0) (w':D8):Sh P ops Q rest a o (.ok (.value v) w')=eU P ops Q rest (a.put o.dst v) w':=rfl
@[simp] theorem upon_skip (w':D8):Sh P ops Q rest a o (.ok .skip w')=eU P ops Q rest (a.put o.dst undef) w':=rfl
theorem kg (b:ops[i]?=some o) (d:D1 o (yielded ops a.tmps)) (h:Sh P ops Q rest a o ((G1 a.eval o).run P w)):eU P ops Q (i::rest) a w:=by
 generalize c:(G1 a.eval o).run P w=r at h;match r,h with
 | .ok (.value v) w',h=>exact Ed b d c h
 | .ok .skip w',h=>exact IT b d c h
theorem zo {cases:Array CommCase} {c:Bool} {shape:CommShape} (f:ops[i]?=some o) (g:D1 o (yielded ops a.tmps)) (hr:(G1 a.eval o).run P w=.ok (.comm cases c shape) w₁) (b:I1) (k:List Item) (cs:List I1):∃ d,stepG P true (G (b.at a (.inRegion ops (i::rest)::k)) cs) w=.comm (G (b.at a (.inRegion ops (i::rest)::k)) cs) cases c shape w₁ d:=by have e:=I3 (P:=P) (b:=b) (k:=k) (cs:=cs) (w:=w) (rest:=rest) f g;rw [show G (b.at a (.inRegion ops (i::rest)::k)) cs={frame:=b.at a (.inRegion ops (i::rest)::k),callers:=cs,status:=.running,dying:=none} from rfl,e];simp [stepG.apply,hr,GStep.after]
variable {c cap s r : Nat} {buf : Array F0} {z v : F0} {tm closed : Bool}
theorem IU (e:ops[i]?=some o) (l:D1 o (yielded ops a.tmps)) (hr:(G1 a.eval o).run P w=.ok (.comm #[scase c v z] true .send) w₁) (g:w₁.heap[c]?=some (.chan cap buf false s r tm)) (d:buf.size<cap) (h:eU P ops Q rest (a.put o.dst undef) (w₁.setChan c cap (buf.push v) false (s+1) r tm)):eU P ops Q (i::rest) a w:=by refine mR (λb k f=>?_) h;obtain ⟨m,j⟩:=zo (rest:=rest) e l hr b k f;rw [lone_eq_solo,lone_eq_solo,<- fin e];exact step_lone_send_room j g d
theorem xv (e:Bool) (f:ops[i]?=some o) (m:D1 o (yielded ops a.tmps)) (hr:(G1 a.eval o).run P w=.ok (.comm #[rcase c z] true (.recv e)) w₁) (j:w₁.heap[c]?=some (.chan cap buf closed s r tm)) (d:0<buf.size) (h:eU P ops Q rest (a.put o.dst (got e (buf.getD 0 undef) true)) (w₁.setChan c cap (buf.extract 1 buf.size) closed s (r+1) tm)):eU P ops Q (i::rest) a w:=by refine mR (λb k g=>?_) h;obtain ⟨n,l⟩:=zo (rest:=rest) f m hr b k g;rw [lone_eq_solo,lone_eq_solo,<- fin f];exact step_lone_recv_buf e l j d
theorem uR (d:Bool) (e:ops[i]?=some o) (l:D1 o (yielded ops a.tmps)) (hr:(G1 a.eval o).run P w=.ok (.comm #[rcase c z] true (.recv d)) w₁) (g:w₁.heap[c]?=some (.chan cap #[] true s r tm)) (h:eU P ops Q rest (a.put o.dst (got d z false)) w₁):eU P ops Q (i::rest) a w:=by refine mR (λb k f=>?_) h;obtain ⟨m,j⟩:=zo (rest:=rest) e l hr b k f;rw [lone_eq_solo,lone_eq_solo,<- fin e];exact step_lone_recv_shut d j g
def ny (P:H8) (ops:Array F3) (Q:I2->Act->D8->Prop) (a:Act) (w:D8):Prop:=eU P ops Q (R6 ops.size) a w
structure WL (Q Q':I2->Act->D8->Prop):Type where
 out:∀ e a w,Q e a w->Q' e a w
theorem gW {id:Nat} (h:∀ b:I2->Act->D8->Prop,WL Q b->ny P ops b a w):(Code.region id ops false).wp P Q a w:=uQ (h Q ⟨λ_ _ _ h=>h⟩)
end
def dC (w:D8) (c cap:Nat) (buf:List F0) (closed:Bool):Prop:=∃ s r,w.heap[c]?=some (.chan cap buf.toArray closed s r false)
section
variable {w : D8} {c cap : Nat} {buf : List F0} {closed : Bool}
theorem dC.lt (h:dC w c cap buf closed):c<w.heap.size:=by
 obtain ⟨s,r,h⟩:=h;rcases Nat.lt_or_ge c w.heap.size with a|a;·exact a
 ·simp [Array.getElem?_eq_none a] at h
theorem qi (e:c<w.heap.size) {a:Array F0} (b:Nat) (d:List F0) (cl':Bool) (s r:Nat) (f:a=d.toArray):dC (w.setChan c b a cl' s r false) c b d cl' :=
 ⟨s,r,by subst f;exact heap_setChan w c b _ cl' s r false e⟩
theorem qx {w':D8} (h:dC w c cap buf closed) (he:w'.heap[c]?=w.heap[c]?):dC w' c cap buf closed:=by obtain ⟨s,r,h⟩:=h;exact ⟨s,r,he.trans h⟩
theorem O8 (h:dC w c cap buf closed) (x:Obj):dC (w.alloc x) c cap buf closed :=
 qx h (by have:=h.lt;show (w.heap.push x)[c]?=_;rw [Array.getElem?_push_lt this,A9 this])
theorem uf {j:Nat} (d:j≠c) (b:Nat) (a:Array F0) (cl:Bool) (s r:Nat) (tm:Bool):(w.setChan c b a cl s r tm).heap[j]?=w.heap[j]?:=by simp [World.setChan,Ne.symm d]
def zq (w:D8) (c:Nat):Nat:=match w.heap[c]? with | some (.chan _ buf _ _ _ _)=>buf.size | _=>0
theorem dC.len (h:dC w c cap buf closed):zq w c=buf.length:=by obtain ⟨s,r,h⟩:=h;simp [zq,h]
structure mi (c:Nat) (w w':D8):Prop where
 size:w'.heap.size=w.heap.size
 else_:∀ j,j≠c->w'.heap[j]?=w.heap[j]?
 below:∀ (B:Nat) (a:D8),B<=c->Below B a w->Below B a w'
theorem uS (b:Nat) (a:Array F0) (cl:Bool) (s r:Nat) (tm:Bool):mi c w (w.setChan c b a cl s r tm):=
 ⟨size_setChan _ _ _ _ _ _ _ _,λ_ e=>uf e _ _ _ _ _ _,λ_ _ d h=>below_setChan h d _ _ _ _ _ _⟩
variable {P : H8} {ops : Array F3} {Q : I2 -> Act -> D8 -> Prop} {a : Act} {i : Nat} {rest : List Nat} {o : F3} {v z : F0}
theorem uT (g:ops[i]?=some o) (j:D1 o (yielded ops a.tmps)) (hr:(G1 a.eval o).run P w=.ok (.comm #[scase c v z] true .send) w) (d:dC w c cap buf false) (b:buf.length<cap) (h:∀ f,dC f c cap (buf++[v]) false->mi c w f->eU P ops Q rest (a.put o.dst undef) f):eU P ops Q (i::rest) a w:=by have e:=d.lt;obtain ⟨s,r,d⟩:=d;exact IU g j hr d lw (h _ (qi e _ _ _ _ _ di) (uS _ _ _ _ _ _))
theorem uU (e:Bool) (j:ops[i]?=some o) (k:D1 o (yielded ops a.tmps)) (hr:(G1 a.eval o).run P w=.ok (.comm #[rcase c z] true (.recv e)) w) (b:dC w c cap (v::buf) closed) (h:∀ f,dC f c cap buf closed->mi c w f->eU P ops Q rest (a.put o.dst (got e v true)) f):eU P ops Q (i::rest) a w:=by have d:=b.lt;obtain ⟨s,r,b⟩:=b;have g:=h _ (qi (a:=(v::buf).toArray.extract 1 (v::buf).toArray.size) d cap buf closed s (r+1) di) (uS _ _ _ _ _ _);exact xv e j k hr b di x9
theorem uV (d:Bool) (e:ops[i]?=some o) (f:D1 o (yielded ops a.tmps)) (hr:(G1 a.eval o).run P w=.ok (.comm #[rcase c z] true (.recv d)) w) (b:dC w c cap [] true) (h:eU P ops Q rest (a.put o.dst (got d z false)) w):eU P ops Q (i::rest) a w:=by obtain ⟨s,r,b⟩:=b;exact uR d e f hr b h
theorem zr (b:dC w c cap buf false):∃ f,(∀ a e,(Builtin.close_ a e #[.chan (some c)]).run P w=.ok (.tuple #[]) f)/\dC f c cap buf true/\mi c w f:=by have d:=b.lt;obtain ⟨s,r,b⟩:=b;exact ⟨w.setChan c cap buf.toArray true s r false,λa e=>run_close_open a e b,qi d _ _ _ _ _ rfl,uS _ _ _ _ _ _⟩
end
def eG:List Nat:=[11,3,7,9,1,5]
def gn (x:Int):List Nat->Int
 | []=>-1
 | n::r=>match (aw x n==1) with | true=>n | false=>gn x r
def dh (x:Int):Int:=gn x eG
def kv (l:List Int):Int:=D4 .and .u64 (l.getD 9 0) (l.getD 3 0)
def Bq (l:List Int) (p:Int):Bool:=(p != 3)||(aw (l.getD 0 0) 3==1)
def Bt (l:List Int) (p:Int):Bool:=(p==0)||((p==1)&&(aw (l.getD 0 0) 1==1))
def GB (l:List Int) (p:Int):Int:=match Bt l p with
 | true=>dh (D4 .and .u64 (kv l) (l.getD 2 0)) | false=>-1
def fS (l:List Int) (p:Int):Int:=match (Bq l p&&decide (dh (D4 .andNot .u64 (kv l) (l.getD 2 0))>=0)) with
 | true=>dh (D4 .andNot .u64 (kv l) (l.getD 2 0)) | false=>GB l p
def uW (n:Nat) (l:List Int) (p:Int):Int:=match bm n l p with | true=>fS l p | false=>-1
theorem uX (x:Int):∀ r:List Nat,gn x r=-1\/∃ n ∈ r,gn x r=(n:Int)/\(aw x n==1):=by
 intro r;induction r with
 | nil=>exact .inl rfl
 | cons n r b =>
   unfold gn;cases h:(aw x n==1) with
   | true=>exact .inr ⟨n,di,rfl,h⟩
   | false =>
     rcases b with h|⟨m,a,h⟩;·exact .inl h
     ·exact .inr ⟨m,by simp [a],h⟩
