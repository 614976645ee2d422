/- Own lemmas. -/
import Derived.Test.YtjifdmoehfbihaaGreatDoorAut
import Derived.WalkKit
import Derived.Conc.LoneCalls
namespace Go.Proofs.YtjifdmoehfbihaaGreatDoor
set_option linter.unusedVariables false
def aU (n:Nat):Bool:=decide (4096<=n/\n<=65536/\n%4096=0)
theorem gc {n:Nat} (h:aU n=true):4096<=n/\n<=65536:=by unfold aU at h;have:=of_decide_eq_true h;omega
def iW (s:Int):Bool:=decide (s=1\/s=2\/s=4\/s=8)
def gn (n:Nat) (addr size:Int):Bool:=aU n&&iW size&&decide (2147483648<=addr/\addr-2147483648+size<=n)
theorem jY {n:Nat} {addr size:Int} (h:gn n addr size=true):aU n=true/\iW size=true/\2147483648<=addr/\addr-2147483648+size<=n/\1<=size/\size<=8/\4096<=n/\n<=65536:=by simp only [gn,Bool.and_eq_true,decide_eq_true_eq] at h;obtain ⟨⟨a,b⟩,d,e⟩:=h;have f:size=1\/size=2\/size=4\/size=8:=of_decide_eq_true b;have c:=gc a;exact ⟨a,b,d,e,ab,ab,c.1,c.2⟩
def le (zs:List Int):Nat->Nat->Int
 | _,0=>0
 | f,m+1=>zs.getD f 0+256*le zs (f+1) m
theorem xp (zs:List Int) (hz:∀ i,0<=zs.getD i 0/\zs.getD i 0<=255):∀ m f,0<=le zs f m/\le zs f m<256^m:=by
 intro m;induction m with
 | zero=>intro f;simp [le]
 | succ m b =>intro f;have c:=b (f+1);have d:=hz f;have a:(256:Int)^(m+1)=256*256^m:=(by rw [Int.pow_succ,Int.mul_comm]);rw [le,a];omega
theorem mO (a b:Nat) (h:a<=b):(256:Int)^a<=256^b:=by obtain ⟨d,rfl⟩:=Nat.exists_eq_add_of_le h;rw [Int.pow_add];have c:(0:Int)<256^a:=Int.pow_pos ab;have e:(0:Int)<256^d:=Int.pow_pos ab;have f:(256:Int)^a*1<=256^a*256^d:=Int.mul_le_mul_of_nonneg_left ab ab;omega
theorem Qw (zs:List Int) (hz:∀ i,0<=zs.getD i 0/\zs.getD i 0<=255) (m f:Nat) (hm:m<=7):0<=le zs f m/\le zs f m<72057594037927936:=by
 have h:=xp zs hz m f;have a:=mO m 7 hm;have e7:(256:Int)^7=72057594037927936:=bb
 omega
theorem tV (zs:List Int) (hz:∀ i,0<=zs.getD i 0/\zs.getD i 0<=255) (m f:Nat) (hm:m<=8):0<=le zs f m/\le zs f m<18446744073709551616:=by
 have h:=xp zs hz m f;have a:=mO m 8 hm;have e7:(256:Int)^8=18446744073709551616:=bb
 omega
theorem CI (zs:List Int):∀ d f m,le zs f (d+m)=le zs f d+256^d*le zs (f+d) m:=by
 intro d;induction d with
 | zero=>intro f m;simp [le]
 | succ d b =>intro f m;have a:(256:Int)^(d+1)=256*256^d:=(by rw [Int.pow_succ,Int.mul_comm]);have e:d+1+m=(d+m)+1:=ab;rw [e,le,le,b (f+1) m,a,show f+1+d=f+(d+1) from ab,Int.mul_add,Int.mul_assoc,Int.add_assoc]
theorem NF (zs:List Int) (f k:Nat):le zs f (k+1)=le zs f k+zs.getD (f+k) 0*256^k:=by rw [CI zs k f 1];simp [le];rw [Int.mul_comm]
theorem Qx (zs:List Int) (hz:∀ i,0<=zs.getD i 0/\zs.getD i 0<=255) (f d m:Nat):le zs f (d+m)/256^d=le zs (f+d) m:=by rw [CI];have h:=xp zs hz d f;have a:(0:Int)<256^d:=Int.pow_pos ab;rw [Int.add_mul_ediv_left _ _ ab,Int.ediv_eq_zero_of_lt h.1 h.2,Int.zero_add]
theorem JJ (zs:List Int) (hz:∀ i,0<=zs.getD i 0/\zs.getD i 0<=255) (f d m:Nat):le zs f (d+m)%256^d=le zs f d:=by rw [CI];have h:=xp zs hz d f;rw [Int.add_mul_emod_self_left,Int.emod_eq_of_lt h.1 h.2]
theorem tW (k:Nat):(2:Int)^(8*k)=256^k:=by rw [Int.pow_mul];rfl
theorem NG (x y:Int) (k:Nat) (hk:k<8) (a:0<=x) (d:x<256^k) (b:0<=y) (e:y<=255):bits .or .u64 x (y*256^k)=x+y*256^k:=by
 have j:(0:Int)<256^k:=Int.pow_pos ab;have f:(256:Int)^k<=256^7:=by
  have:k=0\/k=1\/k=2\/k=3\/k=4\/k=5\/k=6\/k=7:=ab
  rcases this with rfl|rfl|rfl|rfl|rfl|rfl|rfl|rfl<;>decide
 have e7:(256:Int)^7=72057594037927936:=bb
 rw [e7] at f;have h:0<=y*256^k:=Int.mul_nonneg b ab;have i:y*256^k<=255*72057594037927936:=Int.le_trans (Int.mul_le_mul_of_nonneg_right e ab) ab;rw [u64_or x (y*256^k) a ab h ab];have g:x.toNat ||| (y*256^k).toNat=(y*256^k).toNat+x.toNat:=by
  rw [Nat.or_comm];refine nat_join (8*k) _ _ ?_ ?_
  ·have:(y*256^k).toNat=y.toNat*2^(8*k):=by
    obtain ⟨c,rfl⟩:=Int.eq_ofNat_of_zero_le b;rw [<- tW k];have:((c:Int)*2^(8*k))=((c*2^(8*k):Nat):Int):=cp
    rw [this,Int.toNat_natCast,Int.toNat_natCast]
   rw [this];exact Nat.mul_mod_left _ _
  ·have:(x.toNat:Int)<((2^(8*k):Nat):Int):=by rw [Int.toNat_of_nonneg a,Int.natCast_pow];show x<2^(8*k);rw [tW];exact d
   omega
 rw [g];omega
theorem NH (y:Int) (k:Nat) (hk:k<8) (a:0<=y) (b:y<=255):IntKind.u64.wrap (y*2^(8*k))=y*256^k:=by
 rw [tW,IntKind.wrap_u64];have f:=mO k 7 ab;have e:(0:Int)<256^k:=Int.pow_pos ab;have e7:(256:Int)^7=72057594037927936:=bb
 have c:0<=y*256^k:=Int.mul_nonneg a ab;have d:y*256^k<=255*256^k:=Int.mul_le_mul_of_nonneg_right b ab;exact Int.emod_eq_of_lt c ab
theorem G4 (bs:List Int) (hz:∀ i,0<=bs.getD i 0/\bs.getD i 0<=255) (f k:Nat) (hk:k<8):bits .or .u64 (le bs f k) (IntKind.u64.wrap (bs.getD (f+k) 0*2^(8*k)))=le bs f (k+1):=by have h:=xp bs hz k f;have a:=hz (f+k);rw [NH _ _ hk a.1 a.2,NG _ _ _ hk h.1 h.2 a.1 a.2,NF]
theorem xq (x:Int) (m:Nat) (c:1<=m) (hm:m<=8) (b:0<=x):IntKind.u64.wrap (x*2^(64-8*m))/2^(64-8*m)=x%256^m:=by
 rw [IntKind.wrap_u64,<- tW];have a:(0:Int)<2^(64-8*m):=Int.pow_pos ab;have e:(18446744073709551616:Int)=2^(64-8*m)*2^(8*m):=by rw [<- Int.pow_add,show (64-8*m)+8*m=64 from ab];rfl
 rw [e,Int.mul_comm x,Int.mul_emod_mul_of_pos _ _ a,Int.mul_ediv_cancel_left _ ab]
theorem Qy (x y:Int) (c:0<=x) (d:x<72057594037927936) (a:0<=y) (e:y<=255):bits .or .u64 (x*256) y=y+256*x:=by
 rw [u64_or (x*256) y ab ab a ab];have b:(x*256).toNat ||| y.toNat=(x*256).toNat+y.toNat:=nat_join 8 _ _ ab ab
 rw [b];omega
def jZ (zs:List Int) (f:Nat) (x:Int):Nat->List Int
 | 0=>zs
 | k+1=>(jZ zs f x k).set (f+k) (x/256^k%256)
theorem jd (zs:List Int) (f:Nat) (x:Int):∀ k,(jZ zs f x k).length=zs.length:=by
 intro k;induction k with
 | zero=>rfl
 | succ k a=>simp [jZ,a]
theorem JK (zs:List Int) (hz:∀ y ∈ zs,0<=y/\y<=255) (f:Nat) (x:Int):∀ k,∀ y ∈ jZ zs f x k,0<=y/\y<=255:=by
 intro k;induction k with
 | zero=>exact hz
 | succ k b =>
   intro y a;rcases List.mem_or_eq_of_mem_set a with h|h;·exact b y h
   ·subst h;omega
def kj (zs:List Int) (n:Nat) (addr size x:Int):List Int:=if gn n addr size then jZ zs (addr-2147483648).toNat x size.toNat else []
theorem CJ (zs:List Int) (n:Nat) (addr size x:Int) (hz:zs.length=n) (hn:n<=1048576):(kj zs n addr size x).length<=1048576:=by
 unfold kj;split;·rw [jd];omega
 ·simp
def nF (k:Int) (n:Nat):List Int:=(List.range n).map λ(i:Nat)=>(k+(i:Int))%256
theorem oG (k:Int) (n:Nat):(nF k n).length=n:=by simp [nF]
def Mk (xs:List Int) (k:Int) (n j:Nat):List Int:=(nF k n).take j++xs.drop j
theorem NI (xs:List Int) (k:Int) (n:Nat):Mk xs k n 0=xs:=by simp [Mk]
theorem Qz (xs:List Int) (k:Int) (n:Nat) (h:xs.length=n):Mk xs k n n=nF k n:=by have a:xs.drop n=[]:=List.drop_of_length_le ab;have b:(nF k n).take n=nF k n:=List.take_of_length_le (by rw [oG];omega);rw [Mk,a,b,List.append_nil]
theorem QA (xs:List Int) (k:Int) (n j:Nat) (h:xs.length=n) (a:j<=n):(Mk xs k n j).length=n:=by simp [Mk,oG];omega
theorem QB (xs:List Int) (k:Int) (n j:Nat) (h:xs.length=n) (d:j<n):(Mk xs k n j).set j ((k+(j:Int))%256)=Mk xs k n (j+1):=by
 unfold Mk;have a:(nF k n).take (j+1)=(nF k n).take j++[(k+(j:Int))%256]:=by rw [List.take_succ_eq_append_getElem (by rw [oG];exact d)];simp [nF]
 have b:xs.drop j=xs[j]::xs.drop (j+1):=List.drop_eq_getElem_cons ab;have c:((nF k n).take j).length=j:=by rw [List.length_take,oG];omega
 rw [a,b,List.set_append_right _ _ ab,c,Nat.sub_self,List.set_cons_zero,List.append_assoc];rfl
end Go.Proofs.YtjifdmoehfbihaaGreatDoor
namespace Go.Proofs.YtjifdmoehfbihaaGreatDoor
open Go.RowKit
set_option linter.unusedVariables false
def mst (x:Int):Int:=if (bits .and .u64 (bits .and .u64 x 924074/2048) 3==2)=true then bits .andNot .u64 (bits .and .u64 x 924074) 6144 else bits .and .u64 x 924074
def je (x:Int) (k:Nat):Int :=
 if (bits .and .u64 (bits .and .u64 (x/2^(8*k)) 159) 1==0)=true then bits .andNot .u64 (bits .and .u64 (x/2^(8*k)) 159) 2 else bits .and .u64 (x/2^(8*k)) 159
def cT (x:Int):Nat->Int
 | 0=>0
 | k+1=>bits .or .u64 (cT x k) (IntKind.u64.wrap (je x k*2^(8*k)))
def bo (p x:Int):Int :=
 if p=0 then mst x else if p=1 then bits .and .u64 x 46079 else if p=2 then bits .and .u64 x 546 else if p=3 then bits .and .u64 x 2730
 else if p=4\/p=10 then bits .andNot .u64 x 2 else if p=6\/p=12 then bits .andNot .u64 x 3 else if p=7\/p=13 then bits .and .u64 x 9223372036854775823
 else if p=16 then cT x 4 else if p=17\/p=18\/p=19\/p=20 then bits .and .u64 x 18014398509481983 else x
def fy (k:Nat) (x:Int):Bool :=
 if k=9 then (bits .and .u64 x 2730==x) else if k=15 then (x/1152921504606846976==0)||(x/1152921504606846976==8) else (bo k x==x)
def fl (l:List Int):Nat->Nat->Bool
 | 0,_=>true
 | n+1,k=>fy k (l.getD k 0)&&fl l n (k+1)
def bq (n:Nat) (l:List Int):Bool:=decide (n=22)&&fl l 22 0
theorem CL (l:List Int) (k:Nat) (hk:k<22) (h:fy k (l.getD k 0)=true):fl l (22-k) k=fl l (22-(k+1)) (k+1):=by rw [show 22-k=(22-(k+1))+1 from ab,fl,h,Bool.true_and]
theorem G5 (l:List Int) (k:Nat) (hk:k<22) (h:fy k (l.getD k 0)=false):fl l (22-k) k=false:=by rw [show 22-k=(22-(k+1))+1 from ab,fl,h,Bool.false_and]
def dM:List Int:=[768,770,771,772,773,832,833,834,835,836,261,320,321,322,323,384,928,944,945,946,947,2818]
def dX (x:Int):Nat->Nat->Int
 | 0,_=>-1
 | n+1,k=>if (dM.getD k 0==x)=true then (k:Int) else dX x n (k+1)
theorem Ah (x:Int) (k:Nat) (hk:k<22) (h:(dM.getD k 0==x)=true):dX x (22-k) k=(k:Int):=by rw [show 22-k=(22-(k+1))+1 from ab,dX,if_pos h]
theorem yu (x:Int) (k:Nat) (hk:k<22) (h:(dM.getD k 0==x)=false):dX x (22-k) k=dX x (22-(k+1)) (k+1):=by rw [show 22-k=(22-(k+1))+1 from ab,dX,if_neg (by rw [h];decide)]
def cK (x:Int):Int:=if x=256 then 0 else if x=260 then 3 else if x=324 then 9 else dX x 22 0
theorem CM (x:Int):∀ n k,k+n<=22->-1<=dX x n k/\dX x n k<22:=by
 intro n;induction n with
 | zero=>intro k _;simp [dX]
 | succ n a =>
   intro k b;unfold dX;split;·omega
   ·exact a (k+1) ab
theorem qW (x:Int):-1<=cK x/\cK x<22:=by
 have:=CM x 22 0 ab;unfold cK;split;·omega
 ·split;·omega
  ·split;·omega
   ·exact this
def dj (x:Int):Bool:=(x==3860)||(x==769)||decide (0<=cK x)
def bC (p:Int):Bool:=(p==0)||(p==1)||(p==3)
def jf (n:Nat) (l:List Int) (x p:Int):Bool:=bq n l&&dj x&&bC p&&decide ((wrap64 (x.tdiv 256)).tmod 4<=p)
def dq (l:List Int) (x:Int):Int :=
 if x=3860 then 0 else if x=769 then 9223372036856090881 else if x=256 then bits .and .u64 (l.getD 0 0) 786722
 else if x=260 then bits .and .u64 (l.getD 3 0) (l.getD 2 0) else if x=324 then bits .and .u64 (l.getD 9 0) (l.getD 2 0) else l.getD (cK x).toNat 0
def du (l:List Int) (i:Nat):Int:=bits .and .u64 (l.getD 16 0/2^(8*i)) 255
def fp (l:List Int) (i:Nat):Bool:=(du l i/128==1)||(decide (i<3)&&(du l (i+1)/128==1)&&(bits .and .u64 (du l (i+1)/8) 3==1))
def dY (l:List Int) (y:Int):Nat->Int
 | 0=>y
 | k+1=>if (du l k/128==1)=true then bits .or .u64 (bits .andNot .u64 (dY l y k) (IntKind.u64.wrap (255*2^(8*k)))) (bits .and .u64 (l.getD 16 0) (IntKind.u64.wrap (255*2^(8*k)))) else dY l y k
def iB (old m x:Int):Int:=bits .or .u64 (bits .andNot .u64 old m) (bits .and .u64 x m)
def fN (l:List Int) (p x:Int):List Int :=
 if p=9 then l.set 9 (iB (l.getD 9 0) 546 x)
 else if p=15 then (if ((x/1152921504606846976==0)||(x/1152921504606846976==8))=true then l.set 15 x else l)
 else if p=16 then l.set 16 (dY l (bo 16 x) 4)
 else if p=17\/p=18\/p=19\/p=20 then (if fp l (p-17).toNat=true then l else l.set p.toNat (bo p x))
 else l.set p.toNat (bo p x)
def bU (l:List Int) (n x:Int):List Int :=
 if n=769\/n=3860 then l
 else if n=256 then l.set 0 (iB (l.getD 0 0) 786722 x)
 else if n=260 then l.set 3 (bo 3 (iB (l.getD 3 0) (l.getD 2 0) x))
 else if n=324 then l.set 9 (iB (l.getD 9 0) (bits .and .u64 (l.getD 2 0) 2) x)
 else fN l (cK n) x
theorem JL (l:List Int) (p x:Int):(fN l p x).length=l.length:=by
 unfold fN;split;·simp
 ·split;·split<;>simp
  ·split;·simp
   ·split;·split<;>simp
    ·simp
theorem pk (l:List Int) (n x:Int):(bU l n x).length=l.length:=by
 unfold bU;split;·rfl
 ·split;·simp
  ·split;·simp
   ·split;·simp
    ·exact JL _ _ _
def CN (m:Nat) (l:List Int) (n p:Int):Bool:=jf m l n p&&!((wrap64 (n.tdiv 1024)).tmod 4==3)
def CO (m:Nat) (l:List Int) (n p x:Int):List Int:=if CN m l n p=true then bU l n x else []
theorem CP {m:Nat} {l:List Int} {n p:Int} (h:jf m l n p=true):m=22/\dj n=true:=by simp only [jf,bq,Bool.and_eq_true,decide_eq_true_eq] at h;exact ⟨h.1.1.1.1,h.1.1.2⟩
def aX (n:Nat) (l:List Int) (p:Int):Bool:=bq n l&&bC p
theorem gu {n:Nat} {l:List Int} {p:Int} (h:aX n l p=true):n=22/\bC p=true:=by simp only [aX,bq,Bool.and_eq_true,decide_eq_true_eq] at h;exact ⟨h.1.1,h.2⟩
def ak (x:Int) (i:Nat):Int:=bits .and .u64 (x/2^i) 1
def gq (k:Int) (intr:Bool):Int:=match intr with | true=>bits .or .u64 k 9223372036854775808 | false=>k
def cE (l:List Int) (p:Int) (k:Nat) (intr:Bool):Bool:=!(p==3)&&(ak (match intr with | true=>l.getD 2 0 | false=>l.getD 1 0) k==1)
def kR (s:Int) (a:Bool):Int:=match a with
 | true=>bits .or .u64 (bits .or .u64 (bits .andNot .u64 s 290) (IntKind.u64.wrap (ak s 1*32))) 256
 | false=>bits .or .u64 (bits .andNot .u64 s 290) (IntKind.u64.wrap (ak s 1*32))
def lP (s p:Int):Int:=bits .or .u64 (bits .or .u64 (bits .andNot .u64 s 6280) (IntKind.u64.wrap (ak s 3*128))) (IntKind.u64.wrap (p*2048))
def gW (l:List Int) (d:Bool) (p t pc v:Int):List Int:=match d with
 | true=>(((l.set 13 t).set 12 (bits .andNot .u64 pc 3)).set 14 v).set 0 (kR (l.getD 0 0) (p==1))
 | false=>(((l.set 7 t).set 6 (bits .andNot .u64 pc 3)).set 8 v).set 0 (lP (l.getD 0 0) p)
def nG (l:List Int) (d:Bool):Int:=match d with | true=>l.getD 10 0 | false=>l.getD 4 0
def dO (to k:Int) (jump:Bool):Int:=match jump with
 | true=>IntKind.u64.wrap (bits .andNot .u64 to 1+IntKind.u64.wrap (4*k))
 | false=>bits .andNot .u64 to 1
def pH (d:Bool):Int:=match d with | true=>1 | false=>3
section
variable {P : Program} {md : Region.Mode} {ops : Array Oper} {Q : Exit -> Act -> World -> Prop}
def tX (l:Array Bool):Nat:=l.toList.countP (λb=>!b)
theorem tY {l:Array Bool} {i:Nat} (h:l.getD i true=false):tX (l.setIfInBounds i true)+1=tX l:=by
 have b:i<l.size:=by
  by_cases a:i<l.size;·exact a
  ·simp [Array.getD,a] at h
 have d:l.toList[i]=false:=by simpa [Array.getD,b] using h
 have c:i<l.toList.length:=kd
 unfold tX;rw [Array.toList_setIfInBounds,List.set_eq_take_append_cons_drop,if_pos c];conv=>rhs;rw [<- List.take_append_drop i l.toList,<- List.getElem_cons_drop c]
 simp [List.countP_append,d];omega
theorem NJ {a:Act} {l:List Value} {d:List Deferred} (hs:a.tmps.size=l.length) (hv:∀ i,i<l.length->a.tmps[i]?=l[i]?) (hd:a.defers=d):a=⟨l.toArray,d⟩:=by
 cases a with
 | mk tm c =>
   dsimp only at hs hv hd;subst hd;congr;apply Array.ext';apply List.ext_getElem?;intro i;by_cases b:i<l.length;·have:=hv i b;simpa using this
   ·rw [List.getElem?_eq_none (by rw [Array.length_toList];omega),List.getElem?_eq_none (by rw [List.toList_toArray];omega)]
theorem jB {a:Act} {n:Nat} (h:a.tmps.size=n) (t:Nat) (b:Nat.blt t n=true):∃ u,a.tmps[t]?=some u:=by have:t<n:=Nat.lt_of_succ_le (by simpa [Nat.blt] using b);exact ⟨_,Array.getElem?_eq_getElem ab⟩
theorem JM {o:Oper} {a:Act} {w:World} {K:Act->World->Prop} {v:Value} (h:(execOp a.eval o).run P w=.ok (.value v) w) (b:K (a.put o.dst v) w):o.wp P a w K Q:=by unfold Oper.wp;rw [h];exact b
theorem G9 (I:Array Bool->Act->World->Prop) (hs:∀ listed a w i,I listed a w->i ∈ Region.ready md ops listed->wpOp P ops Q i (I (listed.setIfInBounds i true)) a w) (he:∀ listed a w,I listed a w->Region.ready md ops listed=[]->Q .normal a w):∀ fuel listed a w,tX listed<=fuel->I listed a w->wpAny P md ops Q fuel listed a w:=by
 intro fuel;induction fuel with
 | zero =>
   intro listed a w e b;have c:Region.ready md ops listed=[]:=by
    cases c:Region.ready md ops listed with
    | nil=>rfl
    | cons x l =>have f:x ∈ Region.ready md ops listed:=(by rw [c];exact List.mem_cons_self);have:=tY (mem_ready.1 f).1;omega
   exact ⟨c,he _ _ _ b c⟩
 | succ fuel g =>intro listed a w e b;refine ⟨he _ _ _ b,λi d=>?_⟩;have:=tY (mem_ready.1 d).1;exact wpOp_mono (λj k h=>g _ _ _ ab h) (hs _ _ _ _ b d)
def o0 (ops:Array Oper) (a:Act) (j:Nat):Value:=match ops[j]? with
 | some o=>match o.dst with
   | some d=>a.tmps.getD d undef
   | none=>undef
 | none=>undef
def jP (o:Oper) (j:Nat):Bool:=o.after.any (λe=>Region.binds .any e&&e.on==j)
structure Li (ops:Array Oper) (D:Nat->List Nat) (V:Nat->List Value->World->Prop) (G:World->Prop) (a0:Act) (listed:Array Bool) (a:Act) (w:World):Prop where
 sz:listed.size=ops.size
 df:a.defers=a0.defers
 size:a.tmps.size=a0.tmps.size
 g:G w
 off:∀ t,ops.toList.all (λo=>o.dst != some t)=true->a.tmps[t]?=a0.tmps[t]?
 dn:∀ i o,ops[i]?=some o->listed.getD i true=true->∀ j,jP o j=true->listed.getD j false=true
 vs:∀ i,i<ops.size->listed.getD i true=true->V i ((D i).map (o0 ops a)) w
def QD (P:Program) (ops:Array Oper) (Q:Exit->Act->World->Prop) (D:Nat->List Nat) (V:Nat->List Value->World->Prop) (G:World->Prop) (c:Act) (i:Nat) (o:Oper):Prop :=
 ∀ a w,G w->(∀ t,ops.toList.all (λo=>o.dst != some t)=true->a.tmps[t]?=c.tmps[t]?)->a.tmps.size=c.tmps.size ->
  (∀ j,j<ops.size->jP o j=true->V j ((D j).map (o0 ops a)) w) ->
  o.wp P a w (λd b=>∃ v,d=a.put o.dst v/\V i ((D i).map (λj=>if j=i then v else o0 ops a j)) b/\G b/\∀ j l,V j l w->V j l b) Q
def P4 (ops:Array Oper) (D:Nat->List Nat) (n:Nat):Bool :=
 (List.range ops.size).all λi=>match ops[i]? with
  | none=>false
  | some o=>(D i).all (λj=>(o.dst.isSome&&Nat.beq j i)||(!(Nat.beq j i)&&jP o j))&&o.guard.isNone&&o.after.all (λe=>!Region.binds .any e||Nat.blt e.on i)&&(match o.dst with
    | none=>true
    | some d=>Nat.blt d n&&(List.range ops.size).all λj=>Nat.beq i j||(match ops[j]? with
      | none=>false
      | some a=>match a.dst with
        | none=>true
        | some y=>!(Nat.beq d y)))
structure P5 (ops:Array Oper) (D:Nat->List Nat) (n:Nat):Prop where
 dd:∀ (i:Nat) (o:Oper),ops[i]?=some o->∀ j ∈ D i,(o.dst.isSome=true/\j=i)\/(j≠i/\jP o j=true)
 gd:∀ (i:Nat) (o:Oper),ops[i]?=some o->o.guard=none
 down:∀ (i:Nat) (o:Oper),ops[i]?=some o->∀ e ∈ o.after,Region.binds .any e=true->e.on<i
 lt:∀ (i:Nat) (o:Oper) (d:Nat),ops[i]?=some o->o.dst=some d->d<n
 ne:∀ (i:Nat) (o:Oper) (d j:Nat) (oj:Oper),ops[i]?=some o->o.dst=some d->ops[j]?=some oj->i≠j->oj.dst≠some d
theorem CQ {D:Nat->List Nat} {n:Nat} (h:P4 ops D n=true):P5 ops D n:=by
 have b:∀ i o,ops[i]?=some o->(∀ j ∈ D i,(o.dst.isSome=true/\j=i)\/(j≠i/\jP o j=true))/\o.guard=none/\(∀ e ∈ o.after,Region.binds .any e=true->e.on<i)/\∀ d,o.dst=some d->d<n/\∀ j g,ops[j]?=some g->i≠j->g.dst≠some d:=by
  intro i o a
  have s:i<ops.size:=(Array.getElem?_eq_some_iff.1 a).1
  have m:=List.all_eq_true.1 h i (List.mem_range.2 s)
  rw [a] at m
  simp only [Bool.and_eq_true] at m
  obtain ⟨⟨⟨v,t⟩,u⟩,k⟩:=m
  refine ⟨λj l=>by
   have c:=List.all_eq_true.1 v j l
   by_cases e:j=i
   ·subst e
    exact .inl ⟨i5,rfl⟩
   ·have e2:Nat.beq j i=false:=by
     cases q:Nat.beq j i with
     | false=>rfl
     | true=>exact absurd (Nat.eq_of_beq_eq_true q) e
    rw [e2] at c
    exact .inr ⟨e,i5⟩,by simpa using t,λe w q=>?_,λd f=>?_⟩
  ·have:=Array.all_eq_true_iff_forall_mem.1 u e w
   rw [q] at this
   have c:Nat.blt e.on i=true:=by simpa using this
   exact Nat.lt_of_succ_le (by simpa [Nat.blt] using c)
  ·rw [f] at k
   simp only [Bool.and_eq_true] at k
   refine ⟨Nat.lt_of_succ_le (by simpa [Nat.blt] using k.1),λj g l r e=>?_⟩
   have p:=List.all_eq_true.1 k.2 j (List.mem_range.2 (Array.getElem?_eq_some_iff.1 l).1)
   rw [l] at p
   simp only [e,Bool.or_eq_true,Nat.beq_eq,Nat.beq_refl,Bool.not_true,Bool.false_eq_true,or_false] at p
   exact r p
 exact ⟨λi o a=>(b i o a).1,λi o a=>(b i o a).2.1,λi o a=>(b i o a).2.2.1,λi o d a f=>((b i o a).2.2.2 d f).1,λi o d j g a f=>((b i o a).2.2.2 d f).2 j g⟩
theorem xr {D:Nat->List Nat} {n:Nat} (L:P5 ops D n) {i:Nat} {o:Oper} (k:ops[i]?=some o) {j:Nat} (h:j≠i) (a:Act) (v:Value):o0 ops (a.put o.dst v) j=o0 ops a j:=by
 unfold o0;cases c:ops[j]? with
 | none=>rfl
 | some f =>
   dsimp only;cases g:f.dst with
   | none=>rfl
   | some d =>
     dsimp only;cases b:o.dst with
     | none=>rfl
     | some x =>have:x≠d:=λe=>L.ne j f d i o c g k h (by rw [b,e]);simp [Act.put,Array.getD_eq_getD_getElem?,Array.getElem?_setIfInBounds_ne this]
theorem wm {id:Nat} {s:Act} {w:World} (hm:P.follows .mixedOrders=true) (D:Nat->List Nat) (V:Nat->List Value->World->Prop) (G:World->Prop) (S:P4 ops D s.tmps.size=true) (X:G {w with drawn:=w.drawn+1}) (hs:∀ i o,ops[i]?=some o->QD P ops Q D V G s i o) (he:∀ a O,G O->(∀ t,ops.toList.all (λo=>o.dst != some t)=true->a.tmps[t]?=s.tmps[t]?)->a.tmps.size=s.tmps.size->a.defers=s.defers->(∀ i,i<ops.size->V i ((D i).map (o0 ops a)) O)->Q .normal a O):(Go.Code.region id ops true).wp P Q s w:=by
 have L:=CQ S
 refine wp_region_any hm (G9 (λlisted a w=>Li ops D V G s listed a w) ?_ ?_ _ _ _ _ ?_ ?_)
 ·intro listed a w i b T
  obtain ⟨K,o,c,m⟩:=mem_ready.1 T
  have y:=b.sz
  have p:i<ops.size:=(Array.getElem?_eq_some_iff.1 c).1
  have M:∀ j,jP o j=true->listed.getD j false=true:=by
   intro j n
   unfold jP at n
   rw [<- Array.any_toList] at n
   obtain ⟨e,C,x⟩:=List.any_eq_true.1 n
   rw [Array.mem_toList_iff] at C
   rw [Bool.and_eq_true,beq_iff_eq] at x
   have U:=m e C x.1
   rw [x.2] at U
   exact U
  have J:∀ j,listed.getD j false=true->listed.getD j true=true:=by
   intro j n
   by_cases F:j<listed.size
   ·simpa [Array.getD,F] using n
   ·simp [Array.getD,F] at n
  unfold wpOp
  simp only [c,Region.wanted,L.gd i o c,if_true]
  refine .inl (Oper.wp_mono ?_ (hs i o c a w b.g b.off b.size (λj n hw=>b.vs j n (J j (M j hw)))))
  rintro a' O ⟨v,rfl,hv,hg,z⟩
  refine ⟨by simp [y],?_,?_,hg,?_,?_,?_⟩
  ·cases o.dst<;>exact b.df
  ·rw [<- b.size];cases o.dst<;>simp [Act.put]
  ·intro t W
   have R:o.dst≠some t:=by
    have:=List.all_eq_true.1 W o (by rw [Array.mem_toList_iff];exact Array.mem_of_getElem? c)
    simpa using this
   rw [<- b.off t W]
   cases N:o.dst with
   | none=>rfl
   | some d =>
     have:d≠t:=λe=>R (by rw [N,e])
     simp [Act.put,Array.getElem?_setIfInBounds_ne this]
  ·intro j oj l q k B
   have E:∀ k,listed.getD k false=true->(listed.setIfInBounds i true).getD k false=true:=by
    intro k h
    by_cases e:i=k
    ·subst e
     simp [Array.getD_eq_getD_getElem?,y,p]
    ·simp only [Array.getD_eq_getD_getElem?,Array.getElem?_setIfInBounds_ne e] at h ⊢
     exact h
   by_cases f:j=i
   ·subst f
    rw [c] at l
    cases l
    exact E k (M k B)
   ·refine E k (b.dn j oj l ?_ k B)
    simp only [Array.getD_eq_getD_getElem?,Array.getElem?_setIfInBounds_ne (Ne.symm f)] at q ⊢
    exact q
  ·intro j n q
   by_cases f:j=i
   ·subst f
    rwa [List.map_congr_left (g:=λk=>if k=j then v else o0 ops a k) (λk B=>?_)]
    rcases L.dd j o c k B with ⟨u,A⟩|⟨u,_⟩
    ·subst A
     rw [if_pos rfl]
     obtain ⟨d,N⟩:=Option.isSome_iff_exists.1 u
     have r:=L.lt k o d c N
     rw [<- b.size] at r
     unfold o0
     rw [c]
     simp [N,Act.put,Array.getD_eq_getD_getElem?,r]
    ·rw [if_neg u]
     exact xr L c u a v
   ·have H:listed.getD j true=true:=by
     simp only [Array.getD_eq_getD_getElem?,Array.getElem?_setIfInBounds_ne (Ne.symm f)] at q ⊢
     exact q
    have u:=z j _ (b.vs j n H)
    have l:ops[j]?=some ops[j]:=Array.getElem?_eq_getElem n
    rwa [List.map_congr_left (g:=o0 ops a) (λk B=>xr L c (λe=>?_) a v)]
    rcases L.dd j _ l k B with ⟨_,h⟩|⟨_,h⟩
    ·exact f (h.symm.trans e)
    ·have A:=b.dn j _ l H k h
     rw [e] at A
     rw [J i A] at K
     cases K
 ·intro listed a w b T
  have y:=b.sz
  have m:∀ i,i<ops.size->listed.getD i true=true:=by
   intro i
   induction i using Nat.strongRecOn with
   | _ i ih =>
     intro p
     cases Z:listed.getD i true with
     | true=>rfl
     | false =>
       have c:ops[i]?=some ops[i]:=Array.getElem?_eq_getElem p
       have:i ∈ Region.ready .any ops listed:=mem_ready.2 ⟨Z,_,c,λe he Y=>by
        have r:=L.down i _ c e he Y
        have u:=ih e.on r ab
        have A:e.on<listed.size:=ab
        simpa [Array.getD,A] using u⟩
       rw [T] at this
       cases this
  exact he a w b.g b.off b.size b.df λi p=>b.vs i p (m i p)
 ·unfold tX
  rw [Array.toList_replicate]
  exact Nat.le_trans List.countP_le_length cp
 ·have I:∀ i,i<ops.size->¬ (Array.replicate ops.size false).getD i true=true:=λi p h=>by simp [Array.getD,p] at h
  exact ⟨cp,rfl,rfl,X,λt _=>rfl,λi o c q=>absurd q (I i (Array.getElem?_eq_some_iff.1 c).1),λi p q=>absurd q (I i p)⟩
end
end Go.Proofs.YtjifdmoehfbihaaGreatDoor
namespace Go.Proofs.YtjifdmoehfbihaaGreatDoor
open Go.Conc Go.RowKit
def eG (P:Program) (ops:Array Oper) (Q:Exit->Act->World->Prop) (l:List Nat) (a:Act) (w:World):Prop :=
 ∀ (b:Frame) (k:List Item) (d:List Frame),∃ e c f,Q e c f/\Arrives P (lone (b.at a (.inRegion ops l::k)) d w) b k d e c f
section
variable {P : Program} {ops : Array Oper} {Q : Exit -> Act -> World -> Prop} {a : Act} {w w₁ : World} {i : Nat} {rest : List Nat} {o : Oper}
theorem tZ {id:Nat} (h:eG P ops Q (List.range ops.size) a w):(Code.region id ops false).wp P Q a w :=
 λb k d=>let ⟨e,c,f,q,r⟩:=h b k d;⟨e,c,f,q,.of_steps (.one step_region) r⟩
theorem mo (h:Q .normal a w):eG P ops Q [] a w:=λ_ _ _=>⟨.normal,a,w,h,.one step_region_end⟩
theorem mq {d:Act} (hs:∀ (b:Frame) (k:List Item) (c:List Frame),step P (lone (b.at a (.inRegion ops (i::rest)::k)) c w)=.next (lone (b.at d (.inRegion ops rest::k)) c w₁))
 (h:eG P ops Q rest d w₁):eG P ops Q (i::rest) a w :=
 λb k c=>let ⟨e,d,f,q,r⟩:=h b k c;⟨e,d,f,q,.of_steps (.one (hs b k c)) r⟩
theorem fin (c:ops[i]?=some o) (b:Frame) (k:List Item) (v:Value):(b.at a (.inRegion ops (i::rest)::k)).finish v=b.at (a.put o.dst v) (.inRegion ops rest::k):=by rw [Frame.finish_at,c];rfl
theorem CR {v:Value} (c:ops[i]?=some o) (d:Region.wanted o (yielded ops a.tmps)=true) (hr:(execOp a.eval o).run P w=.ok (.value v) w₁) (h:eG P ops Q rest (a.put o.dst v) w₁):eG P ops Q (i::rest) a w:=by refine mq (λb k e=>step_lone_go ?_) h;rw [stepG_op c d,<- fin c];simp [stepG.apply,hr]
theorem Ha (c:ops[i]?=some o) (d:Region.wanted o (yielded ops a.tmps)=true) (hr:(execOp a.eval o).run P w=.ok .skip w₁) (h:eG P ops Q rest (a.put o.dst undef) w₁):eG P ops Q (i::rest) a w:=by refine mq (λb k e=>step_lone_go ?_) h;rw [stepG_op c d,<- fin c];simp [stepG.apply,hr]
def QE (P:Program) (ops:Array Oper) (Q:Exit->Act->World->Prop) (rest:List Nat) (a:Act) (o:Oper):Result Next->Prop
 | .ok (.value v) w'=>eG P ops Q rest (a.put o.dst v) w'
 | .ok .skip w'=>eG P ops Q rest (a.put o.dst undef) w'
 | _=>False
@[simp] theorem upon_value (v:Value) (w':World):QE P ops Q rest a o (.ok (.value v) w')=eG P ops Q rest (a.put o.dst v) w':=rfl
@[simp] theorem upon_skip (w':World):QE P ops Q rest a o (.ok .skip w')=eG P ops Q rest (a.put o.dst undef) w':=rfl
theorem jQ (b:ops[i]?=some o) (d:Region.wanted o (yielded ops a.tmps)=true) (h:QE P ops Q rest a o ((execOp a.eval o).run P w)):eG P ops Q (i::rest) a w:=by
 generalize c:(execOp a.eval o).run P w=r at h;match r,h with
 | .ok (.value v) w',h=>exact CR b d c h
 | .ok .skip w',h=>exact Ha b d c h
theorem yv {cases:Array CommCase} {c:Bool} {shape:CommShape} (f:ops[i]?=some o) (g:Region.wanted o (yielded ops a.tmps)=true) (hr:(execOp a.eval o).run P w=.ok (.comm cases c shape) w₁) (b:Frame) (k:List Item) (cs:List Frame):∃ d,stepG P true (G (b.at a (.inRegion ops (i::rest)::k)) cs) w=.comm (G (b.at a (.inRegion ops (i::rest)::k)) cs) cases c shape w₁ d:=by have e:=stepG_op (P:=P) (b:=b) (k:=k) (cs:=cs) (w:=w) (rest:=rest) f g;rw [show G (b.at a (.inRegion ops (i::rest)::k)) cs={frame:=b.at a (.inRegion ops (i::rest)::k),callers:=cs,status:=.running,dying:=none} from rfl,e];simp [stepG.apply,hr,GStep.after]
variable {c cap s r : Nat} {buf : Array Value} {z v : Value} {tm closed : Bool}
theorem Hb (e:ops[i]?=some o) (l:Region.wanted o (yielded ops a.tmps)=true) (hr:(execOp a.eval o).run P w=.ok (.comm #[scase c v z] true .send) w₁) (g:w₁.heap[c]?=some (.chan cap buf false s r tm)) (d:buf.size<cap) (h:eG P ops Q rest (a.put o.dst undef) (w₁.setChan c cap (buf.push v) false (s+1) r tm)):eG P ops Q (i::rest) a w:=by refine mq (λb k f=>?_) h;obtain ⟨m,j⟩:=yv (rest:=rest) e l hr b k f;rw [lone_eq_solo,lone_eq_solo,<- fin e];exact step_lone_send_room j g d
theorem wo (e:Bool) (f:ops[i]?=some o) (m:Region.wanted o (yielded ops a.tmps)=true) (hr:(execOp a.eval o).run P w=.ok (.comm #[rcase c z] true (.recv e)) w₁) (j:w₁.heap[c]?=some (.chan cap buf closed s r tm)) (d:0<buf.size) (h:eG P ops Q rest (a.put o.dst (got e (buf.getD 0 undef) true)) (w₁.setChan c cap (buf.extract 1 buf.size) closed s (r+1) tm)):eG P ops Q (i::rest) a w:=by refine mq (λb k g=>?_) h;obtain ⟨n,l⟩:=yv (rest:=rest) f m hr b k g;rw [lone_eq_solo,lone_eq_solo,<- fin f];exact step_lone_recv_buf e l j d
theorem t6 (d:Bool) (e:ops[i]?=some o) (l:Region.wanted o (yielded ops a.tmps)=true) (hr:(execOp a.eval o).run P w=.ok (.comm #[rcase c z] true (.recv d)) w₁) (g:w₁.heap[c]?=some (.chan cap #[] true s r tm)) (h:eG P ops Q rest (a.put o.dst (got d z false)) w₁):eG P ops Q (i::rest) a w:=by refine mq (λb k f=>?_) h;obtain ⟨m,j⟩:=yv (rest:=rest) e l hr b k f;rw [lone_eq_solo,lone_eq_solo,<- fin e];exact step_lone_recv_shut d j g
def mP (P:Program) (ops:Array Oper) (Q:Exit->Act->World->Prop) (a:Act) (w:World):Prop:=eG P ops Q (List.range ops.size) a w
structure U1 (Q Q':Exit->Act->World->Prop):Type where
 out:∀ e a w,Q e a w->Q' e a w
theorem gG {id:Nat} (h:∀ b:Exit->Act->World->Prop,U1 Q b->mP P ops b a w):(Code.region id ops false).wp P Q a w:=tZ (h Q ⟨λ_ _ _ h=>h⟩)
end
def dp (w:World) (c cap:Nat) (buf:List Value) (closed:Bool):Prop:=∃ s r,w.heap[c]?=some (.chan cap buf.toArray closed s r false)
section
variable {w : World} {c cap : Nat} {buf : List Value} {closed : Bool}
theorem dp.lt (h:dp w c cap buf closed):c<w.heap.size:=by
 obtain ⟨s,r,h⟩:=h;rcases Nat.lt_or_ge c w.heap.size with a|a;·exact a
 ·simp [Array.getElem?_eq_none a] at h
theorem pn (e:c<w.heap.size) {a:Array Value} (b:Nat) (d:List Value) (cl':Bool) (s r:Nat) (f:a=d.toArray):dp (w.setChan c b a cl' s r false) c b d cl' :=
 ⟨s,r,by subst f;exact heap_setChan w c b _ cl' s r false e⟩
theorem pI {w':World} (h:dp w c cap buf closed) (he:w'.heap[c]?=w.heap[c]?):dp w' c cap buf closed:=by obtain ⟨s,r,h⟩:=h;exact ⟨s,r,he.trans h⟩
theorem NK (h:dp w c cap buf closed) (x:Obj):dp (w.alloc x) c cap buf closed :=
 pI h (by have:=h.lt;show (w.heap.push x)[c]?=_;rw [Array.getElem?_push_lt this,Array.getElem?_eq_getElem this])
theorem tf {j:Nat} (d:j≠c) (b:Nat) (a:Array Value) (cl:Bool) (s r:Nat) (tm:Bool):(w.setChan c b a cl s r tm).heap[j]?=w.heap[j]?:=by simp [World.setChan,Ne.symm d]
def yw (w:World) (c:Nat):Nat:=match w.heap[c]? with | some (.chan _ buf _ _ _ _)=>buf.size | _=>0
theorem dp.len (h:dp w c cap buf closed):yw w c=buf.length:=by obtain ⟨s,r,h⟩:=h;simp [yw,h]
structure lN (c:Nat) (w w':World):Prop where
 size:w'.heap.size=w.heap.size
 else_:∀ j,j≠c->w'.heap[j]?=w.heap[j]?
 below:∀ (B:Nat) (a:World),B<=c->Below B a w->Below B a w'
theorem t7 (b:Nat) (a:Array Value) (cl:Bool) (s r:Nat) (tm:Bool):lN c w (w.setChan c b a cl s r tm):=
 ⟨size_setChan _ _ _ _ _ _ _ _,λ_ e=>tf e _ _ _ _ _ _,λ_ _ d h=>below_setChan h d _ _ _ _ _ _⟩
variable {P : Program} {ops : Array Oper} {Q : Exit -> Act -> World -> Prop} {a : Act} {i : Nat} {rest : List Nat} {o : Oper} {v z : Value}
theorem t8 (g:ops[i]?=some o) (j:Region.wanted o (yielded ops a.tmps)=true) (hr:(execOp a.eval o).run P w=.ok (.comm #[scase c v z] true .send) w) (d:dp w c cap buf false) (b:buf.length<cap) (h:∀ f,dp f c cap (buf++[v]) false->lN c w f->eG P ops Q rest (a.put o.dst undef) f):eG P ops Q (i::rest) a w:=by have e:=d.lt;obtain ⟨s,r,d⟩:=d;exact Hb g j hr d kd (h _ (pn e _ _ _ _ _ cp) (t7 _ _ _ _ _ _))
theorem t9 (e:Bool) (j:ops[i]?=some o) (k:Region.wanted o (yielded ops a.tmps)=true) (hr:(execOp a.eval o).run P w=.ok (.comm #[rcase c z] true (.recv e)) w) (b:dp w c cap (v::buf) closed) (h:∀ f,dp f c cap buf closed->lN c w f->eG P ops Q rest (a.put o.dst (got e v true)) f):eG P ops Q (i::rest) a w:=by have d:=b.lt;obtain ⟨s,r,b⟩:=b;have g:=h _ (pn (a:=(v::buf).toArray.extract 1 (v::buf).toArray.size) d cap buf closed s (r+1) cp) (t7 _ _ _ _ _ _);exact wo e j k hr b cp ul
theorem ue (d:Bool) (e:ops[i]?=some o) (f:Region.wanted o (yielded ops a.tmps)=true) (hr:(execOp a.eval o).run P w=.ok (.comm #[rcase c z] true (.recv d)) w) (b:dp w c cap [] true) (h:eG P ops Q rest (a.put o.dst (got d z false)) w):eG P ops Q (i::rest) a w:=by obtain ⟨s,r,b⟩:=b;exact t6 d e f hr b h
theorem yx (b:dp w c cap buf false):∃ f,(∀ a e,(Builtin.close_ a e #[.chan (some c)]).run P w=.ok (.tuple #[]) f)/\dp f c cap buf true/\lN c w f:=by have d:=b.lt;obtain ⟨s,r,b⟩:=b;exact ⟨w.setChan c cap buf.toArray true s r false,λa e=>run_close_open a e b,pn d _ _ _ _ _ rfl,t7 _ _ _ _ _ _⟩
end
end Go.Proofs.YtjifdmoehfbihaaGreatDoor
namespace Go.Proofs.YtjifdmoehfbihaaGreatDoor
open Go.RowKit
set_option linter.unusedVariables false
def ei:List Nat:=[11,3,7,9,1,5]
def fV (x:Int):List Nat->Int
 | []=>-1
 | n::r=>match (ak x n==1) with | true=>n | false=>fV x r
def dc (x:Int):Int:=fV x ei
def j4 (l:List Int):Int:=bits .and .u64 (l.getD 9 0) (l.getD 3 0)
def Ai (l:List Int) (p:Int):Bool:=(p != 3)||(ak (l.getD 0 0) 3==1)
def Aj (l:List Int) (p:Int):Bool:=(p==0)||((p==1)&&(ak (l.getD 0 0) 1==1))
def Ff (l:List Int) (p:Int):Int:=match Aj l p with
 | true=>dc (bits .and .u64 (j4 l) (l.getD 2 0)) | false=>-1
def fG (l:List Int) (p:Int):Int:=match (Ai l p&&decide (dc (bits .andNot .u64 (j4 l) (l.getD 2 0))>=0)) with
 | true=>dc (bits .andNot .u64 (j4 l) (l.getD 2 0)) | false=>Ff l p
def uf (n:Nat) (l:List Int) (p:Int):Int:=match aX n l p with | true=>fG l p | false=>-1
theorem ug (x:Int):∀ r:List Nat,fV x r=-1\/∃ n ∈ r,fV x r=(n:Int)/\(ak x n==1)=true:=by
 intro r;induction r with
 | nil=>exact .inl rfl
 | cons n r b =>
   unfold fV;cases h:(ak x n==1) with
   | true=>exact .inr ⟨n,cp,rfl,h⟩
   | false =>
     rcases b with h|⟨m,a,h⟩;·exact .inl h
     ·exact .inr ⟨m,by simp [a],h⟩
end Go.Proofs.YtjifdmoehfbihaaGreatDoor
