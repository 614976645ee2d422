/- Own lemmas. -/
import Derived.Test.YtjifdmoehfbihaaGreatDoorAuj
import Derived.WalkKit
import Derived.Conc.LoneCalls
namespace Go.Proofs.YtjifdmoehfbihaaGreatDoor
set_option linter.unusedVariables false
variable {k:Nat} (n:List Int) (x:Nat) (y f j:Int) (a b:Nat)
def bf (n:Nat):Bool:=decide (4096<=n/\n<=65536/\n%4096=0)
theorem fT (h:bf k=true):4096<=k/\k<=65536:=by unfold bf at h;have:=of_decide_eq_true h;omega
def jp (s:Int):Bool:=decide (s=1\/s=2\/s=4\/s=8)
def gi (n:Nat) (addr size:Int):Bool:=bf n&&jp size&&decide (2147483648<=addr/\addr-2147483648+size<=n)
theorem iR {addr size:Int} (h:gi k addr size=true): bf k=true/\jp size=true/\2147483648<=addr/\addr-2147483648+size<=k/\1<=size/\size<=8/\4096<=k/\k<=65536:=by simp only [gi,Bool.and_eq_true,decide_eq_true_eq] at h;obtain ⟨⟨a,b⟩,d,e⟩:=h;have f:size=1\/size=2\/size=4\/size=8:=of_decide_eq_true b;have c:=fT a;exact ⟨a,b,d,e,ab,ab,c.1,c.2⟩
def le (zs:List Int):Nat->Nat->Int
 | _,0=>0
 | f,m+1=>zs.getD f 0+256*le zs (f+1) m
theorem yr (hz:∀ i,0<=n.getD i 0/\n.getD i 0<=255):∀ m f,0<=le n f m/\le n f m<256^m:=by
 intro m;induction m with
 | zero=>intro f;simp [le]
 | succ m b =>intro f;have c:=b (f+1);have d:=hz f;have a:(256:Int)^(m+1)=256*256^m:=(by rw [Int.pow_succ,Int.mul_comm]);rw [le,a];omega
theorem nt (h:x<=a):(256:Int)^x<=256^a:=by obtain ⟨d,rfl⟩:=Nat.exists_eq_add_of_le h;rw [Int.pow_add];have c:(0:Int)<256^x:=Int.pow_pos ab;have e:(0:Int)<256^d:=Int.pow_pos ab;have f:(256:Int)^x*1<=256^x*256^d:=Int.mul_le_mul_of_nonneg_left ab ab;omega
theorem SA (hz:∀ i,0<=n.getD i 0/\n.getD i 0<=255) (m f:Nat) (hm:m<=7):0<=le n f m/\le n f m<72057594037927936:=by
 have h:=yr n hz m f;have a:=nt m 7 hm;have e7:(256:Int)^7=72057594037927936:=bc
 omega
theorem uT (hz:∀ i,0<=n.getD i 0/\n.getD i 0<=255) (m f:Nat) (hm:m<=8):0<=le n f m/\le n f m<18446744073709551616:=by
 have h:=yr n hz m f;have a:=nt m 8 hm;have e7:(256:Int)^8=18446744073709551616:=bc
 omega
theorem D5:∀ d f m,le n f (d+m)=le n f d+256^d*le n (f+d) m:=by
 intro d;induction d with
 | zero=>intro f m;simp [le]
 | succ d b =>intro f m;have a:(256:Int)^(d+1)=256*256^d:=(by rw [Int.pow_succ,Int.mul_comm]);have e:d+1+m=(d+m)+1:=ab;rw [e,le,le,b (f+1) m,a,show f+1+d=f+(d+1) from ab,Int.mul_add,Int.mul_assoc,Int.add_assoc]
theorem Pg:le n x (a+1)=le n x a+n.getD (x+a) 0*256^a:=by rw [D5 n a x 1];simp [le];rw [Int.mul_comm]
theorem SB (hz:∀ i,0<=n.getD i 0/\n.getD i 0<=255) (f d m:Nat):le n f (d+m)/256^d=le n (f+d) m:=by rw [D5];have h:=yr n hz d f;have a:(0:Int)<256^d:=Int.pow_pos ab;rw [Int.add_mul_ediv_left _ _ ab,Int.ediv_eq_zero_of_lt h.1 h.2,Int.zero_add]
theorem KT (hz:∀ i,0<=n.getD i 0/\n.getD i 0<=255) (f d m:Nat):le n f (d+m)%256^d=le n f d:=by rw [D5];have h:=yr n hz d f;rw [Int.add_mul_emod_self_left,Int.emod_eq_of_lt h.1 h.2]
theorem uU:(2:Int)^(8*x)=256^x:=by rw [Int.pow_mul];rfl
theorem Ph (hk:a<8) (k:0<=y) (d:y<256^a) (b:0<=f) (e:f<=255): bits .or .u64 y (f*256^a)=y+f*256^a:=by
 have j:(0:Int)<256^a:=Int.pow_pos ab;have x:(256:Int)^a<=256^7:=by
  have:a=0\/a=1\/a=2\/a=3\/a=4\/a=5\/a=6\/a=7:=ab
  rcases this with rfl|rfl|rfl|rfl|rfl|rfl|rfl|rfl<;>decide
 have e7:(256:Int)^7=72057594037927936:=bc
 rw [e7] at x;have h:0<=f*256^a:=Int.mul_nonneg b ab;have i:f*256^a<=255*72057594037927936:=Int.le_trans (Int.mul_le_mul_of_nonneg_right e ab) ab;rw [u64_or y (f*256^a) k ab h ab];have g:y.toNat ||| (f*256^a).toNat=(f*256^a).toNat+y.toNat:=by
  rw [Nat.or_comm];refine nat_join (8*a) _ _ ?_ ?_
  ·have:(f*256^a).toNat=f.toNat*2^(8*a):=by
    obtain ⟨c,rfl⟩:=Int.eq_ofNat_of_zero_le b;rw [<- uU a];have:((c:Int)*2^(8*a))=((c*2^(8*a):Nat):Int):=cp
    rw [this,Int.toNat_natCast,Int.toNat_natCast]
   rw [this];exact Nat.mul_mod_left _ _
  ·have:(y.toNat:Int)<((2^(8*a):Nat):Int):=by rw [Int.toNat_of_nonneg k,Int.natCast_pow];show y<2^(8*a);rw [uU];exact d
   omega
 rw [g];omega
theorem Pi (hk:a<8) (k:0<=y) (b:y<=255):IntKind.u64.wrap (y*2^(8*a))=y*256^a:=by
 rw [uU,IntKind.wrap_u64];have f:=nt a 7 ab;have e:(0:Int)<256^a:=Int.pow_pos ab;have e7:(256:Int)^7=72057594037927936:=bc
 have c:0<=y*256^a:=Int.mul_nonneg k ab;have d:y*256^a<=255*256^a:=Int.mul_le_mul_of_nonneg_right b ab;exact Int.emod_eq_of_lt c ab
theorem IQ (hz:∀ i,0<=n.getD i 0/\n.getD i 0<=255) (f k:Nat) (hk:k<8): bits .or .u64 (le n f k) (IntKind.u64.wrap (n.getD (f+k) 0*2^(8*k)))=le n f (k+1):=by have h:=yr n hz k f;have a:=hz (f+k);rw [Pi _ _ hk a.1 a.2,Ph _ _ _ hk h.1 h.2 a.1 a.2,Pg]
theorem yt (c:1<=a) (hm:a<=8) (b:0<=y):IntKind.u64.wrap (y*2^(64-8*a))/2^(64-8*a)=y%256^a:=by
 rw [IntKind.wrap_u64,<- uU];have m:(0:Int)<2^(64-8*a):=Int.pow_pos ab;have e:(18446744073709551616:Int)=2^(64-8*a)*2^(8*a):=by rw [<- Int.pow_add,show (64-8*a)+8*a=64 from ab];rfl
 rw [e,Int.mul_comm y,Int.mul_emod_mul_of_pos _ _ m,Int.mul_ediv_cancel_left _ ab]
theorem SC (c:0<=y) (d:y<72057594037927936) (a:0<=f) (e:f<=255):bits .or .u64 (y*256) f=f+256*y:=by
 rw [u64_or (y*256) f ab ab a ab];have b:(y*256).toNat ||| f.toNat=(y*256).toNat+f.toNat:=nat_join 8 _ _ ab ab
 rw [b];omega
def jT (zs:List Int) (f:Nat) (x:Int):Nat->List Int
 | 0=>zs
 | k+1=>(jT zs f x k).set (f+k) (x/256^k%256)
theorem jc:∀ k,(jT n x y k).length=n.length:=by
 intro k;induction k with
 | zero=>rfl
 | succ k a=>simp [jT,a]
theorem KU (hz:∀ y ∈ n,0<=y/\y<=255) (f:Nat) (x:Int):∀ k,∀ y ∈ jT n f x k,0<=y/\y<=255:=by
 intro k;induction k with
 | zero=>exact hz
 | succ k b =>
   intro y a;rcases List.mem_or_eq_of_mem_set a with h|h;·exact b y h
   ·subst h;omega
def kH (zs:List Int) (n:Nat) (addr size x:Int):List Int:=if gi n addr size then jT zs (addr-2147483648).toNat x size.toNat else []
theorem D6 (hz:n.length=x) (hn:x<=1048576):(kH n x y f j).length<=1048576:=by
 unfold kH;split;·rw [jc];omega
 ·simp
def n7 (k:Int) (n:Nat):List Int:=(List.range n).map λ(i:Nat)=>(k+(i:Int))%256
theorem pk:(n7 y a).length=a:=by simp [n7]
def Mk (xs:List Int) (k:Int) (n j:Nat):List Int:=(n7 k n).take j++xs.drop j
theorem Pj:Mk n y a 0=n:=by simp [Mk]
theorem SE (h:n.length=a):Mk n y a a=n7 y a:=by have k:n.drop a=[]:=List.drop_of_length_le ab;have b:(n7 y a).take a=n7 y a:=List.take_of_length_le (by rw [pk];omega);rw [Mk,k,b,List.append_nil]
theorem SF (h:n.length=a) (k:b<=a):(Mk n y a b).length=a:=by simp [Mk,pk];omega
theorem SG (h:n.length=a) (d:b<a):(Mk n y a b).set b ((y+(b:Int))%256)=Mk n y a (b+1):=by
 unfold Mk;have k:(n7 y a).take (b+1)=(n7 y a).take b++[(y+(b:Int))%256]:=by rw [List.take_succ_eq_append_getElem (by rw [pk];exact d)];simp [n7]
 have j:n.drop b=n[b]::n.drop (b+1):=List.drop_eq_getElem_cons ab;have c:((n7 y a).take b).length=b:=by rw [List.length_take,pk];omega
 rw [k,j,List.set_append_right _ _ ab,c,Nat.sub_self,List.set_cons_zero,List.append_assoc];rfl
end Go.Proofs.YtjifdmoehfbihaaGreatDoor
namespace Go.Proofs.YtjifdmoehfbihaaGreatDoor
open Go.RowKit
set_option linter.unusedVariables false
variable {l:Nat} {x:List Int} {k:Int} (n:List Int) (p m:Int) (a:Nat)
def mst (x:Int):Int:=if (bits .and .u64 (bits .and .u64 x 924074/2048) 3==2)=true then bits .andNot .u64 (bits .and .u64 x 924074) 6144 else bits .and .u64 x 924074
def jx (x:Int) (k:Nat):Int :=
 if (bits .and .u64 (bits .and .u64 (x/2^(8*k)) 159) 1==0)=true then bits .andNot .u64 (bits .and .u64 (x/2^(8*k)) 159) 2 else bits .and .u64 (x/2^(8*k)) 159
def dq (x:Int):Nat->Int
 | 0=>0
 | k+1=>bits .or .u64 (dq x k) (IntKind.u64.wrap (jx x k*2^(8*k)))
def bn (p x:Int):Int :=
 if p=0 then mst x else if p=1 then bits .and .u64 x 46079 else if p=2 then bits .and .u64 x 546 else if p=3 then bits .and .u64 x 2730
 else if p=4\/p=10 then bits .andNot .u64 x 2 else if p=6\/p=12 then bits .andNot .u64 x 3 else if p=7\/p=13 then bits .and .u64 x 9223372036854775823
 else if p=16 then dq x 4 else if p=17\/p=18\/p=19\/p=20 then bits .and .u64 x 18014398509481983 else x
def fq (k:Nat) (x:Int):Bool :=
 if k=9 then (bits .and .u64 x 2730==x) else if k=15 then (x/1152921504606846976==0)||(x/1152921504606846976==8) else (bn k x==x)
def fH (l:List Int):Nat->Nat->Bool
 | 0,_=>true
 | n+1,k=>fq k (l.getD k 0)&&fH l n (k+1)
def bo (n:Nat) (l:List Int):Bool:=decide (n=22)&&fH l 22 0
theorem D7 (hk:a<22) (h:fq a (n.getD a 0)=true):fH n (22-a) a=fH n (22-(a+1)) (a+1):=by rw [show 22-a=(22-(a+1))+1 from ab,fH,h,Bool.true_and]
theorem IR (hk:a<22) (h:fq a (n.getD a 0)=false):fH n (22-a) a=false:=by rw [show 22-a=(22-(a+1))+1 from ab,fH,h,Bool.false_and]
def eg:List Int:=[768,770,771,772,773,832,833,834,835,836,261,320,321,322,323,384,928,944,945,946,947,2818]
def eH (x:Int):Nat->Nat->Int
 | 0,_=>-1
 | n+1,k=>if (eg.getD k 0==x)=true then (k:Int) else eH x n (k+1)
theorem Bk (hk:a<22) (h:(eg.getD a 0==p)=true):eH p (22-a) a=(a:Int):=by rw [show 22-a=(22-(a+1))+1 from ab,eH,if_pos h]
theorem zw (hk:a<22) (h:(eg.getD a 0==p)=false):eH p (22-a) a=eH p (22-(a+1)) (a+1):=by rw [show 22-a=(22-(a+1))+1 from ab,eH,if_neg (by rw [h];decide)]
def cZ (x:Int):Int:=if x=256 then 0 else if x=260 then 3 else if x=324 then 9 else eH x 22 0
theorem D9:∀ n k,k+n<=22->-1<=eH p n k/\eH p n k<22:=by
 intro n;induction n with
 | zero=>intro k _;simp [eH]
 | succ n a =>
   intro k b;unfold eH;split;·omega
   ·exact a (k+1) ab
theorem rO: -1<=cZ p/\cZ p<22:=by
 have:=D9 p 22 0 ab;unfold cZ;split;·omega
 ·split;·omega
  ·split;·omega
   ·exact this
def dt (x:Int):Bool:=(x==3860)||(x==769)||decide (0<=cZ x)
def cg (p:Int):Bool:=(p==0)||(p==1)||(p==3)
def iS (n:Nat) (l:List Int) (x p:Int):Bool:=bo n l&&dt x&&cg p&&decide ((wrap64 (x.tdiv 256)).tmod 4<=p)
def de (l:List Int) (x:Int):Int :=
 if x=3860 then 0 else if x=769 then 9223372036856090881 else if x=256 then bits .and .u64 (l.getD 0 0) 786722
 else if x=260 then bits .and .u64 (l.getD 3 0) (l.getD 2 0) else if x=324 then bits .and .u64 (l.getD 9 0) (l.getD 2 0) else l.getD (cZ x).toNat 0
def db (l:List Int) (i:Nat):Int:=bits .and .u64 (l.getD 16 0/2^(8*i)) 255
def fw (l:List Int) (i:Nat):Bool:=(db l i/128==1)||(decide (i<3)&&(db l (i+1)/128==1)&&(bits .and .u64 (db l (i+1)/8) 3==1))
def eI (l:List Int) (y:Int):Nat->Int
 | 0=>y
 | k+1=>if (db l k/128==1)=true then bits .or .u64 (bits .andNot .u64 (eI l y k) (IntKind.u64.wrap (255*2^(8*k)))) (bits .and .u64 (l.getD 16 0) (IntKind.u64.wrap (255*2^(8*k)))) else eI l y k
def iT (old m x:Int):Int:=bits .or .u64 (bits .andNot .u64 old m) (bits .and .u64 x m)
def fV (l:List Int) (p x:Int):List Int :=
 if p=9 then l.set 9 (iT (l.getD 9 0) 546 x)
 else if p=15 then (if ((x/1152921504606846976==0)||(x/1152921504606846976==8))=true then l.set 15 x else l)
 else if p=16 then l.set 16 (eI l (bn 16 x) 4)
 else if p=17\/p=18\/p=19\/p=20 then (if fw l (p-17).toNat=true then l else l.set p.toNat (bn p x))
 else l.set p.toNat (bn p x)
def bW (l:List Int) (n x:Int):List Int :=
 if n=769\/n=3860 then l
 else if n=256 then l.set 0 (iT (l.getD 0 0) 786722 x)
 else if n=260 then l.set 3 (bn 3 (iT (l.getD 3 0) (l.getD 2 0) x))
 else if n=324 then l.set 9 (iT (l.getD 9 0) (bits .and .u64 (l.getD 2 0) 2) x)
 else fV l (cZ n) x
theorem KV:(fV n p m).length=n.length:=by
 unfold fV;split;·simp
 ·split;·split<;>simp
  ·split;·simp
   ·split;·split<;>simp
    ·simp
theorem pZ:(bW n p m).length=n.length:=by
 unfold bW;split;·rfl
 ·split;·simp
  ·split;·simp
   ·split;·simp
    ·exact KV _ _ _
def Ea (m:Nat) (l:List Int) (n p:Int):Bool:=iS m l n p&&!((wrap64 (n.tdiv 1024)).tmod 4==3)
def Eb (m:Nat) (l:List Int) (n p x:Int):List Int:=if Ea m l n p=true then bW l n x else []
theorem Ec {p:Int} (h:iS l x k p=true):l=22/\dt k=true:=by simp only [iS,bo,Bool.and_eq_true,decide_eq_true_eq] at h;exact ⟨h.1.1.1.1,h.1.1.2⟩
def bj (n:Nat) (l:List Int) (p:Int):Bool:=bo n l&&cg p
theorem gJ (h:bj l x k=true):l=22/\cg k=true:=by simp only [bj,bo,Bool.and_eq_true,decide_eq_true_eq] at h;exact ⟨h.1.1,h.2⟩
def ap (x:Int) (i:Nat):Int:=bits .and .u64 (x/2^i) 1
def gG (k:Int) (intr:Bool):Int:=match intr with | true=>bits .or .u64 k 9223372036854775808 | false=>k
def du (l:List Int) (p:Int) (k:Nat) (intr:Bool):Bool:=!(p==3)&&(ap (match intr with | true=>l.getD 2 0 | false=>l.getD 1 0) k==1)
def lA (s:Int) (a:Bool):Int:=match a with
 | true=>bits .or .u64 (bits .or .u64 (bits .andNot .u64 s 290) (IntKind.u64.wrap (ap s 1*32))) 256
 | false=>bits .or .u64 (bits .andNot .u64 s 290) (IntKind.u64.wrap (ap s 1*32))
def mg (s p:Int):Int:=bits .or .u64 (bits .or .u64 (bits .andNot .u64 s 6280) (IntKind.u64.wrap (ap s 3*128))) (IntKind.u64.wrap (p*2048))
def ij (l:List Int) (d:Bool) (p t pc v:Int):List Int:=match d with
 | true=>(((l.set 13 t).set 12 (bits .andNot .u64 pc 3)).set 14 v).set 0 (lA (l.getD 0 0) (p==1))
 | false=>(((l.set 7 t).set 6 (bits .andNot .u64 pc 3)).set 8 v).set 0 (mg (l.getD 0 0) p)
def n8 (l:List Int) (d:Bool):Int:=match d with | true=>l.getD 10 0 | false=>l.getD 4 0
def ei (to k:Int) (jump:Bool):Int:=match jump with
 | true=>IntKind.u64.wrap (bits .andNot .u64 to 1+IntKind.u64.wrap (4*k))
 | false=>bits .andNot .u64 to 1
def tl (d:Bool):Int:=match d with | true=>1 | false=>3
section
variable {P : Program} {md : Region.Mode} {ops : Array Oper} {Q : Exit -> Act -> World -> Prop}
def uV (l:Array Bool):Nat:=l.toList.countP (λb=>!b)
theorem uW {l:Array Bool} {i:Nat} (h:l.getD i true=false):uV (l.setIfInBounds i true)+1=uV l:=by
 have b:i<l.size:=by
  by_cases a:i<l.size;·exact a
  ·simp [Array.getD,a] at h
 have d:l.toList[i]=false:=by simpa [Array.getD,b] using h
 have c:i<l.toList.length:=la
 unfold uV;rw [Array.toList_setIfInBounds,List.set_eq_take_append_cons_drop,if_pos c];conv=>rhs;rw [<- List.take_append_drop i l.toList,<- List.getElem_cons_drop c]
 simp [List.countP_append,d];omega
theorem Pk {a:Act} {l:List Value} {d:List Deferred} (hs:a.tmps.size=l.length) (hv:∀ i,i<l.length->a.tmps[i]?=l[i]?) (hd:a.defers=d):a=⟨l.toArray,d⟩:=by
 cases a with
 | mk tm c =>
   dsimp only at hs hv hd;subst hd;congr;apply Array.ext';apply List.ext_getElem?;intro i;by_cases b:i<l.length;·have:=hv i b;simpa using this
   ·rw [List.getElem?_eq_none (by rw [Array.length_toList];omega),List.getElem?_eq_none (by rw [List.toList_toArray];omega)]
theorem jU {a:Act} {n:Nat} (h:a.tmps.size=n) (t:Nat) (b:Nat.blt t n=true):∃ u,a.tmps[t]?=some u:=by have:t<n:=Nat.lt_of_succ_le (by simpa [Nat.blt] using b);exact ⟨_,Array.getElem?_eq_getElem ab⟩
theorem KX {o:Oper} {a:Act} {w:World} {K:Act->World->Prop} {v:Value} (h:(execOp a.eval o).run P w=.ok (.value v) w) (b:K (a.put o.dst v) w):o.wp P a w K Q:=by unfold Oper.wp;rw [h];exact b
theorem IS (I:Array Bool->Act->World->Prop) (hs:∀ listed a w i,I listed a w->i ∈ Region.ready md ops listed->wpOp P ops Q i (I (listed.setIfInBounds i true)) a w) (he:∀ listed a w,I listed a w->Region.ready md ops listed=[]->Q .normal a w):∀ fuel listed a w,uV listed<=fuel->I listed a w->wpAny P md ops Q fuel listed a w:=by
 intro fuel;induction fuel with
 | zero =>
   intro listed a w e b;have c:Region.ready md ops listed=[]:=by
    cases c:Region.ready md ops listed with
    | nil=>rfl
    | cons x l =>have f:x ∈ Region.ready md ops listed:=(by rw [c];exact List.mem_cons_self);have:=uW (mem_ready.1 f).1;omega
   exact ⟨c,he _ _ _ b c⟩
 | succ fuel g =>intro listed a w e b;refine ⟨he _ _ _ b,λi d=>?_⟩;have:=uW (mem_ready.1 d).1;exact wpOp_mono (λj k h=>g _ _ _ ab h) (hs _ _ _ _ b d)
def pM (ops:Array Oper) (a:Act) (j:Nat):Value:=match ops[j]? with
 | some o=>match o.dst with
   | some d=>a.tmps.getD d undef
   | none=>undef
 | none=>undef
def kf (o:Oper) (j:Nat):Bool:=o.after.any (λe=>Region.binds .any e&&e.on==j)
structure Li (ops:Array Oper) (D:Nat->List Nat) (V:Nat->List Value->World->Prop) (G:World->Prop) (a0:Act) (listed:Array Bool) (a:Act) (w:World):Prop where
 sz:listed.size=ops.size
 df:a.defers=a0.defers
 size:a.tmps.size=a0.tmps.size
 g:G w
 off:∀ t,ops.toList.all (λo=>o.dst != some t)=true->a.tmps[t]?=a0.tmps[t]?
 dn:∀ i o,ops[i]?=some o->listed.getD i true=true->∀ j,kf o j=true->listed.getD j false=true
 vs:∀ i,i<ops.size->listed.getD i true=true->V i ((D i).map (pM ops a)) w
def SH (P:Program) (ops:Array Oper) (Q:Exit->Act->World->Prop) (D:Nat->List Nat) (V:Nat->List Value->World->Prop) (G:World->Prop) (c:Act) (i:Nat) (o:Oper):Prop :=
 ∀ a w,G w->(∀ t,ops.toList.all (λo=>o.dst != some t)=true->a.tmps[t]?=c.tmps[t]?)->a.tmps.size=c.tmps.size ->
  (∀ j,j<ops.size->kf o j=true->V j ((D j).map (pM ops a)) w) ->
  o.wp P a w (λd b=>∃ v,d=a.put o.dst v/\V i ((D i).map (λj=>if j=i then v else pM ops a j)) b/\G b/\∀ j l,V j l w->V j l b) Q
def RT (ops:Array Oper) (D:Nat->List Nat) (n:Nat):Bool :=
 (List.range ops.size).all λi=>match ops[i]? with
  | none=>false
  | some o=>(D i).all (λj=>(o.dst.isSome&&Nat.beq j i)||(!(Nat.beq j i)&&kf o j))&&o.guard.isNone&&o.after.all (λe=>!Region.binds .any e||Nat.blt e.on i)&&(match o.dst with
    | none=>true
    | some d=>Nat.blt d n&&(List.range ops.size).all λj=>Nat.beq i j||(match ops[j]? with
      | none=>false
      | some a=>match a.dst with
        | none=>true
        | some y=>!(Nat.beq d y)))
structure RU (ops:Array Oper) (D:Nat->List Nat) (n:Nat):Prop where
 dd:∀ (i:Nat) (o:Oper),ops[i]?=some o->∀ j ∈ D i,(o.dst.isSome=true/\j=i)\/(j≠i/\kf o j=true)
 gd:∀ (i:Nat) (o:Oper),ops[i]?=some o->o.guard=none
 down:∀ (i:Nat) (o:Oper),ops[i]?=some o->∀ e ∈ o.after,Region.binds .any e=true->e.on<i
 lt:∀ (i:Nat) (o:Oper) (d:Nat),ops[i]?=some o->o.dst=some d->d<n
 ne:∀ (i:Nat) (o:Oper) (d j:Nat) (oj:Oper),ops[i]?=some o->o.dst=some d->ops[j]?=some oj->i≠j->oj.dst≠some d
theorem Ed {D:Nat->List Nat} {n:Nat} (h:RT ops D n=true):RU ops D n:=by
 have b:∀ i o,ops[i]?=some o->(∀ j ∈ D i,(o.dst.isSome=true/\j=i)\/(j≠i/\kf o j=true))/\o.guard=none/\(∀ e ∈ o.after,Region.binds .any e=true->e.on<i)/\∀ d,o.dst=some d->d<n/\∀ j g,ops[j]?=some g->i≠j->g.dst≠some d:=by
  intro i o a
  have s:i<ops.size:=(Array.getElem?_eq_some_iff.1 a).1
  have m:=List.all_eq_true.1 h i (List.mem_range.2 s)
  rw [a] at m
  simp only [Bool.and_eq_true] at m
  obtain ⟨⟨⟨v,t⟩,u⟩,k⟩:=m
  refine ⟨λj l=>by
   have c:=List.all_eq_true.1 v j l
   by_cases e:j=i
   ·subst e
    exact .inl ⟨i6,rfl⟩
   ·have e2:Nat.beq j i=false:=by
     cases q:Nat.beq j i with
     | false=>rfl
     | true=>exact absurd (Nat.eq_of_beq_eq_true q) e
    rw [e2] at c
    exact .inr ⟨e,i6⟩,by simpa using t,λe w q=>?_,λd f=>?_⟩
  ·have:=Array.all_eq_true_iff_forall_mem.1 u e w
   rw [q] at this
   have c:Nat.blt e.on i=true:=by simpa using this
   exact Nat.lt_of_succ_le (by simpa [Nat.blt] using c)
  ·rw [f] at k
   simp only [Bool.and_eq_true] at k
   refine ⟨Nat.lt_of_succ_le (by simpa [Nat.blt] using k.1),λj g l r e=>?_⟩
   have p:=List.all_eq_true.1 k.2 j (List.mem_range.2 (Array.getElem?_eq_some_iff.1 l).1)
   rw [l] at p
   simp only [e,Bool.or_eq_true,Nat.beq_eq,Nat.beq_refl,Bool.not_true,Bool.false_eq_true,or_false] at p
   exact r p
 exact ⟨λi o a=>(b i o a).1,λi o a=>(b i o a).2.1,λi o a=>(b i o a).2.2.1,λi o d a f=>((b i o a).2.2.2 d f).1,λi o d j g a f=>((b i o a).2.2.2 d f).2 j g⟩
theorem yu {D:Nat->List Nat} {n:Nat} (L:RU ops D n) {i:Nat} {o:Oper} (k:ops[i]?=some o) {j:Nat} (h:j≠i) (a:Act) (v:Value):pM ops (a.put o.dst v) j=pM ops a j:=by
 unfold pM;cases c:ops[j]? with
 | none=>rfl
 | some f =>
   dsimp only;cases g:f.dst with
   | none=>rfl
   | some d =>
     dsimp only;cases b:o.dst with
     | none=>rfl
     | some x =>have:x≠d:=λe=>L.ne j f d i o c g k h (by rw [b,e]);simp [Act.put,Array.getD_eq_getD_getElem?,Array.getElem?_setIfInBounds_ne this]
theorem xB {id:Nat} {s:Act} {w:World} (hm:P.follows .mixedOrders=true) (D:Nat->List Nat) (V:Nat->List Value->World->Prop) (G:World->Prop) (S:RT ops D s.tmps.size=true) (X:G {w with drawn:=w.drawn+1}) (hs:∀ i o,ops[i]?=some o->SH P ops Q D V G s i o) (he:∀ a O,G O->(∀ t,ops.toList.all (λo=>o.dst != some t)=true->a.tmps[t]?=s.tmps[t]?)->a.tmps.size=s.tmps.size->a.defers=s.defers->(∀ i,i<ops.size->V i ((D i).map (pM ops a)) O)->Q .normal a O):(Go.Code.region id ops true).wp P Q s w:=by
 have L:=Ed S
 refine wp_region_any hm (IS (λlisted a w=>Li ops D V G s listed a w) ?_ ?_ _ _ _ _ ?_ ?_)
 ·intro listed a w i b T
  obtain ⟨K,o,c,m⟩:=mem_ready.1 T
  have y:=b.sz
  have p:i<ops.size:=(Array.getElem?_eq_some_iff.1 c).1
  have M:∀ j,kf o j=true->listed.getD j false=true:=by
   intro j n
   unfold kf at n
   rw [<- Array.any_toList] at n
   obtain ⟨e,C,x⟩:=List.any_eq_true.1 n
   rw [Array.mem_toList_iff] at C
   rw [Bool.and_eq_true,beq_iff_eq] at x
   have U:=m e C x.1
   rw [x.2] at U
   exact U
  have J:∀ j,listed.getD j false=true->listed.getD j true=true:=by
   intro j n
   by_cases F:j<listed.size
   ·simpa [Array.getD,F] using n
   ·simp [Array.getD,F] at n
  unfold wpOp
  simp only [c,Region.wanted,L.gd i o c,if_true]
  refine .inl (Oper.wp_mono ?_ (hs i o c a w b.g b.off b.size (λj n hw=>b.vs j n (J j (M j hw)))))
  rintro a' O ⟨v,rfl,hv,hg,z⟩
  refine ⟨by simp [y],?_,?_,hg,?_,?_,?_⟩
  ·cases o.dst<;>exact b.df
  ·rw [<- b.size];cases o.dst<;>simp [Act.put]
  ·intro t W
   have R:o.dst≠some t:=by
    have:=List.all_eq_true.1 W o (by rw [Array.mem_toList_iff];exact Array.mem_of_getElem? c)
    simpa using this
   rw [<- b.off t W]
   cases N:o.dst with
   | none=>rfl
   | some d =>
     have:d≠t:=λe=>R (by rw [N,e])
     simp [Act.put,Array.getElem?_setIfInBounds_ne this]
  ·intro j oj l q k B
   have E:∀ k,listed.getD k false=true->(listed.setIfInBounds i true).getD k false=true:=by
    intro k h
    by_cases e:i=k
    ·subst e
     simp [Array.getD_eq_getD_getElem?,y,p]
    ·simp only [Array.getD_eq_getD_getElem?,Array.getElem?_setIfInBounds_ne e] at h ⊢
     exact h
   by_cases f:j=i
   ·subst f
    rw [c] at l
    cases l
    exact E k (M k B)
   ·refine E k (b.dn j oj l ?_ k B)
    simp only [Array.getD_eq_getD_getElem?,Array.getElem?_setIfInBounds_ne (Ne.symm f)] at q ⊢
    exact q
  ·intro j n q
   by_cases f:j=i
   ·subst f
    rwa [List.map_congr_left (g:=λk=>if k=j then v else pM ops a k) (λk B=>?_)]
    rcases L.dd j o c k B with ⟨u,A⟩|⟨u,_⟩
    ·subst A
     rw [if_pos rfl]
     obtain ⟨d,N⟩:=Option.isSome_iff_exists.1 u
     have r:=L.lt k o d c N
     rw [<- b.size] at r
     unfold pM
     rw [c]
     simp [N,Act.put,Array.getD_eq_getD_getElem?,r]
    ·rw [if_neg u]
     exact yu L c u a v
   ·have H:listed.getD j true=true:=by
     simp only [Array.getD_eq_getD_getElem?,Array.getElem?_setIfInBounds_ne (Ne.symm f)] at q ⊢
     exact q
    have u:=z j _ (b.vs j n H)
    have l:ops[j]?=some ops[j]:=Array.getElem?_eq_getElem n
    rwa [List.map_congr_left (g:=pM ops a) (λk B=>yu L c (λe=>?_) a v)]
    rcases L.dd j _ l k B with ⟨_,h⟩|⟨_,h⟩
    ·exact f (h.symm.trans e)
    ·have A:=b.dn j _ l H k h
     rw [e] at A
     rw [J i A] at K
     cases K
 ·intro listed a w b T
  have y:=b.sz
  have m:∀ i,i<ops.size->listed.getD i true=true:=by
   intro i
   induction i using Nat.strongRecOn with
   | _ i ih =>
     intro p
     cases Z:listed.getD i true with
     | true=>rfl
     | false =>
       have c:ops[i]?=some ops[i]:=Array.getElem?_eq_getElem p
       have:i ∈ Region.ready .any ops listed:=mem_ready.2 ⟨Z,_,c,λe he Y=>by
        have r:=L.down i _ c e he Y
        have u:=ih e.on r ab
        have A:e.on<listed.size:=ab
        simpa [Array.getD,A] using u⟩
       rw [T] at this
       cases this
  exact he a w b.g b.off b.size b.df λi p=>b.vs i p (m i p)
 ·unfold uV
  rw [Array.toList_replicate]
  exact Nat.le_trans List.countP_le_length cp
 ·have I:∀ i,i<ops.size->¬ (Array.replicate ops.size false).getD i true=true:=λi p h=>by simp [Array.getD,p] at h
  exact ⟨cp,rfl,rfl,X,λt _=>rfl,λi o c q=>absurd q (I i (Array.getElem?_eq_some_iff.1 c).1),λi p q=>absurd q (I i p)⟩
end
end Go.Proofs.YtjifdmoehfbihaaGreatDoor
namespace Go.Proofs.YtjifdmoehfbihaaGreatDoor
open Go.Conc Go.RowKit
def fg (P:Program) (ops:Array Oper) (Q:Exit->Act->World->Prop) (l:List Nat) (a:Act) (w:World):Prop :=
 ∀ (b:Frame) (k:List Item) (d:List Frame),∃ e c f,Q e c f/\Arrives P (lone (b.at a (.inRegion ops l::k)) d w) b k d e c f
section
variable {P : Program} {ops : Array Oper} {Q : Exit -> Act -> World -> Prop} {a : Act} {w w₁ : World} {i : Nat} {rest : List Nat} {o : Oper}
theorem uX {id:Nat} (h:fg P ops Q (List.range ops.size) a w):(Code.region id ops false).wp P Q a w :=
 λb k d=>let ⟨e,c,f,q,r⟩:=h b k d;⟨e,c,f,q,.of_steps (.one step_region) r⟩
theorem mM (h:Q .normal a w):fg P ops Q [] a w:=λ_ _ _=>⟨.normal,a,w,h,.one step_region_end⟩
theorem mN {d:Act} (hs:∀ (b:Frame) (k:List Item) (c:List Frame),step P (lone (b.at a (.inRegion ops (i::rest)::k)) c w)=.next (lone (b.at d (.inRegion ops rest::k)) c w₁))
 (h:fg P ops Q rest d w₁):fg P ops Q (i::rest) a w :=
 λb k c=>let ⟨e,d,f,q,r⟩:=h b k c;⟨e,d,f,q,.of_steps (.one (hs b k c)) r⟩
theorem fin (c:ops[i]?=some o) (b:Frame) (k:List Item) (v:Value):(b.at a (.inRegion ops (i::rest)::k)).finish v=b.at (a.put o.dst v) (.inRegion ops rest::k):=by rw [Frame.finish_at,c];rfl
theorem Ee {v:Value} (c:ops[i]?=some o) (d:Region.wanted o (yielded ops a.tmps)=true) (hr:(execOp a.eval o).run P w=.ok (.value v) w₁) (h:fg P ops Q rest (a.put o.dst v) w₁):fg P ops Q (i::rest) a w:=by refine mN (λb k e=>step_lone_go ?_) h;rw [stepG_op c d,<- fin c];simp [stepG.apply,hr]
theorem IT (c:ops[i]?=some o) (d:Region.wanted o (yielded ops a.tmps)=true) (hr:(execOp a.eval o).run P w=.ok .skip w₁) (h:fg P ops Q rest (a.put o.dst undef) w₁):fg P ops Q (i::rest) a w:=by refine mN (λb k e=>step_lone_go ?_) h;rw [stepG_op c d,<- fin c];simp [stepG.apply,hr]
def SI (P:Program) (ops:Array Oper) (Q:Exit->Act->World->Prop) (rest:List Nat) (a:Act) (o:Oper):Result Next->Prop
 | .ok (.value v) w'=>fg P ops Q rest (a.put o.dst v) w'
 | .ok .skip w'=>fg P ops Q rest (a.put o.dst undef) w'
 | _=>False
@[simp] theorem upon_value (v:Value) (w':World):SI P ops Q rest a o (.ok (.value v) w')=fg P ops Q rest (a.put o.dst v) w':=rfl
@[simp] theorem upon_skip (w':World):SI P ops Q rest a o (.ok .skip w')=fg P ops Q rest (a.put o.dst undef) w':=rfl
theorem kg (b:ops[i]?=some o) (d:Region.wanted o (yielded ops a.tmps)=true) (h:SI P ops Q rest a o ((execOp a.eval o).run P w)):fg P ops Q (i::rest) a w:=by
 generalize c:(execOp a.eval o).run P w=r at h;match r,h with
 | .ok (.value v) w',h=>exact Ee b d c h
 | .ok .skip w',h=>exact IT b d c h
theorem zx {cases:Array CommCase} {c:Bool} {shape:CommShape} (f:ops[i]?=some o) (g:Region.wanted o (yielded ops a.tmps)=true) (hr:(execOp a.eval o).run P w=.ok (.comm cases c shape) w₁) (b:Frame) (k:List Item) (cs:List Frame):∃ d,stepG P true (G (b.at a (.inRegion ops (i::rest)::k)) cs) w=.comm (G (b.at a (.inRegion ops (i::rest)::k)) cs) cases c shape w₁ d:=by have e:=stepG_op (P:=P) (b:=b) (k:=k) (cs:=cs) (w:=w) (rest:=rest) f g;rw [show G (b.at a (.inRegion ops (i::rest)::k)) cs={frame:=b.at a (.inRegion ops (i::rest)::k),callers:=cs,status:=.running,dying:=none} from rfl,e];simp [stepG.apply,hr,GStep.after]
variable {c cap s r : Nat} {buf : Array Value} {z v : Value} {tm closed : Bool}
theorem IU (e:ops[i]?=some o) (l:Region.wanted o (yielded ops a.tmps)=true) (hr:(execOp a.eval o).run P w=.ok (.comm #[scase c v z] true .send) w₁) (g:w₁.heap[c]?=some (.chan cap buf false s r tm)) (d:buf.size<cap) (h:fg P ops Q rest (a.put o.dst undef) (w₁.setChan c cap (buf.push v) false (s+1) r tm)):fg P ops Q (i::rest) a w:=by refine mN (λb k f=>?_) h;obtain ⟨m,j⟩:=zx (rest:=rest) e l hr b k f;rw [lone_eq_solo,lone_eq_solo,<- fin e];exact step_lone_send_room j g d
theorem xC (e:Bool) (f:ops[i]?=some o) (m:Region.wanted o (yielded ops a.tmps)=true) (hr:(execOp a.eval o).run P w=.ok (.comm #[rcase c z] true (.recv e)) w₁) (j:w₁.heap[c]?=some (.chan cap buf closed s r tm)) (d:0<buf.size) (h:fg P ops Q rest (a.put o.dst (got e (buf.getD 0 undef) true)) (w₁.setChan c cap (buf.extract 1 buf.size) closed s (r+1) tm)):fg P ops Q (i::rest) a w:=by refine mN (λb k g=>?_) h;obtain ⟨n,l⟩:=zx (rest:=rest) f m hr b k g;rw [lone_eq_solo,lone_eq_solo,<- fin f];exact step_lone_recv_buf e l j d
theorem uY (d:Bool) (e:ops[i]?=some o) (l:Region.wanted o (yielded ops a.tmps)=true) (hr:(execOp a.eval o).run P w=.ok (.comm #[rcase c z] true (.recv d)) w₁) (g:w₁.heap[c]?=some (.chan cap #[] true s r tm)) (h:fg P ops Q rest (a.put o.dst (got d z false)) w₁):fg P ops Q (i::rest) a w:=by refine mN (λb k f=>?_) h;obtain ⟨m,j⟩:=zx (rest:=rest) e l hr b k f;rw [lone_eq_solo,lone_eq_solo,<- fin e];exact step_lone_recv_shut d j g
def nu (P:Program) (ops:Array Oper) (Q:Exit->Act->World->Prop) (a:Act) (w:World):Prop:=fg P ops Q (List.range ops.size) a w
structure WS (Q Q':Exit->Act->World->Prop):Type where
 out:∀ e a w,Q e a w->Q' e a w
theorem gV {id:Nat} (h:∀ b:Exit->Act->World->Prop,WS Q b->nu P ops b a w):(Code.region id ops false).wp P Q a w:=uX (h Q ⟨λ_ _ _ h=>h⟩)
end
def dE (w:World) (c cap:Nat) (buf:List Value) (closed:Bool):Prop:=∃ s r,w.heap[c]?=some (.chan cap buf.toArray closed s r false)
section
variable {w : World} {c cap : Nat} {buf : List Value} {closed : Bool}
theorem dE.lt (h:dE w c cap buf closed):c<w.heap.size:=by
 obtain ⟨s,r,h⟩:=h;rcases Nat.lt_or_ge c w.heap.size with a|a;·exact a
 ·simp [Array.getElem?_eq_none a] at h
theorem qb (e:c<w.heap.size) {a:Array Value} (b:Nat) (d:List Value) (cl':Bool) (s r:Nat) (f:a=d.toArray):dE (w.setChan c b a cl' s r false) c b d cl' :=
 ⟨s,r,by subst f;exact heap_setChan w c b _ cl' s r false e⟩
theorem qs {w':World} (h:dE w c cap buf closed) (he:w'.heap[c]?=w.heap[c]?):dE w' c cap buf closed:=by obtain ⟨s,r,h⟩:=h;exact ⟨s,r,he.trans h⟩
theorem Pn (h:dE w c cap buf closed) (x:Obj):dE (w.alloc x) c cap buf closed :=
 qs h (by have:=h.lt;show (w.heap.push x)[c]?=_;rw [Array.getElem?_push_lt this,Array.getElem?_eq_getElem this])
theorem uj {j:Nat} (d:j≠c) (b:Nat) (a:Array Value) (cl:Bool) (s r:Nat) (tm:Bool):(w.setChan c b a cl s r tm).heap[j]?=w.heap[j]?:=by simp [World.setChan,Ne.symm d]
def zy (w:World) (c:Nat):Nat:=match w.heap[c]? with | some (.chan _ buf _ _ _ _)=>buf.size | _=>0
theorem dE.len (h:dE w c cap buf closed):zy w c=buf.length:=by obtain ⟨s,r,h⟩:=h;simp [zy,h]
structure mc (c:Nat) (w w':World):Prop where
 size:w'.heap.size=w.heap.size
 else_:∀ j,j≠c->w'.heap[j]?=w.heap[j]?
 below:∀ (B:Nat) (a:World),B<=c->Below B a w->Below B a w'
theorem uZ (b:Nat) (a:Array Value) (cl:Bool) (s r:Nat) (tm:Bool):mc c w (w.setChan c b a cl s r tm):=
 ⟨size_setChan _ _ _ _ _ _ _ _,λ_ e=>uj e _ _ _ _ _ _,λ_ _ d h=>below_setChan h d _ _ _ _ _ _⟩
variable {P : Program} {ops : Array Oper} {Q : Exit -> Act -> World -> Prop} {a : Act} {i : Nat} {rest : List Nat} {o : Oper} {v z : Value}
theorem vb (g:ops[i]?=some o) (j:Region.wanted o (yielded ops a.tmps)=true) (hr:(execOp a.eval o).run P w=.ok (.comm #[scase c v z] true .send) w) (d:dE w c cap buf false) (b:buf.length<cap) (h:∀ f,dE f c cap (buf++[v]) false->mc c w f->fg P ops Q rest (a.put o.dst undef) f):fg P ops Q (i::rest) a w:=by have e:=d.lt;obtain ⟨s,r,d⟩:=d;exact IU g j hr d la (h _ (qb e _ _ _ _ _ cp) (uZ _ _ _ _ _ _))
theorem vd (e:Bool) (j:ops[i]?=some o) (k:Region.wanted o (yielded ops a.tmps)=true) (hr:(execOp a.eval o).run P w=.ok (.comm #[rcase c z] true (.recv e)) w) (b:dE w c cap (v::buf) closed) (h:∀ f,dE f c cap buf closed->mc c w f->fg P ops Q rest (a.put o.dst (got e v true)) f):fg P ops Q (i::rest) a w:=by have d:=b.lt;obtain ⟨s,r,b⟩:=b;have g:=h _ (qb (a:=(v::buf).toArray.extract 1 (v::buf).toArray.size) d cap buf closed s (r+1) cp) (uZ _ _ _ _ _ _);exact xC e j k hr b cp v8
theorem ve (d:Bool) (e:ops[i]?=some o) (f:Region.wanted o (yielded ops a.tmps)=true) (hr:(execOp a.eval o).run P w=.ok (.comm #[rcase c z] true (.recv d)) w) (b:dE w c cap [] true) (h:fg P ops Q rest (a.put o.dst (got d z false)) w):fg P ops Q (i::rest) a w:=by obtain ⟨s,r,b⟩:=b;exact uY d e f hr b h
theorem zA (b:dE w c cap buf false):∃ f,(∀ a e,(Builtin.close_ a e #[.chan (some c)]).run P w=.ok (.tuple #[]) f)/\dE f c cap buf true/\mc c w f:=by have d:=b.lt;obtain ⟨s,r,b⟩:=b;exact ⟨w.setChan c cap buf.toArray true s r false,λa e=>run_close_open a e b,qb d _ _ _ _ _ rfl,uZ _ _ _ _ _ _⟩
end
end Go.Proofs.YtjifdmoehfbihaaGreatDoor
namespace Go.Proofs.YtjifdmoehfbihaaGreatDoor
open Go.RowKit
set_option linter.unusedVariables false
def eR:List Nat:=[11,3,7,9,1,5]
def gu (x:Int):List Nat->Int
 | []=>-1
 | n::r=>match (ap x n==1) with | true=>n | false=>gu x r
def dA (x:Int):Int:=gu x eR
def ku (l:List Int):Int:=bits .and .u64 (l.getD 9 0) (l.getD 3 0)
def Bl (l:List Int) (p:Int):Bool:=(p != 3)||(ap (l.getD 0 0) 3==1)
def Bm (l:List Int) (p:Int):Bool:=(p==0)||((p==1)&&(ap (l.getD 0 0) 1==1))
def Gy (l:List Int) (p:Int):Int:=match Bm l p with
 | true=>dA (bits .and .u64 (ku l) (l.getD 2 0)) | false=>-1
def fW (l:List Int) (p:Int):Int:=match (Bl l p&&decide (dA (bits .andNot .u64 (ku l) (l.getD 2 0))>=0)) with
 | true=>dA (bits .andNot .u64 (ku l) (l.getD 2 0)) | false=>Gy l p
def vf (n:Nat) (l:List Int) (p:Int):Int:=match bj n l p with | true=>fW l p | false=>-1
theorem vg (x:Int):∀ r:List Nat,gu x r=-1\/∃ n ∈ r,gu x r=(n:Int)/\(ap x n==1)=true:=by
 intro r;induction r with
 | nil=>exact .inl rfl
 | cons n r b =>
   unfold gu;cases h:(ap x n==1) with
   | true=>exact .inr ⟨n,cp,rfl,h⟩
   | false =>
     rcases b with h|⟨m,a,h⟩;·exact .inl h
     ·exact .inr ⟨m,by simp [a],h⟩
end Go.Proofs.YtjifdmoehfbihaaGreatDoor
