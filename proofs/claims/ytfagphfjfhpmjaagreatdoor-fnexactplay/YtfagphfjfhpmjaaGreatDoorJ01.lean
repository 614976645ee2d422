/- Own lemmas. -/
import Derived.Test.YtfagphfjfhpmjaaGreatDoorAuj
import Derived.WalkKit
import Derived.Conc.LoneCalls
namespace Go.Proofs.YtfagphfjfhpmjaaGreatDoor
set_option linter.unusedVariables false
variable {k:Nat} (n:List Int) (x:Nat) (y f j:Int) (a b:Nat)
def bq (n:Nat):Bool:=decide (4096<=n/\n<=65536/\n%4096=0)
theorem gu (h:bq k=true):4096<=k/\k<=65536:=by unfold bq at h;have:=of_decide_eq_true h;omega
def jr (s:Int):Bool:=decide (s=1\/s=2\/s=4\/s=8)
def gU (n:Nat) (addr size:Int):Bool:=bq n&&jr size&&decide (2147483648<=addr/\addr-2147483648+size<=n)
theorem j8 {addr size:Int} (h:gU k addr size=true): bq k=true/\jr size=true/\2147483648<=addr/\addr-2147483648+size<=k/\1<=size/\size<=8/\4096<=k/\k<=65536:=by simp only [gU,Bool.and_eq_true,decide_eq_true_eq] at h;obtain ⟨⟨a,b⟩,d,e⟩:=h;have f:size=1\/size=2\/size=4\/size=8:=of_decide_eq_true b;have c:=gu a;exact ⟨a,b,d,e,ab,ab,c.1,c.2⟩
def le (zs:List Int):Nat->Nat->Int
 | _,0=>0
 | f,m+1=>zs.getD f 0+256*le zs (f+1) m
theorem xc (hz:∀ i,0<=n.getD i 0/\n.getD i 0<=255):∀ m f,0<=le n f m/\le n f m<256^m:=by
 intro m;induction m with
 | zero=>intro f;simp [le]
 | succ m b =>intro f;have c:=b (f+1);have d:=hz f;have a:(256:Int)^(m+1)=256*256^m:=(by rw [Int.pow_succ,Int.mul_comm]);rw [le,a];omega
theorem mV (h:x<=a):(256:Int)^x<=256^a:=by obtain ⟨d,rfl⟩:=Nat.exists_eq_add_of_le h;rw [Int.pow_add];have c:(0:Int)<256^x:=Int.pow_pos ab;have e:(0:Int)<256^d:=Int.pow_pos ab;have f:(256:Int)^x*1<=256^x*256^d:=Int.mul_le_mul_of_nonneg_left ab ab;omega
theorem Ph (hz:∀ i,0<=n.getD i 0/\n.getD i 0<=255) (m f:Nat) (hm:m<=7):0<=le n f m/\le n f m<72057594037927936:=by
 have h:=xc n hz m f;have b:=mV m 7 hm;have a:(256:Int)^7=72057594037927936:=a6
 omega
theorem tN (hz:∀ i,0<=n.getD i 0/\n.getD i 0<=255) (m f:Nat) (hm:m<=8):0<=le n f m/\le n f m<18446744073709551616:=by
 have h:=xc n hz m f;have b:=mV m 8 hm;have a:(256:Int)^8=18446744073709551616:=a6
 omega
theorem CD:∀ d f m,le n f (d+m)=le n f d+256^d*le n (f+d) m:=by
 intro d;induction d with
 | zero=>intro f m;simp [le]
 | succ d b =>intro f m;have a:(256:Int)^(d+1)=256*256^d:=(by rw [Int.pow_succ,Int.mul_comm]);have e:d+1+m=(d+m)+1:=ab;rw [e,le,le,b (f+1) m,a,show f+1+d=f+(d+1) from ab,Int.mul_add,Int.mul_assoc,Int.add_assoc]
theorem MI:le n x (a+1)=le n x a+n.getD (x+a) 0*256^a:=by rw [CD n a x 1];simp [le];rw [Int.mul_comm]
theorem Pi (hz:∀ i,0<=n.getD i 0/\n.getD i 0<=255) (f d m:Nat):le n f (d+m)/256^d=le n (f+d) m:=by rw [CD];have h:=xc n hz d f;have a:(0:Int)<256^d:=Int.pow_pos ab;rw [Int.add_mul_ediv_left _ _ ab,Int.ediv_eq_zero_of_lt h.1 h.2,Int.zero_add]
theorem Jb (hz:∀ i,0<=n.getD i 0/\n.getD i 0<=255) (f d m:Nat):le n f (d+m)%256^d=le n f d:=by rw [CD];have h:=xc n hz d f;rw [Int.add_mul_emod_self_left,Int.emod_eq_of_lt h.1 h.2]
theorem tO:(2:Int)^(8*x)=256^x:=by rw [Int.pow_mul];rfl
theorem MJ (hk:a<8) (k:0<=y) (e:y<256^a) (b:0<=f) (x:f<=255): bits .or .u64 y (f*256^a)=y+f*256^a:=by
 have l:(0:Int)<256^a:=Int.pow_pos ab;have g:(256:Int)^a<=256^7:=by
  have:a=0\/a=1\/a=2\/a=3\/a=4\/a=5\/a=6\/a=7:=ab
  rcases this with rfl|rfl|rfl|rfl|rfl|rfl|rfl|rfl<;>decide
 have d:(256:Int)^7=72057594037927936:=a6
 rw [d] at g;have i:0<=f*256^a:=Int.mul_nonneg b ab;have j:f*256^a<=255*72057594037927936:=Int.le_trans (Int.mul_le_mul_of_nonneg_right x ab) ab;rw [u64_or y (f*256^a) k ab i ab];have h:y.toNat ||| (f*256^a).toNat=(f*256^a).toNat+y.toNat:=by
  rw [Nat.or_comm];refine nat_join (8*a) _ _ ?_ ?_
  ·have:(f*256^a).toNat=f.toNat*2^(8*a):=by
    obtain ⟨c,rfl⟩:=Int.eq_ofNat_of_zero_le b;rw [<- tO a];have:((c:Int)*2^(8*a))=((c*2^(8*a):Nat):Int):=bc
    rw [this,Int.toNat_natCast,Int.toNat_natCast]
   rw [this];exact Nat.mul_mod_left _ _
  ·have:(y.toNat:Int)<((2^(8*a):Nat):Int):=by rw [Int.toNat_of_nonneg k,Int.natCast_pow];show y<2^(8*a);rw [tO];exact e
   omega
 rw [h];omega
theorem MK (hk:a<8) (k:0<=y) (b:y<=255):IntKind.u64.wrap (y*2^(8*a))=y*256^a:=by
 rw [tO,IntKind.wrap_u64];have g:=mV a 7 ab;have f:(0:Int)<256^a:=Int.pow_pos ab;have e:(256:Int)^7=72057594037927936:=a6
 have c:0<=y*256^a:=Int.mul_nonneg k ab;have d:y*256^a<=255*256^a:=Int.mul_le_mul_of_nonneg_right b ab;exact Int.emod_eq_of_lt c ab
theorem Gx (hz:∀ i,0<=n.getD i 0/\n.getD i 0<=255) (f k:Nat) (hk:k<8): bits .or .u64 (le n f k) (IntKind.u64.wrap (n.getD (f+k) 0*2^(8*k)))=le n f (k+1):=by have h:=xc n hz k f;have a:=hz (f+k);rw [MK _ _ hk a.1 a.2,MJ _ _ _ hk h.1 h.2 a.1 a.2,MI]
theorem xd (c:1<=a) (hm:a<=8) (b:0<=y):IntKind.u64.wrap (y*2^(64-8*a))/2^(64-8*a)=y%256^a:=by
 rw [IntKind.wrap_u64,<- tO];have m:(0:Int)<2^(64-8*a):=Int.pow_pos ab;have e:(18446744073709551616:Int)=2^(64-8*a)*2^(8*a):=by rw [<- Int.pow_add,show (64-8*a)+8*a=64 from ab];rfl
 rw [e,Int.mul_comm y,Int.mul_emod_mul_of_pos _ _ m,Int.mul_ediv_cancel_left _ ab]
theorem Pj (c:0<=y) (d:y<72057594037927936) (a:0<=f) (e:f<=255):bits .or .u64 (y*256) f=f+256*y:=by
 rw [u64_or (y*256) f ab ab a ab];have b:(y*256).toNat ||| f.toNat=(y*256).toNat+f.toNat:=nat_join 8 _ _ ab ab
 rw [b];omega
def lP (zs:List Int) (f:Nat) (x:Int):Nat->List Int
 | 0=>zs
 | k+1=>(lP zs f x k).set (f+k) (x/256^k%256)
theorem kI:∀ k,(lP n x y k).length=n.length:=by
 intro k;induction k with
 | zero=>rfl
 | succ k a=>simp [lP,a]
theorem Pk (hz:∀ y ∈ n,0<=y/\y<=255) (f:Nat) (x:Int):∀ k,∀ y ∈ lP n f x k,0<=y/\y<=255:=by
 intro k;induction k with
 | zero=>exact hz
 | succ k b =>
   intro y a;rcases List.mem_or_eq_of_mem_set a with h|h;·exact b y h
   ·subst h;omega
def ks (zs:List Int) (n:Nat) (addr size x:Int):List Int:=if gU n addr size then lP zs (addr-2147483648).toNat x size.toNat else []
theorem CF (hz:n.length=x) (hn:x<=1048576):(ks n x y f j).length<=1048576:=by
 unfold ks;split;·rw [kI];omega
 ·simp
def dC (k:Int) (n:Nat):List Int:=(List.range n).map λ(i:Nat)=>(k+(i:Int))%256
theorem mA:(dC y a).length=a:=by simp [dC]
theorem Gy (h:b<a):(dC y a).getD b 0=(y+(b:Int))%256:=by simp [dC,List.getD,h]
def Mk (xs:List Int) (k:Int) (n j:Nat):List Int:=(dC k n).take j++xs.drop j
theorem ML:Mk n y a 0=n:=by simp [Mk]
theorem Pn (h:n.length=a):Mk n y a a=dC y a:=by have k:n.drop a=[]:=List.drop_of_length_le ab;have b:(dC y a).take a=dC y a:=List.take_of_length_le (by rw [mA];omega);rw [Mk,k,b,List.append_nil]
theorem Po (h:n.length=a) (k:b<=a):(Mk n y a b).length=a:=by simp [Mk,mA];omega
theorem Pq (h:n.length=a) (d:b<a):(Mk n y a b).set b ((y+(b:Int))%256)=Mk n y a (b+1):=by
 unfold Mk;have k:(dC y a).take (b+1)=(dC y a).take b++[(y+(b:Int))%256]:=by rw [List.take_succ_eq_append_getElem (by rw [mA];exact d)];simp [dC]
 have j:n.drop b=n[b]::n.drop (b+1):=List.drop_eq_getElem_cons ab;have c:((dC y a).take b).length=b:=by rw [List.length_take,mA];omega
 rw [k,j,List.set_append_right _ _ ab,c,Nat.sub_self,List.set_cons_zero,List.append_assoc];rfl
end Go.Proofs.YtfagphfjfhpmjaaGreatDoor
namespace Go.Proofs.YtfagphfjfhpmjaaGreatDoor
open Go.RowKit
set_option linter.unusedVariables false
variable {l:Nat} {x:List Int} {k:Int} (n:List Int) (p m:Int) (a:Nat)
def mst (x:Int):Int:=if (bits .and .u64 (bits .and .u64 x 924074/2048) 3==2)=true then bits .andNot .u64 (bits .and .u64 x 924074) 6144 else bits .and .u64 x 924074
def js (x:Int) (k:Nat):Int :=
 if (bits .and .u64 (bits .and .u64 (x/2^(8*k)) 159) 1==0)=true then bits .andNot .u64 (bits .and .u64 (x/2^(8*k)) 159) 2 else bits .and .u64 (x/2^(8*k)) 159
def cI (x:Int):Nat->Int
 | 0=>0
 | k+1=>bits .or .u64 (cI x k) (IntKind.u64.wrap (js x k*2^(8*k)))
def bn (p x:Int):Int :=
 if p=0 then mst x else if p=1 then bits .and .u64 x 46079 else if p=2 then bits .and .u64 x 546 else if p=3 then bits .and .u64 x 2730
 else if p=4\/p=10 then bits .andNot .u64 x 2 else if p=6\/p=12 then bits .andNot .u64 x 3 else if p=7\/p=13 then bits .and .u64 x 9223372036854775823
 else if p=16 then cI x 4 else if p=17\/p=18\/p=19\/p=20 then bits .and .u64 x 18014398509481983 else x
def fy (k:Nat) (x:Int):Bool :=
 if k=9 then (bits .and .u64 x 2730==x) else if k=15 then (x/1152921504606846976==0)||(x/1152921504606846976==8) else (bn k x==x)
def fs (l:List Int):Nat->Nat->Bool
 | 0,_=>true
 | n+1,k=>fy k (l.getD k 0)&&fs l n (k+1)
def br (n:Nat) (l:List Int):Bool:=decide (n=22)&&fs l 22 0
theorem CG (hk:a<22) (h:fy a (n.getD a 0)=true):fs n (22-a) a=fs n (22-(a+1)) (a+1):=by rw [show 22-a=(22-(a+1))+1 from ab,fs,h,Bool.true_and]
theorem Gz (hk:a<22) (h:fy a (n.getD a 0)=false):fs n (22-a) a=false:=by rw [show 22-a=(22-(a+1))+1 from ab,fs,h,Bool.false_and]
def fu:List Int:=[768,770,771,772,773,832,833,834,835,836,261,320,321,322,323,384,928,944,945,946,947,2818]
def dQ (x:Int):Nat->Nat->Int
 | 0,_=>-1
 | n+1,k=>if (fu.getD k 0==x)=true then (k:Int) else dQ x n (k+1)
theorem Ah (hk:a<22) (h:(fu.getD a 0==p)=true):dQ p (22-a) a=(a:Int):=by rw [show 22-a=(22-(a+1))+1 from ab,dQ,if_pos h]
theorem xZ (hk:a<22) (h:(fu.getD a 0==p)=false):dQ p (22-a) a=dQ p (22-(a+1)) (a+1):=by rw [show 22-a=(22-(a+1))+1 from ab,dQ,if_neg (by rw [h];decide)]
def cG (x:Int):Int:=if x=256 then 0 else if x=260 then 3 else if x=324 then 9 else dQ x 22 0
theorem CH:∀ n k,k+n<=22->-1<=dQ p n k/\dQ p n k<22:=by
 intro n;induction n with
 | zero=>intro k _;simp [dQ]
 | succ n a =>
   intro k b;unfold dQ;split;·omega
   ·exact a (k+1) ab
theorem qU: -1<=cG p/\cG p<22:=by
 have:=CH p 22 0 ab;unfold cG;split;·omega
 ·split;·omega
  ·split;·omega
   ·exact this
def df (x:Int):Bool:=(x==3860)||(x==769)||decide (0<=cG x)
def bN (p:Int):Bool:=(p==0)||(p==1)||(p==3)
def jt (n:Nat) (l:List Int) (x p:Int):Bool:=br n l&&df x&&bN p&&decide ((wrap64 (x.tdiv 256)).tmod 4<=p)
def dj (l:List Int) (x:Int):Int :=
 if x=3860 then 0 else if x=769 then 9223372036856090881 else if x=256 then bits .and .u64 (l.getD 0 0) 786722
 else if x=260 then bits .and .u64 (l.getD 3 0) (l.getD 2 0) else if x=324 then bits .and .u64 (l.getD 9 0) (l.getD 2 0) else l.getD (cG x).toNat 0
def dK (l:List Int) (i:Nat):Int:=bits .and .u64 (l.getD 16 0/2^(8*i)) 255
def fw (l:List Int) (i:Nat):Bool:=(dK l i/128==1)||(decide (i<3)&&(dK l (i+1)/128==1)&&(bits .and .u64 (dK l (i+1)/8) 3==1))
def dR (l:List Int) (y:Int):Nat->Int
 | 0=>y
 | k+1=>if (dK l k/128==1)=true then bits .or .u64 (bits .andNot .u64 (dR l y k) (IntKind.u64.wrap (255*2^(8*k)))) (bits .and .u64 (l.getD 16 0) (IntKind.u64.wrap (255*2^(8*k)))) else dR l y k
def iQ (old m x:Int):Int:=bits .or .u64 (bits .andNot .u64 old m) (bits .and .u64 x m)
def fS (l:List Int) (p x:Int):List Int :=
 if p=9 then l.set 9 (iQ (l.getD 9 0) 546 x)
 else if p=15 then (if ((x/1152921504606846976==0)||(x/1152921504606846976==8))=true then l.set 15 x else l)
 else if p=16 then l.set 16 (dR l (bn 16 x) 4)
 else if p=17\/p=18\/p=19\/p=20 then (if fw l (p-17).toNat=true then l else l.set p.toNat (bn p x))
 else l.set p.toNat (bn p x)
def bM (l:List Int) (n x:Int):List Int :=
 if n=769\/n=3860 then l
 else if n=256 then l.set 0 (iQ (l.getD 0 0) 786722 x)
 else if n=260 then l.set 3 (bn 3 (iQ (l.getD 3 0) (l.getD 2 0) x))
 else if n=324 then l.set 9 (iQ (l.getD 9 0) (bits .and .u64 (l.getD 2 0) 2) x)
 else fS l (cG n) x
theorem Jc:(fS n p m).length=n.length:=by
 unfold fS;split;·simp
 ·split;·split<;>simp
  ·split;·simp
   ·split;·split<;>simp
    ·simp
theorem pA:(bM n p m).length=n.length:=by
 unfold bM;split;·rfl
 ·split;·simp
  ·split;·simp
   ·split;·simp
    ·exact Jc _ _ _
def CI (m:Nat) (l:List Int) (n p:Int):Bool:=jt m l n p&&!((wrap64 (n.tdiv 1024)).tmod 4==3)
def CJ (m:Nat) (l:List Int) (n p x:Int):List Int:=if CI m l n p=true then bM l n x else []
theorem CL {p:Int} (h:jt l x k p=true):l=22/\df k=true:=by simp only [jt,br,Bool.and_eq_true,decide_eq_true_eq] at h;exact ⟨h.1.1.1.1,h.1.1.2⟩
def be (n:Nat) (l:List Int) (p:Int):Bool:=br n l&&bN p
theorem gF (h:be l x k=true):l=22/\bN k=true:=by simp only [be,br,Bool.and_eq_true,decide_eq_true_eq] at h;exact ⟨h.1.1,h.2⟩
def aq (x:Int) (i:Nat):Int:=bits .and .u64 (x/2^i) 1
def gD (k:Int) (intr:Bool):Int:=match intr with | true=>bits .or .u64 k 9223372036854775808 | false=>k
def cJ (l:List Int) (p:Int) (k:Nat) (intr:Bool):Bool:=!(p==3)&&(aq (match intr with | true=>l.getD 2 0 | false=>l.getD 1 0) k==1)
def lS (s:Int) (a:Bool):Int:=match a with
 | true=>bits .or .u64 (bits .or .u64 (bits .andNot .u64 s 290) (IntKind.u64.wrap (aq s 1*32))) 256
 | false=>bits .or .u64 (bits .andNot .u64 s 290) (IntKind.u64.wrap (aq s 1*32))
def mB (s p:Int):Int:=bits .or .u64 (bits .or .u64 (bits .andNot .u64 s 6280) (IntKind.u64.wrap (aq s 3*128))) (IntKind.u64.wrap (p*2048))
def iM (l:List Int) (d:Bool) (p t pc v:Int):List Int:=match d with
 | true=>(((l.set 13 t).set 12 (bits .andNot .u64 pc 3)).set 14 v).set 0 (lS (l.getD 0 0) (p==1))
 | false=>(((l.set 7 t).set 6 (bits .andNot .u64 pc 3)).set 8 v).set 0 (mB (l.getD 0 0) p)
def nP (l:List Int) (d:Bool):Int:=match d with | true=>l.getD 10 0 | false=>l.getD 4 0
def dL (to k:Int) (jump:Bool):Int:=match jump with
 | true=>IntKind.u64.wrap (bits .andNot .u64 to 1+IntKind.u64.wrap (4*k))
 | false=>bits .andNot .u64 to 1
def rT (d:Bool):Int:=match d with | true=>1 | false=>3
def ya (o:Oper) (j:Nat):Bool:=o.after.any (λe=>Region.binds .any e&&e.on==j)
end Go.Proofs.YtfagphfjfhpmjaaGreatDoor
namespace Go.Proofs.YtfagphfjfhpmjaaGreatDoor
open Go.Conc Go.RowKit
def eG (P:Program) (ops:Array Oper) (Q:Exit->Act->World->Prop) (l:List Nat) (a:Act) (w:World):Prop :=
 ∀ (b:Frame) (k:List Item) (d:List Frame),∃ e c f,Q e c f/\Arrives P (lone (b.at a (.inRegion ops l::k)) d w) b k d e c f
section
variable {P : Program} {ops : Array Oper} {Q : Exit -> Act -> World -> Prop} {a : Act} {w w₁ : World} {i : Nat} {rest : List Nat} {o : Oper}
theorem tP {id:Nat} (h:eG P ops Q (List.range ops.size) a w):(Code.region id ops false).wp P Q a w :=
 λb k d=>let ⟨e,c,f,q,r⟩:=h b k d;⟨e,c,f,q,.of_steps (.one step_region) r⟩
theorem mC (h:Q .normal a w):eG P ops Q [] a w:=λ_ _ _=>⟨.normal,a,w,h,.one step_region_end⟩
theorem mD {d:Act} (hs:∀ (b:Frame) (k:List Item) (c:List Frame),step P (lone (b.at a (.inRegion ops (i::rest)::k)) c w)=.next (lone (b.at d (.inRegion ops rest::k)) c w₁))
 (h:eG P ops Q rest d w₁):eG P ops Q (i::rest) a w :=
 λb k c=>let ⟨e,d,f,q,r⟩:=h b k c;⟨e,d,f,q,.of_steps (.one (hs b k c)) r⟩
theorem fin (c:ops[i]?=some o) (b:Frame) (k:List Item) (v:Value):(b.at a (.inRegion ops (i::rest)::k)).finish v=b.at (a.put o.dst v) (.inRegion ops rest::k):=by rw [Frame.finish_at,c];rfl
theorem CM {v:Value} (c:ops[i]?=some o) (d:Region.wanted o (yielded ops a.tmps)=true) (hr:(execOp a.eval o).run P w=.ok (.value v) w₁) (h:eG P ops Q rest (a.put o.dst v) w₁):eG P ops Q (i::rest) a w:=by refine mD (λb k e=>step_lone_go ?_) h;rw [stepG_op c d,<- fin c];simp [stepG.apply,hr]
theorem GA (c:ops[i]?=some o) (d:Region.wanted o (yielded ops a.tmps)=true) (hr:(execOp a.eval o).run P w=.ok .skip w₁) (h:eG P ops Q rest (a.put o.dst undef) w₁):eG P ops Q (i::rest) a w:=by refine mD (λb k e=>step_lone_go ?_) h;rw [stepG_op c d,<- fin c];simp [stepG.apply,hr]
def Ps (P:Program) (ops:Array Oper) (Q:Exit->Act->World->Prop) (rest:List Nat) (a:Act) (o:Oper):Result Next->Prop
 | .ok (.value v) w'=>eG P ops Q rest (a.put o.dst v) w'
 | .ok .skip w'=>eG P ops Q rest (a.put o.dst undef) w'
 | _=>False
@[simp] theorem upon_value (v:Value) (w':World):Ps P ops Q rest a o (.ok (.value v) w')=eG P ops Q rest (a.put o.dst v) w':=rfl
@[simp] theorem upon_skip (w':World):Ps P ops Q rest a o (.ok .skip w')=eG P ops Q rest (a.put o.dst undef) w':=rfl
theorem jV (b:ops[i]?=some o) (d:Region.wanted o (yielded ops a.tmps)=true) (h:Ps P ops Q rest a o ((execOp a.eval o).run P w)):eG P ops Q (i::rest) a w:=by
 generalize c:(execOp a.eval o).run P w=r at h;match r,h with
 | .ok (.value v) w',h=>exact CM b d c h
 | .ok .skip w',h=>exact GA b d c h
theorem yb {cases:Array CommCase} {c:Bool} {shape:CommShape} (f:ops[i]?=some o) (g:Region.wanted o (yielded ops a.tmps)=true) (hr:(execOp a.eval o).run P w=.ok (.comm cases c shape) w₁) (b:Frame) (k:List Item) (cs:List Frame):∃ d,stepG P true (G (b.at a (.inRegion ops (i::rest)::k)) cs) w=.comm (G (b.at a (.inRegion ops (i::rest)::k)) cs) cases c shape w₁ d:=by have e:=stepG_op (P:=P) (b:=b) (k:=k) (cs:=cs) (w:=w) (rest:=rest) f g;rw [show G (b.at a (.inRegion ops (i::rest)::k)) cs={frame:=b.at a (.inRegion ops (i::rest)::k),callers:=cs,status:=.running,dying:=none} from rfl,e];simp [stepG.apply,hr,GStep.after]
variable {c cap s r : Nat} {buf : Array Value} {z v : Value} {tm closed : Bool}
theorem GB (e:ops[i]?=some o) (l:Region.wanted o (yielded ops a.tmps)=true) (hr:(execOp a.eval o).run P w=.ok (.comm #[scase c v z] true .send) w₁) (g:w₁.heap[c]?=some (.chan cap buf false s r tm)) (d:buf.size<cap) (h:eG P ops Q rest (a.put o.dst undef) (w₁.setChan c cap (buf.push v) false (s+1) r tm)):eG P ops Q (i::rest) a w:=by refine mD (λb k f=>?_) h;obtain ⟨m,j⟩:=yb (rest:=rest) e l hr b k f;rw [lone_eq_solo,lone_eq_solo,<- fin e];exact step_lone_send_room j g d
theorem vS (e:Bool) (f:ops[i]?=some o) (m:Region.wanted o (yielded ops a.tmps)=true) (hr:(execOp a.eval o).run P w=.ok (.comm #[rcase c z] true (.recv e)) w₁) (j:w₁.heap[c]?=some (.chan cap buf closed s r tm)) (d:0<buf.size) (h:eG P ops Q rest (a.put o.dst (got e (buf.getD 0 undef) true)) (w₁.setChan c cap (buf.extract 1 buf.size) closed s (r+1) tm)):eG P ops Q (i::rest) a w:=by refine mD (λb k g=>?_) h;obtain ⟨n,l⟩:=yb (rest:=rest) f m hr b k g;rw [lone_eq_solo,lone_eq_solo,<- fin f];exact step_lone_recv_buf e l j d
theorem tQ (d:Bool) (e:ops[i]?=some o) (l:Region.wanted o (yielded ops a.tmps)=true) (hr:(execOp a.eval o).run P w=.ok (.comm #[rcase c z] true (.recv d)) w₁) (g:w₁.heap[c]?=some (.chan cap #[] true s r tm)) (h:eG P ops Q rest (a.put o.dst (got d z false)) w₁):eG P ops Q (i::rest) a w:=by refine mD (λb k f=>?_) h;obtain ⟨m,j⟩:=yb (rest:=rest) e l hr b k f;rw [lone_eq_solo,lone_eq_solo,<- fin e];exact step_lone_recv_shut d j g
def mW (P:Program) (ops:Array Oper) (Q:Exit->Act->World->Prop) (a:Act) (w:World):Prop:=eG P ops Q (List.range ops.size) a w
structure Th (Q Q':Exit->Act->World->Prop):Type where
 out:∀ e a w,Q e a w->Q' e a w
theorem gV {id:Nat} (h:∀ b:Exit->Act->World->Prop,Th Q b->mW P ops b a w):(Code.region id ops false).wp P Q a w:=tP (h Q ⟨λ_ _ _ h=>h⟩)
end
def dg (w:World) (c cap:Nat) (buf:List Value) (closed:Bool):Prop:=∃ s r,w.heap[c]?=some (.chan cap buf.toArray closed s r false)
section
variable {w : World} {c cap : Nat} {buf : List Value} {closed : Bool}
theorem dg.lt (h:dg w c cap buf closed):c<w.heap.size:=by
 obtain ⟨s,r,h⟩:=h;rcases Nat.lt_or_ge c w.heap.size with a|a;·exact a
 ·simp [Array.getElem?_eq_none a] at h
theorem pB (e:c<w.heap.size) {a:Array Value} (b:Nat) (d:List Value) (cl':Bool) (s r:Nat) (f:a=d.toArray):dg (w.setChan c b a cl' s r false) c b d cl' :=
 ⟨s,r,by subst f;exact heap_setChan w c b _ cl' s r false e⟩
theorem pQ {w':World} (h:dg w c cap buf closed) (he:w'.heap[c]?=w.heap[c]?):dg w' c cap buf closed:=by obtain ⟨s,r,h⟩:=h;exact ⟨s,r,he.trans h⟩
theorem MN (h:dg w c cap buf closed) (x:Obj):dg (w.alloc x) c cap buf closed :=
 pQ h (by have:=h.lt;show (w.heap.push x)[c]?=_;rw [Array.getElem?_push_lt this,Array.getElem?_eq_getElem this])
theorem sY {j:Nat} (d:j≠c) (b:Nat) (a:Array Value) (cl:Bool) (s r:Nat) (tm:Bool):(w.setChan c b a cl s r tm).heap[j]?=w.heap[j]?:=by simp [World.setChan,Ne.symm d]
def yc (w:World) (c:Nat):Nat:=match w.heap[c]? with | some (.chan _ buf _ _ _ _)=>buf.size | _=>0
theorem dg.len (h:dg w c cap buf closed):yc w c=buf.length:=by obtain ⟨s,r,h⟩:=h;simp [yc,h]
structure lQ (c:Nat) (w w':World):Prop where
 size:w'.heap.size=w.heap.size
 else_:∀ j,j≠c->w'.heap[j]?=w.heap[j]?
 below:∀ (B:Nat) (a:World),B<=c->Below B a w->Below B a w'
theorem tR (b:Nat) (a:Array Value) (cl:Bool) (s r:Nat) (tm:Bool):lQ c w (w.setChan c b a cl s r tm):=
 ⟨size_setChan _ _ _ _ _ _ _ _,λ_ e=>sY e _ _ _ _ _ _,λ_ _ d h=>below_setChan h d _ _ _ _ _ _⟩
variable {P : Program} {ops : Array Oper} {Q : Exit -> Act -> World -> Prop} {a : Act} {i : Nat} {rest : List Nat} {o : Oper} {v z : Value}
theorem tT (g:ops[i]?=some o) (j:Region.wanted o (yielded ops a.tmps)=true) (hr:(execOp a.eval o).run P w=.ok (.comm #[scase c v z] true .send) w) (d:dg w c cap buf false) (b:buf.length<cap) (h:∀ f,dg f c cap (buf++[v]) false->lQ c w f->eG P ops Q rest (a.put o.dst undef) f):eG P ops Q (i::rest) a w:=by have e:=d.lt;obtain ⟨s,r,d⟩:=d;exact GB g j hr d i6 (h _ (pB e _ _ _ _ _ bc) (tR _ _ _ _ _ _))
theorem tU (e:Bool) (j:ops[i]?=some o) (k:Region.wanted o (yielded ops a.tmps)=true) (hr:(execOp a.eval o).run P w=.ok (.comm #[rcase c z] true (.recv e)) w) (b:dg w c cap (v::buf) closed) (h:∀ f,dg f c cap buf closed->lQ c w f->eG P ops Q rest (a.put o.dst (got e v true)) f):eG P ops Q (i::rest) a w:=by have d:=b.lt;obtain ⟨s,r,b⟩:=b;have g:=h _ (pB (a:=(v::buf).toArray.extract 1 (v::buf).toArray.size) d cap buf closed s (r+1) bc) (tR _ _ _ _ _ _);exact vS e j k hr b bc vw
theorem tV (d:Bool) (e:ops[i]?=some o) (f:Region.wanted o (yielded ops a.tmps)=true) (hr:(execOp a.eval o).run P w=.ok (.comm #[rcase c z] true (.recv d)) w) (b:dg w c cap [] true) (h:eG P ops Q rest (a.put o.dst (got d z false)) w):eG P ops Q (i::rest) a w:=by obtain ⟨s,r,b⟩:=b;exact tQ d e f hr b h
theorem ye (b:dg w c cap buf false):∃ f,(∀ a e,(Builtin.close_ a e #[.chan (some c)]).run P w=.ok (.tuple #[]) f)/\dg f c cap buf true/\lQ c w f:=by have d:=b.lt;obtain ⟨s,r,b⟩:=b;exact ⟨w.setChan c cap buf.toArray true s r false,λa e=>run_close_open a e b,pB d _ _ _ _ _ rfl,tR _ _ _ _ _ _⟩
end
end Go.Proofs.YtfagphfjfhpmjaaGreatDoor
namespace Go.Proofs.YtfagphfjfhpmjaaGreatDoor
open Go.RowKit
set_option linter.unusedVariables false
def dW:List Nat:=[11,3,7,9,1,5]
def gh (x:Int):List Nat->Int
 | []=>-1
 | n::r=>match (aq x n==1) with | true=>n | false=>gh x r
def cS (x:Int):Int:=gh x dW
def j9 (l:List Int):Int:=bits .and .u64 (l.getD 9 0) (l.getD 3 0)
def Ai (l:List Int) (p:Int):Bool:=(p != 3)||(aq (l.getD 0 0) 3==1)
def Aj (l:List Int) (p:Int):Bool:=(p==0)||((p==1)&&(aq (l.getD 0 0) 1==1))
def EN (l:List Int) (p:Int):Int:=match Aj l p with
 | true=>cS (bits .and .u64 (j9 l) (l.getD 2 0)) | false=>-1
def fJ (l:List Int) (p:Int):Int:=match (Ai l p&&decide (cS (bits .andNot .u64 (j9 l) (l.getD 2 0))>=0)) with
 | true=>cS (bits .andNot .u64 (j9 l) (l.getD 2 0)) | false=>EN l p
def tW (n:Nat) (l:List Int) (p:Int):Int:=match be n l p with | true=>fJ l p | false=>-1
theorem tX (x:Int):∀ r:List Nat,gh x r=-1\/∃ n ∈ r,gh x r=(n:Int)/\(aq x n==1)=true:=by
 intro r;induction r with
 | nil=>exact .inl rfl
 | cons n r b =>
   unfold gh;cases h:(aq x n==1) with
   | true=>exact .inr ⟨n,bc,rfl,h⟩
   | false =>
     rcases b with h|⟨m,a,h⟩;·exact .inl h
     ·exact .inr ⟨m,by simp [a],h⟩
end Go.Proofs.YtfagphfjfhpmjaaGreatDoor
