/- Own lemmas. -/
import Derived.Test.YtjifdmoehfbihaaGreatDoorAut
import Derived.WalkKit
import Derived.Conc.LoneCalls
namespace Go.Proofs.YtjifdmoehfbihaaGreatDoor
set_option linter.unusedVariables false
def be (n:Nat):Bool:=decide (4096<=n/\n<=65536/\n%4096=0)
theorem fL {n:Nat} (h:be n=true):4096<=n/\n<=65536:=by unfold be at h;have:=of_decide_eq_true h;omega
def ic (s:Int):Bool:=decide (s=1\/s=2\/s=4\/s=8)
def fQ (n:Nat) (addr size:Int):Bool:=be n&&ic size&&decide (2147483648<=addr/\addr-2147483648+size<=n)
theorem jB {n:Nat} {addr size:Int} (h:fQ n addr size=true):be n=true/\ic size=true/\2147483648<=addr/\addr-2147483648+size<=n/\1<=size/\size<=8/\4096<=n/\n<=65536:=by simp only [fQ,Bool.and_eq_true,decide_eq_true_eq] at h;obtain ⟨⟨a,b⟩,d,e⟩:=h;have f:size=1\/size=2\/size=4\/size=8:=of_decide_eq_true b;have c:=fL a;exact ⟨a,b,d,e,al,al,c.1,c.2⟩
def le (zs:List Int):Nat->Nat->Int
 | _,0=>0
 | f,m+1=>zs.getD f 0+256*le zs (f+1) m
theorem vF (zs:List Int) (hz:∀ i,0<=zs.getD i 0/\zs.getD i 0<=255):∀ m f,0<=le zs f m/\le zs f m<256^m:=by
 intro m;induction m with
 | zero=>intro f;simp [le]
 | succ m b =>intro f;have c:=b (f+1);have d:=hz f;have a:(256:Int)^(m+1)=256*256^m:=(by rw [Int.pow_succ,Int.mul_comm]);rw [le,a];omega
theorem mm (a b:Nat) (h:a<=b):(256:Int)^a<=256^b:=by obtain ⟨d,rfl⟩:=Nat.exists_eq_add_of_le h;rw [Int.pow_add];have c:(0:Int)<256^a:=Int.pow_pos al;have e:(0:Int)<256^d:=Int.pow_pos al;have f:(256:Int)^a*1<=256^a*256^d:=Int.mul_le_mul_of_nonneg_left al al;omega
theorem Nz (zs:List Int) (hz:∀ i,0<=zs.getD i 0/\zs.getD i 0<=255) (m f:Nat) (hm:m<=7):0<=le zs f m/\le zs f m<72057594037927936:=by
 have h:=vF zs hz m f;have b:=mm m 7 hm;have a:(256:Int)^7=72057594037927936:=a5
 omega
theorem sH (zs:List Int) (hz:∀ i,0<=zs.getD i 0/\zs.getD i 0<=255) (m f:Nat) (hm:m<=8):0<=le zs f m/\le zs f m<18446744073709551616:=by
 have h:=vF zs hz m f;have b:=mm m 8 hm;have a:(256:Int)^8=18446744073709551616:=a5
 omega
theorem Bf (zs:List Int):∀ d f m,le zs f (d+m)=le zs f d+256^d*le zs (f+d) m:=by
 intro d;induction d with
 | zero=>intro f m;simp [le]
 | succ d b =>intro f m;have a:(256:Int)^(d+1)=256*256^d:=(by rw [Int.pow_succ,Int.mul_comm]);have e:d+1+m=(d+m)+1:=al;rw [e,le,le,b (f+1) m,a,show f+1+d=f+(d+1) from al,Int.mul_add,Int.mul_assoc,Int.add_assoc]
theorem KY (zs:List Int) (f k:Nat):le zs f (k+1)=le zs f k+zs.getD (f+k) 0*256^k:=by rw [Bf zs k f 1];simp [le];rw [Int.mul_comm]
theorem NA (zs:List Int) (hz:∀ i,0<=zs.getD i 0/\zs.getD i 0<=255) (f d m:Nat):le zs f (d+m)/256^d=le zs (f+d) m:=by rw [Bf];have h:=vF zs hz d f;have a:(0:Int)<256^d:=Int.pow_pos al;rw [Int.add_mul_ediv_left _ _ al,Int.ediv_eq_zero_of_lt h.1 h.2,Int.zero_add]
theorem Hc (zs:List Int) (hz:∀ i,0<=zs.getD i 0/\zs.getD i 0<=255) (f d m:Nat):le zs f (d+m)%256^d=le zs f d:=by rw [Bf];have h:=vF zs hz d f;rw [Int.add_mul_emod_self_left,Int.emod_eq_of_lt h.1 h.2]
theorem sI (k:Nat):(2:Int)^(8*k)=256^k:=by rw [Int.pow_mul];rfl
theorem KZ (x y:Int) (k:Nat) (hk:k<8) (a:0<=x) (e:x<256^k) (b:0<=y) (f:y<=255):bits .or .u64 x (y*256^k)=x+y*256^k:=by
 have l:(0:Int)<256^k:=Int.pow_pos al;have g:(256:Int)^k<=256^7:=by
  have:k=0\/k=1\/k=2\/k=3\/k=4\/k=5\/k=6\/k=7:=al
  rcases this with rfl|rfl|rfl|rfl|rfl|rfl|rfl|rfl<;>decide
 have d:(256:Int)^7=72057594037927936:=a5
 rw [d] at g;have i:0<=y*256^k:=Int.mul_nonneg b al;have j:y*256^k<=255*72057594037927936:=Int.le_trans (Int.mul_le_mul_of_nonneg_right f al) al;rw [u64_or x (y*256^k) a al i al];have h:x.toNat ||| (y*256^k).toNat=(y*256^k).toNat+x.toNat:=by
  rw [Nat.or_comm];refine nat_join (8*k) _ _ ?_ ?_
  ·have:(y*256^k).toNat=y.toNat*2^(8*k):=by
    obtain ⟨c,rfl⟩:=Int.eq_ofNat_of_zero_le b;rw [<- sI k];have:((c:Int)*2^(8*k))=((c*2^(8*k):Nat):Int):=bc
    rw [this,Int.toNat_natCast,Int.toNat_natCast]
   rw [this];exact Nat.mul_mod_left _ _
  ·have:(x.toNat:Int)<((2^(8*k):Nat):Int):=by rw [Int.toNat_of_nonneg a,Int.natCast_pow];show x<2^(8*k);rw [sI];exact e
   omega
 rw [h];omega
theorem K1 (y:Int) (k:Nat) (hk:k<8) (a:0<=y) (b:y<=255):IntKind.u64.wrap (y*2^(8*k))=y*256^k:=by
 rw [sI,IntKind.wrap_u64];have g:=mm k 7 al;have f:(0:Int)<256^k:=Int.pow_pos al;have e:(256:Int)^7=72057594037927936:=a5
 have c:0<=y*256^k:=Int.mul_nonneg a al;have d:y*256^k<=255*256^k:=Int.mul_le_mul_of_nonneg_right b al;exact Int.emod_eq_of_lt c al
theorem ET (bs:List Int) (hz:∀ i,0<=bs.getD i 0/\bs.getD i 0<=255) (f k:Nat) (hk:k<8):bits .or .u64 (le bs f k) (IntKind.u64.wrap (bs.getD (f+k) 0*2^(8*k)))=le bs f (k+1):=by have h:=vF bs hz k f;have a:=hz (f+k);rw [K1 _ _ hk a.1 a.2,KZ _ _ _ hk h.1 h.2 a.1 a.2,KY]
theorem vG (x:Int) (m:Nat) (c:1<=m) (hm:m<=8) (b:0<=x):IntKind.u64.wrap (x*2^(64-8*m))/2^(64-8*m)=x%256^m:=by
 rw [IntKind.wrap_u64,<- sI];have a:(0:Int)<2^(64-8*m):=Int.pow_pos al;have e:(18446744073709551616:Int)=2^(64-8*m)*2^(8*m):=by rw [<- Int.pow_add,show (64-8*m)+8*m=64 from al];rfl
 rw [e,Int.mul_comm x,Int.mul_emod_mul_of_pos _ _ a,Int.mul_ediv_cancel_left _ al]
theorem NB (x y:Int) (c:0<=x) (d:x<72057594037927936) (a:0<=y) (e:y<=255):bits .or .u64 (x*256) y=y+256*x:=by
 rw [u64_or (x*256) y al al a al];have b:(x*256).toNat ||| y.toNat=(x*256).toNat+y.toNat:=nat_join 8 _ _ al al
 rw [b];omega
def jZ (zs:List Int) (f:Nat) (x:Int):Nat->List Int
 | 0=>zs
 | k+1=>(jZ zs f x k).set (f+k) (x/256^k%256)
theorem ju (zs:List Int) (f:Nat) (x:Int):∀ k,(jZ zs f x k).length=zs.length:=by
 intro k;induction k with
 | zero=>rfl
 | succ k a=>simp [jZ,a]
theorem NC (zs:List Int) (hz:∀ y ∈ zs,0<=y/\y<=255) (f:Nat) (x:Int):∀ k,∀ y ∈ jZ zs f x k,0<=y/\y<=255:=by
 intro k;induction k with
 | zero=>exact hz
 | succ k b =>
   intro y a;rcases List.mem_or_eq_of_mem_set a with h|h;·exact b y h
   ·subst h;omega
def jL (zs:List Int) (n:Nat) (addr size x:Int):List Int:=if fQ n addr size then jZ zs (addr-2147483648).toNat x size.toNat else []
theorem Bg (zs:List Int) (n:Nat) (addr size x:Int) (hz:zs.length=n) (hn:n<=1048576):(jL zs n addr size x).length<=1048576:=by
 unfold jL;split;·rw [ju];omega
 ·simp
def du (k:Int) (n:Nat):List Int:=(List.range n).map λ(i:Nat)=>(k+(i:Int))%256
theorem lG (k:Int) (n:Nat):(du k n).length=n:=by simp [du]
theorem EU (k:Int) (n i:Nat) (h:i<n):(du k n).getD i 0=(k+(i:Int))%256:=by simp [du,List.getD,h]
def Mk (xs:List Int) (k:Int) (n j:Nat):List Int:=(du k n).take j++xs.drop j
theorem K3 (xs:List Int) (k:Int) (n:Nat):Mk xs k n 0=xs:=by simp [Mk]
theorem ND (xs:List Int) (k:Int) (n:Nat) (h:xs.length=n):Mk xs k n n=du k n:=by have a:xs.drop n=[]:=List.drop_of_length_le al;have b:(du k n).take n=du k n:=List.take_of_length_le (by rw [lG];omega);rw [Mk,a,b,List.append_nil]
theorem NE (xs:List Int) (k:Int) (n j:Nat) (h:xs.length=n) (a:j<=n):(Mk xs k n j).length=n:=by simp [Mk,lG];omega
theorem NF (xs:List Int) (k:Int) (n j:Nat) (h:xs.length=n) (d:j<n):(Mk xs k n j).set j ((k+(j:Int))%256)=Mk xs k n (j+1):=by
 unfold Mk;have a:(du k n).take (j+1)=(du k n).take j++[(k+(j:Int))%256]:=by rw [List.take_succ_eq_append_getElem (by rw [lG];exact d)];simp [du]
 have b:xs.drop j=xs[j]::xs.drop (j+1):=List.drop_eq_getElem_cons al;have c:((du k n).take j).length=j:=by rw [List.length_take,lG];omega
 rw [a,b,List.set_append_right _ _ al,c,Nat.sub_self,List.set_cons_zero,List.append_assoc];rfl
end Go.Proofs.YtjifdmoehfbihaaGreatDoor
namespace Go.Proofs.YtjifdmoehfbihaaGreatDoor
open Go.RowKit
set_option linter.unusedVariables false
def mst (x:Int):Int:=if (bits .and .u64 (bits .and .u64 x 924074/2048) 3==2)=true then bits .andNot .u64 (bits .and .u64 x 924074) 6144 else bits .and .u64 x 924074
def iO (x:Int) (k:Nat):Int :=
 if (bits .and .u64 (bits .and .u64 (x/2^(8*k)) 159) 1==0)=true then bits .andNot .u64 (bits .and .u64 (x/2^(8*k)) 159) 2 else bits .and .u64 (x/2^(8*k)) 159
def cJ (x:Int):Nat->Int
 | 0=>0
 | k+1=>bits .or .u64 (cJ x k) (IntKind.u64.wrap (iO x k*2^(8*k)))
def aX (p x:Int):Int :=
 if p=0 then mst x else if p=1 then bits .and .u64 x 46079 else if p=2 then bits .and .u64 x 546 else if p=3 then bits .and .u64 x 2730
 else if p=4\/p=10 then bits .andNot .u64 x 2 else if p=6\/p=12 then bits .andNot .u64 x 3 else if p=7\/p=13 then bits .and .u64 x 9223372036854775823
 else if p=16 then cJ x 4 else if p=17\/p=18\/p=19\/p=20 then bits .and .u64 x 18014398509481983 else x
def eZ (k:Nat) (x:Int):Bool :=
 if k=9 then (bits .and .u64 x 2730==x) else if k=15 then (x/1152921504606846976==0)||(x/1152921504606846976==8) else (aX k x==x)
def eO (l:List Int):Nat->Nat->Bool
 | 0,_=>true
 | n+1,k=>eZ k (l.getD k 0)&&eO l n (k+1)
def bf (n:Nat) (l:List Int):Bool:=decide (n=22)&&eO l 22 0
theorem Bh (l:List Int) (k:Nat) (hk:k<22) (h:eZ k (l.getD k 0)=true):eO l (22-k) k=eO l (22-(k+1)) (k+1):=by rw [show 22-k=(22-(k+1))+1 from al,eO,h,Bool.true_and]
theorem EV (l:List Int) (k:Nat) (hk:k<22) (h:eZ k (l.getD k 0)=false):eO l (22-k) k=false:=by rw [show 22-k=(22-(k+1))+1 from al,eO,h,Bool.false_and]
def eQ:List Int:=[768,770,771,772,773,832,833,834,835,836,261,320,321,322,323,384,928,944,945,946,947,2818]
def dM (x:Int):Nat->Nat->Int
 | 0,_=>-1
 | n+1,k=>if (eQ.getD k 0==x)=true then (k:Int) else dM x n (k+1)
theorem yM (x:Int) (k:Nat) (hk:k<22) (h:(eQ.getD k 0==x)=true):dM x (22-k) k=(k:Int):=by rw [show 22-k=(22-(k+1))+1 from al,dM,if_pos h]
theorem xb (x:Int) (k:Nat) (hk:k<22) (h:(eQ.getD k 0==x)=false):dM x (22-k) k=dM x (22-(k+1)) (k+1):=by rw [show 22-k=(22-(k+1))+1 from al,dM,if_neg (by rw [h];decide)]
def cE (x:Int):Int:=if x=256 then 0 else if x=260 then 3 else if x=324 then 9 else dM x 22 0
theorem Bi (x:Int):∀ n k,k+n<=22->-1<=dM x n k/\dM x n k<22:=by
 intro n;induction n with
 | zero=>intro k _;simp [dM]
 | succ n a =>
   intro k b;unfold dM;split;·omega
   ·exact a (k+1) al
theorem qd (x:Int):-1<=cE x/\cE x<22:=by
 have:=Bi x 22 0 al;unfold cE;split;·omega
 ·split;·omega
  ·split;·omega
   ·exact this
def cS (x:Int):Bool:=(x==3860)||(x==769)||decide (0<=cE x)
def bI (p:Int):Bool:=(p==0)||(p==1)||(p==3)
def iP (n:Nat) (l:List Int) (x p:Int):Bool:=bf n l&&cS x&&bI p&&decide ((wrap64 (x.tdiv 256)).tmod 4<=p)
def cZ (l:List Int) (x:Int):Int :=
 if x=3860 then 0 else if x=769 then 9223372036856090881 else if x=256 then bits .and .u64 (l.getD 0 0) 786722
 else if x=260 then bits .and .u64 (l.getD 3 0) (l.getD 2 0) else if x=324 then bits .and .u64 (l.getD 9 0) (l.getD 2 0) else l.getD (cE x).toNat 0
def de (l:List Int) (i:Nat):Int:=bits .and .u64 (l.getD 16 0/2^(8*i)) 255
def eR (l:List Int) (i:Nat):Bool:=(de l i/128==1)||(decide (i<3)&&(de l (i+1)/128==1)&&(bits .and .u64 (de l (i+1)/8) 3==1))
def dN (l:List Int) (y:Int):Nat->Int
 | 0=>y
 | k+1=>if (de l k/128==1)=true then bits .or .u64 (bits .andNot .u64 (dN l y k) (IntKind.u64.wrap (255*2^(8*k)))) (bits .and .u64 (l.getD 16 0) (IntKind.u64.wrap (255*2^(8*k)))) else dN l y k
def ig (old m x:Int):Int:=bits .or .u64 (bits .andNot .u64 old m) (bits .and .u64 x m)
def fx (l:List Int) (p x:Int):List Int :=
 if p=9 then l.set 9 (ig (l.getD 9 0) 546 x)
 else if p=15 then (if ((x/1152921504606846976==0)||(x/1152921504606846976==8))=true then l.set 15 x else l)
 else if p=16 then l.set 16 (dN l (aX 16 x) 4)
 else if p=17\/p=18\/p=19\/p=20 then (if eR l (p-17).toNat=true then l else l.set p.toNat (aX p x))
 else l.set p.toNat (aX p x)
def bJ (l:List Int) (n x:Int):List Int :=
 if n=769\/n=3860 then l
 else if n=256 then l.set 0 (ig (l.getD 0 0) 786722 x)
 else if n=260 then l.set 3 (aX 3 (ig (l.getD 3 0) (l.getD 2 0) x))
 else if n=324 then l.set 9 (ig (l.getD 9 0) (bits .and .u64 (l.getD 2 0) 2) x)
 else fx l (cE n) x
theorem Hd (l:List Int) (p x:Int):(fx l p x).length=l.length:=by
 unfold fx;split;·simp
 ·split;·split<;>simp
  ·split;·simp
   ·split;·split<;>simp
    ·simp
theorem oG (l:List Int) (n x:Int):(bJ l n x).length=l.length:=by
 unfold bJ;split;·rfl
 ·split;·simp
  ·split;·simp
   ·split;·simp
    ·exact Hd _ _ _
def Bj (m:Nat) (l:List Int) (n p:Int):Bool:=iP m l n p&&!((wrap64 (n.tdiv 1024)).tmod 4==3)
def Bk (m:Nat) (l:List Int) (n p x:Int):List Int:=if Bj m l n p=true then bJ l n x else []
theorem Bl {m:Nat} {l:List Int} {n p:Int} (h:iP m l n p=true):m=22/\cS n=true:=by simp only [iP,bf,Bool.and_eq_true,decide_eq_true_eq] at h;exact ⟨h.1.1.1.1,h.1.1.2⟩
def aQ (n:Nat) (l:List Int) (p:Int):Bool:=bf n l&&bI p
theorem fU {n:Nat} {l:List Int} {p:Int} (h:aQ n l p=true):n=22/\bI p=true:=by simp only [aQ,bf,Bool.and_eq_true,decide_eq_true_eq] at h;exact ⟨h.1.1,h.2⟩
def ap (x:Int) (i:Nat):Int:=bits .and .u64 (x/2^i) 1
def fS (k:Int) (intr:Bool):Int:=match intr with | true=>bits .or .u64 k 9223372036854775808 | false=>k
def cK (l:List Int) (p:Int) (k:Nat) (intr:Bool):Bool:=!(p==3)&&(ap (match intr with | true=>l.getD 2 0 | false=>l.getD 1 0) k==1)
def kQ (s:Int) (a:Bool):Int:=match a with
 | true=>bits .or .u64 (bits .or .u64 (bits .andNot .u64 s 290) (IntKind.u64.wrap (ap s 1*32))) 256
 | false=>bits .or .u64 (bits .andNot .u64 s 290) (IntKind.u64.wrap (ap s 1*32))
def lH (s p:Int):Int:=bits .or .u64 (bits .or .u64 (bits .andNot .u64 s 6280) (IntKind.u64.wrap (ap s 3*128))) (IntKind.u64.wrap (p*2048))
def gZ (l:List Int) (d:Bool) (p t pc v:Int):List Int:=match d with
 | true=>(((l.set 13 t).set 12 (bits .andNot .u64 pc 3)).set 14 v).set 0 (kQ (l.getD 0 0) (p==1))
 | false=>(((l.set 7 t).set 6 (bits .andNot .u64 pc 3)).set 8 v).set 0 (lH (l.getD 0 0) p)
def mZ (l:List Int) (d:Bool):Int:=match d with | true=>l.getD 10 0 | false=>l.getD 4 0
def dG (to k:Int) (jump:Bool):Int:=match jump with
 | true=>IntKind.u64.wrap (bits .andNot .u64 to 1+IntKind.u64.wrap (4*k))
 | false=>bits .andNot .u64 to 1
def qV (d:Bool):Int:=match d with | true=>1 | false=>3
section
variable {P : Program} {md : Region.Mode} {ops : Array Oper} {Q : Exit -> Act -> World -> Prop}
def xc (o:Oper) (j:Nat):Bool:=o.after.any (λe=>Region.binds .any e&&e.on==j)
end
end Go.Proofs.YtjifdmoehfbihaaGreatDoor
namespace Go.Proofs.YtjifdmoehfbihaaGreatDoor
open Go.Conc Go.RowKit
def dY (P:Program) (ops:Array Oper) (Q:Exit->Act->World->Prop) (l:List Nat) (a:Act) (w:World):Prop :=
 ∀ (b:Frame) (k:List Item) (d:List Frame),∃ e c f,Q e c f/\Arrives P (lone (b.at a (.inRegion ops l::k)) d w) b k d e c f
section
variable {P : Program} {ops : Array Oper} {Q : Exit -> Act -> World -> Prop} {a : Act} {w w₁ : World} {i : Nat} {rest : List Nat} {o : Oper}
theorem sJ {id:Nat} (h:dY P ops Q (List.range ops.size) a w):(Code.region id ops false).wp P Q a w :=
 λb k d=>let ⟨e,c,f,q,r⟩:=h b k d;⟨e,c,f,q,.of_steps (.one step_region) r⟩
theorem lI (h:Q .normal a w):dY P ops Q [] a w:=λ_ _ _=>⟨.normal,a,w,h,.one step_region_end⟩
theorem lJ {d:Act} (hs:∀ (b:Frame) (k:List Item) (c:List Frame),step P (lone (b.at a (.inRegion ops (i::rest)::k)) c w)=.next (lone (b.at d (.inRegion ops rest::k)) c w₁))
 (h:dY P ops Q rest d w₁):dY P ops Q (i::rest) a w :=
 λb k c=>let ⟨e,d,f,q,r⟩:=h b k c;⟨e,d,f,q,.of_steps (.one (hs b k c)) r⟩
theorem fin (c:ops[i]?=some o) (b:Frame) (k:List Item) (v:Value):(b.at a (.inRegion ops (i::rest)::k)).finish v=b.at (a.put o.dst v) (.inRegion ops rest::k):=by rw [Frame.finish_at,c];rfl
theorem Bm {v:Value} (c:ops[i]?=some o) (d:Region.wanted o (yielded ops a.tmps)=true) (hr:(execOp a.eval o).run P w=.ok (.value v) w₁) (h:dY P ops Q rest (a.put o.dst v) w₁):dY P ops Q (i::rest) a w:=by refine lJ (λb k e=>step_lone_go ?_) h;rw [stepG_op c d,<- fin c];simp [stepG.apply,hr]
theorem EW (c:ops[i]?=some o) (d:Region.wanted o (yielded ops a.tmps)=true) (hr:(execOp a.eval o).run P w=.ok .skip w₁) (h:dY P ops Q rest (a.put o.dst undef) w₁):dY P ops Q (i::rest) a w:=by refine lJ (λb k e=>step_lone_go ?_) h;rw [stepG_op c d,<- fin c];simp [stepG.apply,hr]
def NG (P:Program) (ops:Array Oper) (Q:Exit->Act->World->Prop) (rest:List Nat) (a:Act) (o:Oper):Result Next->Prop
 | .ok (.value v) w'=>dY P ops Q rest (a.put o.dst v) w'
 | .ok .skip w'=>dY P ops Q rest (a.put o.dst undef) w'
 | _=>False
@[simp] theorem upon_value (v:Value) (w':World):NG P ops Q rest a o (.ok (.value v) w')=dY P ops Q rest (a.put o.dst v) w':=rfl
@[simp] theorem upon_skip (w':World):NG P ops Q rest a o (.ok .skip w')=dY P ops Q rest (a.put o.dst undef) w':=rfl
theorem jv (b:ops[i]?=some o) (d:Region.wanted o (yielded ops a.tmps)=true) (h:NG P ops Q rest a o ((execOp a.eval o).run P w)):dY P ops Q (i::rest) a w:=by
 generalize c:(execOp a.eval o).run P w=r at h;match r,h with
 | .ok (.value v) w',h=>exact Bm b d c h
 | .ok .skip w',h=>exact EW b d c h
theorem xd {cases:Array CommCase} {c:Bool} {shape:CommShape} (f:ops[i]?=some o) (g:Region.wanted o (yielded ops a.tmps)=true) (hr:(execOp a.eval o).run P w=.ok (.comm cases c shape) w₁) (b:Frame) (k:List Item) (cs:List Frame):∃ d,stepG P true (G (b.at a (.inRegion ops (i::rest)::k)) cs) w=.comm (G (b.at a (.inRegion ops (i::rest)::k)) cs) cases c shape w₁ d:=by have e:=stepG_op (P:=P) (b:=b) (k:=k) (cs:=cs) (w:=w) (rest:=rest) f g;rw [show G (b.at a (.inRegion ops (i::rest)::k)) cs={frame:=b.at a (.inRegion ops (i::rest)::k),callers:=cs,status:=.running,dying:=none} from rfl,e];simp [stepG.apply,hr,GStep.after]
variable {c cap s r : Nat} {buf : Array Value} {z v : Value} {tm closed : Bool}
theorem EX (e:ops[i]?=some o) (l:Region.wanted o (yielded ops a.tmps)=true) (hr:(execOp a.eval o).run P w=.ok (.comm #[scase c v z] true .send) w₁) (g:w₁.heap[c]?=some (.chan cap buf false s r tm)) (d:buf.size<cap) (h:dY P ops Q rest (a.put o.dst undef) (w₁.setChan c cap (buf.push v) false (s+1) r tm)):dY P ops Q (i::rest) a w:=by refine lJ (λb k f=>?_) h;obtain ⟨m,j⟩:=xd (rest:=rest) e l hr b k f;rw [lone_eq_solo,lone_eq_solo,<- fin e];exact step_lone_send_room j g d
theorem uQ (e:Bool) (f:ops[i]?=some o) (m:Region.wanted o (yielded ops a.tmps)=true) (hr:(execOp a.eval o).run P w=.ok (.comm #[rcase c z] true (.recv e)) w₁) (j:w₁.heap[c]?=some (.chan cap buf closed s r tm)) (d:0<buf.size) (h:dY P ops Q rest (a.put o.dst (got e (buf.getD 0 undef) true)) (w₁.setChan c cap (buf.extract 1 buf.size) closed s (r+1) tm)):dY P ops Q (i::rest) a w:=by refine lJ (λb k g=>?_) h;obtain ⟨n,l⟩:=xd (rest:=rest) f m hr b k g;rw [lone_eq_solo,lone_eq_solo,<- fin f];exact step_lone_recv_buf e l j d
theorem sK (d:Bool) (e:ops[i]?=some o) (l:Region.wanted o (yielded ops a.tmps)=true) (hr:(execOp a.eval o).run P w=.ok (.comm #[rcase c z] true (.recv d)) w₁) (g:w₁.heap[c]?=some (.chan cap #[] true s r tm)) (h:dY P ops Q rest (a.put o.dst (got d z false)) w₁):dY P ops Q (i::rest) a w:=by refine lJ (λb k f=>?_) h;obtain ⟨m,j⟩:=xd (rest:=rest) e l hr b k f;rw [lone_eq_solo,lone_eq_solo,<- fin e];exact step_lone_recv_shut d j g
def mn (P:Program) (ops:Array Oper) (Q:Exit->Act->World->Prop) (a:Act) (w:World):Prop:=dY P ops Q (List.range ops.size) a w
structure QS (Q Q':Exit->Act->World->Prop):Type where
 out:∀ e a w,Q e a w->Q' e a w
theorem gn {id:Nat} (h:∀ b:Exit->Act->World->Prop,QS Q b->mn P ops b a w):(Code.region id ops false).wp P Q a w:=sJ (h Q ⟨λ_ _ _ h=>h⟩)
end
def cT (w:World) (c cap:Nat) (buf:List Value) (closed:Bool):Prop:=∃ s r,w.heap[c]?=some (.chan cap buf.toArray closed s r false)
section
variable {w : World} {c cap : Nat} {buf : List Value} {closed : Bool}
theorem cT.lt (h:cT w c cap buf closed):c<w.heap.size:=by
 obtain ⟨s,r,h⟩:=h;rcases Nat.lt_or_ge c w.heap.size with a|a;·exact a
 ·simp [Array.getElem?_eq_none a] at h
theorem oH (e:c<w.heap.size) {a:Array Value} (b:Nat) (d:List Value) (cl':Bool) (s r:Nat) (f:a=d.toArray):cT (w.setChan c b a cl' s r false) c b d cl' :=
 ⟨s,r,by subst f;exact heap_setChan w c b _ cl' s r false e⟩
theorem oW {w':World} (h:cT w c cap buf closed) (he:w'.heap[c]?=w.heap[c]?):cT w' c cap buf closed:=by obtain ⟨s,r,h⟩:=h;exact ⟨s,r,he.trans h⟩
theorem K4 (h:cT w c cap buf closed) (x:Obj):cT (w.alloc x) c cap buf closed :=
 oW h (by have:=h.lt;show (w.heap.push x)[c]?=_;rw [Array.getElem?_push_lt this,Array.getElem?_eq_getElem this])
theorem rV {j:Nat} (d:j≠c) (b:Nat) (a:Array Value) (cl:Bool) (s r:Nat) (tm:Bool):(w.setChan c b a cl s r tm).heap[j]?=w.heap[j]?:=by simp [World.setChan,Ne.symm d]
def xe (w:World) (c:Nat):Nat:=match w.heap[c]? with | some (.chan _ buf _ _ _ _)=>buf.size | _=>0
theorem cT.len (h:cT w c cap buf closed):xe w c=buf.length:=by obtain ⟨s,r,h⟩:=h;simp [xe,h]
structure kP (c:Nat) (w w':World):Prop where
 size:w'.heap.size=w.heap.size
 else_:∀ j,j≠c->w'.heap[j]?=w.heap[j]?
 below:∀ (B:Nat) (a:World),B<=c->Below B a w->Below B a w'
theorem sL (b:Nat) (a:Array Value) (cl:Bool) (s r:Nat) (tm:Bool):kP c w (w.setChan c b a cl s r tm):=
 ⟨size_setChan _ _ _ _ _ _ _ _,λ_ e=>rV e _ _ _ _ _ _,λ_ _ d h=>below_setChan h d _ _ _ _ _ _⟩
variable {P : Program} {ops : Array Oper} {Q : Exit -> Act -> World -> Prop} {a : Act} {i : Nat} {rest : List Nat} {o : Oper} {v z : Value}
theorem sM (g:ops[i]?=some o) (j:Region.wanted o (yielded ops a.tmps)=true) (hr:(execOp a.eval o).run P w=.ok (.comm #[scase c v z] true .send) w) (d:cT w c cap buf false) (b:buf.length<cap) (h:∀ f,cT f c cap (buf++[v]) false->kP c w f->dY P ops Q rest (a.put o.dst undef) f):dY P ops Q (i::rest) a w:=by have e:=d.lt;obtain ⟨s,r,d⟩:=d;exact EX g j hr d i3 (h _ (oH e _ _ _ _ _ bc) (sL _ _ _ _ _ _))
theorem sN (e:Bool) (j:ops[i]?=some o) (k:Region.wanted o (yielded ops a.tmps)=true) (hr:(execOp a.eval o).run P w=.ok (.comm #[rcase c z] true (.recv e)) w) (b:cT w c cap (v::buf) closed) (h:∀ f,cT f c cap buf closed->kP c w f->dY P ops Q rest (a.put o.dst (got e v true)) f):dY P ops Q (i::rest) a w:=by have d:=b.lt;obtain ⟨s,r,b⟩:=b;have g:=h _ (oH (a:=(v::buf).toArray.extract 1 (v::buf).toArray.size) d cap buf closed s (r+1) bc) (sL _ _ _ _ _ _);exact uQ e j k hr b bc x9
theorem sO (d:Bool) (e:ops[i]?=some o) (f:Region.wanted o (yielded ops a.tmps)=true) (hr:(execOp a.eval o).run P w=.ok (.comm #[rcase c z] true (.recv d)) w) (b:cT w c cap [] true) (h:dY P ops Q rest (a.put o.dst (got d z false)) w):dY P ops Q (i::rest) a w:=by obtain ⟨s,r,b⟩:=b;exact sK d e f hr b h
theorem xf (b:cT w c cap buf false):∃ f,(∀ a e,(Builtin.close_ a e #[.chan (some c)]).run P w=.ok (.tuple #[]) f)/\cT f c cap buf true/\kP c w f:=by have d:=b.lt;obtain ⟨s,r,b⟩:=b;exact ⟨w.setChan c cap buf.toArray true s r false,λa e=>run_close_open a e b,oH d _ _ _ _ _ rfl,sL _ _ _ _ _ _⟩
end
end Go.Proofs.YtjifdmoehfbihaaGreatDoor
namespace Go.Proofs.YtjifdmoehfbihaaGreatDoor
open Go.RowKit
set_option linter.unusedVariables false
def dS:List Nat:=[11,3,7,9,1,5]
def fF (x:Int):List Nat->Int
 | []=>-1
 | n::r=>match (ap x n==1) with | true=>n | false=>fF x r
def cO (x:Int):Int:=fF x dS
def jC (l:List Int):Int:=bits .and .u64 (l.getD 9 0) (l.getD 3 0)
def yN (l:List Int) (p:Int):Bool:=(p != 3)||(ap (l.getD 0 0) 3==1)
def yO (l:List Int) (p:Int):Bool:=(p==0)||((p==1)&&(ap (l.getD 0 0) 1==1))
def DE (l:List Int) (p:Int):Int:=match yO l p with
 | true=>cO (bits .and .u64 (jC l) (l.getD 2 0)) | false=>-1
def fp (l:List Int) (p:Int):Int:=match (yN l p&&decide (cO (bits .andNot .u64 (jC l) (l.getD 2 0))>=0)) with
 | true=>cO (bits .andNot .u64 (jC l) (l.getD 2 0)) | false=>DE l p
def sP (n:Nat) (l:List Int) (p:Int):Int:=match aQ n l p with | true=>fp l p | false=>-1
theorem sQ (x:Int):∀ r:List Nat,fF x r=-1\/∃ n ∈ r,fF x r=(n:Int)/\(ap x n==1)=true:=by
 intro r;induction r with
 | nil=>exact .inl rfl
 | cons n r b =>
   unfold fF;cases h:(ap x n==1) with
   | true=>exact .inr ⟨n,bc,rfl,h⟩
   | false =>
     rcases b with h|⟨m,a,h⟩;·exact .inl h
     ·exact .inr ⟨m,by simp [a],h⟩
end Go.Proofs.YtjifdmoehfbihaaGreatDoor
