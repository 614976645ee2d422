/- Own lemmas. -/
import Derived.Test.YtlidafnochnddaaGreatDoorAut
import Derived.WalkKit
import Derived.Conc.LoneCalls
namespace Go.Proofs.YtlidafnochnddaaGreatDoor
open Bool renaming and_eq_true->L7
open Go renaming bits->A5,World->A6,execOp->F0,Value->F3,Program->G3,Frame->H1,Oper->H2,stepG_op->H3,Exit->H5,step_lone_go->H8
open Int renaming pow_pos->I4,mul_comm->I5,mul_le_mul_of_nonneg_right->K0,toNat_natCast->K1,emod_eq_of_lt->K4,mul_nonneg->L4,pow_succ->L5,pow_add->L6
open Region renaming wanted->A0
set_option linter.unusedVariables false
variable {k:Nat} (x n:Int) (f:List Int) (y a:Nat) (b:Int)
def bA (n:Nat):Bool:=decide (4096<=n/\n<=65536/\n%4096=0)
theorem gg (h:bA k):4096<=k/\k<=65536:=by unfold bA at h;have:=of_decide_eq_true h;omega
def jq (s:Int):Bool:=decide (s=1\/s=2\/s=4\/s=8)
def iP (n:Nat) (addr size:Int):Bool:=bA n&&jq size&&decide (2147483648<=addr/\addr-2147483648+size<=n)
theorem lF {addr size:Int} (h:iP k addr size): bA k/\jq size/\2147483648<=addr/\addr-2147483648+size<=k/\1<=size/\size<=8/\4096<=k/\k<=65536:=by simp only [iP,L7,JZ6] at h;obtain ⟨⟨a,b⟩,d,e⟩:=h;have f:size=1\/size=2\/size=4\/size=8:=of_decide_eq_true b;have c:=gg a;exact ⟨a,b,d,e,aa,aa,c.1,c.2⟩
def le (zs:List Int):Nat->Nat->Int
 | _,0=>0
 | f,m+1=>zs.getD f 0+256*le zs (f+1) m
theorem zI (hz:∀ i,0<=f.getD i 0/\f.getD i 0<=255):∀ m zs,0<=le f zs m/\le f zs m<256^m:=by
 intro m;induction m with
 | zero=>intro zs;simp [le]
 | succ m b =>intro zs;have c:=b (zs+1);have d:=hz zs;have a:(256:Int)^(m+1)=256*256^m:=(by rw [L5,I5]);rw [le,a];omega
theorem pB (h:y<=a):(256:Int)^y<=256^a:=by obtain ⟨d,rfl⟩:=Nat.exists_eq_add_of_le h;rw [L6];have c:(0:Int)<256^y:=I4 aa;have e:(0:Int)<256^d:=I4 aa;have f:(256:Int)^y*1<=256^y*256^d:=Int.mul_le_mul_of_nonneg_left aa aa;omega
theorem tA (hz:∀ i,0<=f.getD i 0/\f.getD i 0<=255) (m zs:Nat) (hm:m<=8):0<=le f zs m/\le f zs m<18446744073709551616:=by
 have h:=zI f hz m zs;have b:=pB m 8 hm;have a:(256:Int)^8=18446744073709551616:=ba
 omega
theorem Cd:∀ d zs m,le f zs (d+m)=le f zs d+256^d*le f (zs+d) m:=by
 intro d;induction d with
 | zero=>intro zs m;simp [le]
 | succ d b =>intro zs m;have a:(256:Int)^(d+1)=256*256^d:=(by rw [L5,I5]);have e:d+1+m=(d+m)+1:=aa;rw [e,le,le,b (zs+1) m,a,show zs+1+d=zs+(d+1) from aa,Int.mul_add,Int.mul_assoc,Int.add_assoc]
theorem LY:le f y (a+1)=le f y a+f.getD (y+a) 0*256^a:=by rw [Cd f a y 1];simp [le];rw [I5]
theorem OZ (hz:∀ i,0<=f.getD i 0/\f.getD i 0<=255) (zs d m:Nat):le f zs (d+m)/256^d=le f (zs+d) m:=by rw [Cd];have h:=zI f hz d zs;have a:(0:Int)<256^d:=I4 aa;rw [Int.add_mul_ediv_left _ _ aa,Int.ediv_eq_zero_of_lt h.1 h.2,Int.zero_add]
theorem Ic (hz:∀ i,0<=f.getD i 0/\f.getD i 0<=255) (zs d m:Nat):le f zs (d+m)%256^d=le f zs d:=by rw [Cd];have h:=zI f hz d zs;rw [Int.add_mul_emod_self_left,K4 h.1 h.2]
theorem tB:(2:Int)^(8*y)=256^y:=by rw [Int.pow_mul];rfl
theorem LZ (hk:y<8) (a:0<=x) (e:x<256^y) (b:0<=n) (f:n<=255): A5 .or .u64 x (n*256^y)=x+n*256^y:=by
 have l:(0:Int)<256^y:=I4 aa;have g:(256:Int)^y<=256^7:=by
  have:y=0\/y=1\/y=2\/y=3\/y=4\/y=5\/y=6\/y=7:=aa
  rcases this with rfl|rfl|rfl|rfl|rfl|rfl|rfl|rfl<;>decide
 have d:(256:Int)^7=72057594037927936:=ba
 rw [d] at g;have i:0<=n*256^y:=L4 b aa;have j:n*256^y<=255*72057594037927936:=Int.le_trans (K0 f aa) aa;rw [u64_or x (n*256^y) a aa i aa];have h:x.toNat ||| (n*256^y).toNat=(n*256^y).toNat+x.toNat:=by
  rw [Nat.or_comm];refine nat_join (8*y) _ _ ?_ ?_
  ·have:(n*256^y).toNat=n.toNat*2^(8*y):=by
    obtain ⟨c,rfl⟩:=Int.eq_ofNat_of_zero_le b;rw [<- tB y];have:((c:Int)*2^(8*y))=((c*2^(8*y):Nat):Int):=bh
    rw [this,K1,K1]
   rw [this];exact Nat.mul_mod_left _ _
  ·have:(x.toNat:Int)<((2^(8*y):Nat):Int):=by rw [Int.toNat_of_nonneg a,Int.natCast_pow];show x<2^(8*y);rw [tB];exact e
   omega
 rw [h];omega
theorem L0 (hk:y<8) (a:0<=x) (b:x<=255):IntKind.u64.wrap (x*2^(8*y))=x*256^y:=by
 rw [tB,IntKind.wrap_u64];have g:=pB y 7 aa;have f:(0:Int)<256^y:=I4 aa;have e:(256:Int)^7=72057594037927936:=ba
 have c:0<=x*256^y:=L4 a aa;have d:x*256^y<=255*256^y:=K0 b aa;exact K4 c aa
theorem FC (hz:∀ i,0<=f.getD i 0/\f.getD i 0<=255) (bs k:Nat) (hk:k<8): A5 .or .u64 (le f bs k) (IntKind.u64.wrap (f.getD (bs+k) 0*2^(8*k)))=le f bs (k+1):=by have h:=zI f hz k bs;have a:=hz (bs+k);rw [L0 _ _ hk a.1 a.2,LZ _ _ _ hk h.1 h.2 a.1 a.2,LY]
theorem wG (c:1<=y) (hm:y<=8) (b:0<=x):IntKind.u64.wrap (x*2^(64-8*y))/2^(64-8*y)=x%256^y:=by
 rw [IntKind.wrap_u64,<- tB];have a:(0:Int)<2^(64-8*y):=I4 aa;have e:(18446744073709551616:Int)=2^(64-8*y)*2^(8*y):=by rw [<- L6,show (64-8*y)+8*y=64 from aa];rfl
 rw [e,I5 x,Int.mul_emod_mul_of_pos _ _ a,Int.mul_ediv_cancel_left _ aa]
def iM (zs:List Int) (f:Nat) (x:Int):Nat->List Int
 | 0=>zs
 | k+1=>(iM zs f x k).set (f+k) (x/256^k%256)
theorem gQ:∀ k,(iM f y b k).length=f.length:=by
 intro k;induction k with
 | zero=>rfl
 | succ k a=>simp [iM,a]
theorem O0 (hz:∀ y ∈ f,0<=y/\y<=255) (zs:Nat) (x:Int):∀ k,∀ y ∈ iM f zs x k,0<=y/\y<=255:=by
 intro k;induction k with
 | zero=>exact hz
 | succ k b =>
   intro y a;rcases List.mem_or_eq_of_mem_set a with h|h;·exact b y h
   ·subst h;omega
def jG (zs:List Int) (n:Nat) (addr size x:Int):List Int:=if iP n addr size then iM zs (addr-2147483648).toNat x size.toNat else []
theorem Ce (size x:Int) (hz:f.length=y) (hn:y<=1048576):(jG f y b size x).length<=1048576:=by
 unfold jG;split;·rw [gQ];omega
 ·simp
def Tb (k:Int) (n:Nat):List Int:=(List.range n).map λ(i:Nat)=>(k+(i:Int))%256
open Go.RowKit
variable {l:Nat} {x:List Int} {n:Int} (p:List Int) (m a:Int)
def mst (x:Int):Int:=if (A5 .and .u64 (A5 .and .u64 x 924074/2048) 3==2)=true then A5 .andNot .u64 (A5 .and .u64 x 924074) 6144 else A5 .and .u64 x 924074
def j6 (x:Int) (k:Nat):Int :=
 if (A5 .and .u64 (A5 .and .u64 (x/2^(8*k)) 159) 1==0)=true then A5 .andNot .u64 (A5 .and .u64 (x/2^(8*k)) 159) 2 else A5 .and .u64 (x/2^(8*k)) 159
def dI (x:Int):Nat->Int
 | 0=>0
 | k+1=>A5 .or .u64 (dI x k) (IntKind.u64.wrap (j6 x k*2^(8*k)))
def ee (p x:Int):Int :=
 if p=0 then mst x else if p=1 then A5 .and .u64 x 46079 else if p=2 then A5 .and .u64 x 546 else if p=3 then A5 .and .u64 x 2730
 else if p=4\/p=10 then A5 .andNot .u64 x 2 else if p=6\/p=12 then A5 .andNot .u64 x 3 else if p=7\/p=13 then A5 .and .u64 x 9223372036854775823
 else if p=16 then dI x 4 else if p=17\/p=18\/p=19\/p=20 then A5 .and .u64 x 18014398509481983 else x
def fS (k:Nat) (x:Int):Bool :=
 if k=9 then (A5 .and .u64 x 2730==x) else if k=15 then (x/1152921504606846976==0)||(x/1152921504606846976==8) else (ee k x==x)
def mn (l:List Int):Nat->Nat->Bool
 | 0,_=>true
 | n+1,k=>fS k (l.getD k 0)&&mn l n (k+1)
def bp (n:Nat) (l:List Int):Bool:=decide (n=22)&&mn l 22 0
def oW:List Int:=[768,770,771,772,773,832,833,834,835,836,261,320,321,322,323,384,928,944,945,946,947,2818]
def kU (x:Int):Nat->Nat->Int
 | 0,_=>-1
 | n+1,k=>if (oW.getD k 0==x)=true then (k:Int) else kU x n (k+1)
def ku (x:Int):Int:=if x=256 then 0 else if x=260 then 3 else if x=324 then 9 else kU x 22 0
theorem Cf:∀ n k,k+n<=22->-1<=kU m n k/\kU m n k<22:=by
 intro n;induction n with
 | zero=>intro k _;simp [kU]
 | succ n a =>
   intro k b;unfold kU;split;·omega
   ·exact a (k+1) aa
theorem FD: -1<=ku m/\ku m<22:=by
 have:=Cf m 22 0 aa;unfold ku;split;·omega
 ·split;·omega
  ·split;·omega
   ·exact this
def fU (x:Int):Bool:=(x==3860)||(x==769)||decide (0<=ku x)
def di (p:Int):Bool:=(p==0)||(p==1)||(p==3)
def lG (n:Nat) (l:List Int) (x p:Int):Bool:=bp n l&&fU x&&di p&&decide ((wrap64 (x.tdiv 256)).tmod 4<=p)
def jU (l:List Int) (x:Int):Int :=
 if x=3860 then 0 else if x=769 then 9223372036856090881 else if x=256 then A5 .and .u64 (l.getD 0 0) 786722
 else if x=260 then A5 .and .u64 (l.getD 3 0) (l.getD 2 0) else if x=324 then A5 .and .u64 (l.getD 9 0) (l.getD 2 0) else l.getD (ku x).toNat 0
def jV (l:List Int) (i:Nat):Int:=A5 .and .u64 (l.getD 16 0/2^(8*i)) 255
def lH (l:List Int) (i:Nat):Bool:=(jV l i/128==1)||(decide (i<3)&&(jV l (i+1)/128==1)&&(A5 .and .u64 (jV l (i+1)/8) 3==1))
def gh (l:List Int) (y:Int):Nat->Int
 | 0=>y
 | k+1=>if (jV l k/128==1)=true then A5 .or .u64 (A5 .andNot .u64 (gh l y k) (IntKind.u64.wrap (255*2^(8*k)))) (A5 .and .u64 (l.getD 16 0) (IntKind.u64.wrap (255*2^(8*k)))) else gh l y k
def gD (old m x:Int):Int:=A5 .or .u64 (A5 .andNot .u64 old m) (A5 .and .u64 x m)
def sG (l:List Int) (p x:Int):List Int :=
 if p=9 then l.set 9 (gD (l.getD 9 0) 546 x)
 else if p=15 then (if ((x/1152921504606846976==0)||(x/1152921504606846976==8))=true then l.set 15 x else l)
 else if p=16 then l.set 16 (gh l (ee 16 x) 4)
 else if p=17\/p=18\/p=19\/p=20 then (if lH l (p-17).toNat=true then l else l.set p.toNat (ee p x))
 else l.set p.toNat (ee p x)
def eB (l:List Int) (n x:Int):List Int :=
 if n=769\/n=3860 then l
 else if n=256 then l.set 0 (gD (l.getD 0 0) 786722 x)
 else if n=260 then l.set 3 (ee 3 (gD (l.getD 3 0) (l.getD 2 0) x))
 else if n=324 then l.set 9 (gD (l.getD 9 0) (A5 .and .u64 (l.getD 2 0) 2) x)
 else sG l (ku n) x
theorem Ie:(sG p m a).length=p.length:=by
 unfold sG;split;·simp
 ·split;·split<;>simp
  ·split;·simp
   ·split;·split<;>simp
    ·simp
theorem tC:(eB p m a).length=p.length:=by
 unfold eB;split;·rfl
 ·split;·simp
  ·split;·simp
   ·split;·simp
    ·exact Ie _ _ _
def Cg (m:Nat) (l:List Int) (n p:Int):Bool:=lG m l n p&&!((wrap64 (n.tdiv 1024)).tmod 4==3)
def Ch (m:Nat) (l:List Int) (n p x:Int):List Int:=if Cg m l n p=true then eB l n x else []
theorem Ci {p:Int} (h:lG l x n p):l=22/\fU n:=by simp only [lG,bp,L7,JZ6] at h;exact ⟨h.1.1.1.1,h.1.1.2⟩
def aQ (n:Nat) (l:List Int) (p:Int):Bool:=bp n l&&di p
theorem fj (h:aQ l x n):l=22/\di n:=by simp only [aQ,bp,L7,JZ6] at h;exact ⟨h.1.1,h.2⟩
def bu (x:Int) (i:Nat):Int:=A5 .and .u64 (x/2^i) 1
def gE (k:Int) (a:Bool):Int:=match a with | true=>A5 .or .u64 k 9223372036854775808 | false=>k
def dj (l:List Int) (p:Int) (k:Nat) (a:Bool):Bool:=!(p==3)&&(bu (match a with | true=>l.getD 2 0 | false=>l.getD 1 0) k==1)
def lI (s:Int) (a:Bool):Int:=match a with
 | true=>A5 .or .u64 (A5 .or .u64 (A5 .andNot .u64 s 290) (IntKind.u64.wrap (bu s 1*32))) 256
 | false=>A5 .or .u64 (A5 .andNot .u64 s 290) (IntKind.u64.wrap (bu s 1*32))
def mW (s p:Int):Int:=A5 .or .u64 (A5 .or .u64 (A5 .andNot .u64 s 6280) (IntKind.u64.wrap (bu s 3*128))) (IntKind.u64.wrap (p*2048))
def iQ (l:List Int) (d:Bool) (p t pc v:Int):List Int:=match d with
 | true=>(((l.set 13 t).set 12 (A5 .andNot .u64 pc 3)).set 14 v).set 0 (lI (l.getD 0 0) (p==1))
 | false=>(((l.set 7 t).set 6 (A5 .andNot .u64 pc 3)).set 8 v).set 0 (mW (l.getD 0 0) p)
def pC (l:List Int) (d:Bool):Int:=match d with | true=>l.getD 10 0 | false=>l.getD 4 0
def ew (to k:Int) (jump:Bool):Int:=match jump with
 | true=>IntKind.u64.wrap (A5 .andNot .u64 to 1+IntKind.u64.wrap (4*k))
 | false=>A5 .andNot .u64 to 1
def tD (d:Bool):Int:=match d with | true=>1 | false=>3
def xJ (o:H2) (j:Nat):Bool:=o.after.any (λe=>Region.binds .any e&&e.on==j)
open Go.Conc Go.RowKit
def dJ (P:G3) (ops:Array H2) (Q:H5->Act->A6->Prop) (l:List Nat) (a:Act) (w:A6):Prop :=
 ∀ (b:H1) (k:List Item) (d:List H1),∃ e c f,Q e c f/\Arrives P (lone (b.at a (.inRegion ops l::k)) d w) b k d e c f
section
variable {P : G3} {ops : Array H2} {Q : H5 -> Act -> A6 -> Prop} {a : Act} {w w₁ : A6} {i : Nat} {rest : List Nat} {o : H2}
theorem tE {id:Nat} (h:dJ P ops Q (List.range ops.size) a w):(Code.region id ops false).wp P Q a w :=
 λb k d=>let ⟨e,c,f,q,r⟩:=h b k d;⟨e,c,f,q,.of_steps (.one step_region) r⟩
theorem lJ (h:Q .normal a w):dJ P ops Q [] a w:=λ_ _ _=>⟨.normal,a,w,h,.one step_region_end⟩
theorem lK {d:Act} (f:∀ (b:H1) (k:List Item) (c:List H1),step P (lone (b.at a (.inRegion ops (i::rest)::k)) c w)=.next (lone (b.at d (.inRegion ops rest::k)) c w₁))
 (h:dJ P ops Q rest d w₁):dJ P ops Q (i::rest) a w :=
 λb k c=>let ⟨e,d,g,q,r⟩:=h b k c;⟨e,d,g,q,.of_steps (.one (f b k c)) r⟩
theorem fin (c:ops[i]?=some o) (b:H1) (k:List Item) (v:F3):(b.at a (.inRegion ops (i::rest)::k)).finish v=b.at (a.put o.dst v) (.inRegion ops rest::k):=by rw [Frame.finish_at,c];rfl
theorem Cj {v:F3} (c:ops[i]?=some o) (e:A0 o (yielded ops a.tmps)) (d:(F0 a.eval o).run P w=.ok (.value v) w₁) (h:dJ P ops Q rest (a.put o.dst v) w₁):dJ P ops Q (i::rest) a w:=by refine lK (λb k f=>H8 ?_) h;rw [H3 c e,<- fin c];simp [stepG.apply,d]
theorem FF (c:ops[i]?=some o) (e:A0 o (yielded ops a.tmps)) (d:(F0 a.eval o).run P w=.ok .skip w₁) (h:dJ P ops Q rest (a.put o.dst undef) w₁):dJ P ops Q (i::rest) a w:=by refine lK (λb k f=>H8 ?_) h;rw [H3 c e,<- fin c];simp [stepG.apply,d]
def O1 (P:G3) (ops:Array H2) (Q:H5->Act->A6->Prop) (rest:List Nat) (a:Act) (o:H2):Result Next->Prop
 | .ok (.value v) w'=>dJ P ops Q rest (a.put o.dst v) w'
 | .ok .skip w'=>dJ P ops Q rest (a.put o.dst undef) w'
 | _=>False
@[simp] theorem upon_value (v:F3) (w':A6):O1 P ops Q rest a o (.ok (.value v) w')=dJ P ops Q rest (a.put o.dst v) w':=rfl
@[simp] theorem upon_skip (w':A6):O1 P ops Q rest a o (.ok .skip w')=dJ P ops Q rest (a.put o.dst undef) w':=rfl
theorem jf (b:ops[i]?=some o) (d:A0 o (yielded ops a.tmps)) (h:O1 P ops Q rest a o ((F0 a.eval o).run P w)):dJ P ops Q (i::rest) a w:=by
 generalize c:(F0 a.eval o).run P w=r at h;match r,h with
 | .ok (.value v) w',h=>exact Cj b d c h
 | .ok .skip w',h=>exact FF b d c h
theorem xK {cases:Array CommCase} {c:Bool} {shape:CommShape} (f:ops[i]?=some o) (h:A0 o (yielded ops a.tmps)) (g:(F0 a.eval o).run P w=.ok (.comm cases c shape) w₁) (b:H1) (k:List Item) (cs:List H1):∃ d,stepG P true (G (b.at a (.inRegion ops (i::rest)::k)) cs) w=.comm (G (b.at a (.inRegion ops (i::rest)::k)) cs) cases c shape w₁ d:=by have e:=H3 (P:=P) (b:=b) (k:=k) (cs:=cs) (w:=w) (rest:=rest) f h;rw [show G (b.at a (.inRegion ops (i::rest)::k)) cs={frame:=b.at a (.inRegion ops (i::rest)::k),callers:=cs,status:=.running,dying:=none} from rfl,e];simp [stepG.apply,g,GStep.after]
variable {c cap s r : Nat} {buf : Array F3} {z v : F3} {tm closed : Bool}
theorem FG (e:ops[i]?=some o) (m:A0 o (yielded ops a.tmps)) (l:(F0 a.eval o).run P w=.ok (.comm #[scase c v z] true .send) w₁) (g:w₁.heap[c]?=some (.chan cap buf false s r tm)) (d:buf.size<cap) (h:dJ P ops Q rest (a.put o.dst undef) (w₁.setChan c cap (buf.push v) false (s+1) r tm)):dJ P ops Q (i::rest) a w:=by refine lK (λb k f=>?_) h;obtain ⟨n,j⟩:=xK (rest:=rest) e m l b k f;rw [lone_eq_solo,lone_eq_solo,<- fin e];exact step_lone_send_room j g d
theorem vF (e:Bool) (f:ops[i]?=some o) (n:A0 o (yielded ops a.tmps)) (m:(F0 a.eval o).run P w=.ok (.comm #[rcase c z] true (.recv e)) w₁) (j:w₁.heap[c]?=some (.chan cap buf closed s r tm)) (d:0<buf.size) (h:dJ P ops Q rest (a.put o.dst (got e (buf.getD 0 undef) true)) (w₁.setChan c cap (buf.extract 1 buf.size) closed s (r+1) tm)):dJ P ops Q (i::rest) a w:=by refine lK (λb k g=>?_) h;obtain ⟨p,l⟩:=xK (rest:=rest) f n m b k g;rw [lone_eq_solo,lone_eq_solo,<- fin f];exact step_lone_recv_buf e l j d
theorem tF (d:Bool) (e:ops[i]?=some o) (m:A0 o (yielded ops a.tmps)) (l:(F0 a.eval o).run P w=.ok (.comm #[rcase c z] true (.recv d)) w₁) (g:w₁.heap[c]?=some (.chan cap #[] true s r tm)) (h:dJ P ops Q rest (a.put o.dst (got d z false)) w₁):dJ P ops Q (i::rest) a w:=by refine lK (λb k f=>?_) h;obtain ⟨n,j⟩:=xK (rest:=rest) e m l b k f;rw [lone_eq_solo,lone_eq_solo,<- fin e];exact step_lone_recv_shut d j g
def mo (P:G3) (ops:Array H2) (Q:H5->Act->A6->Prop) (a:Act) (w:A6):Prop:=dJ P ops Q (List.range ops.size) a w
structure Tn (Q Q':H5->Act->A6->Prop):Type where
 out:∀ e a w,Q e a w->Q' e a w
theorem fD {id:Nat} (h:∀ b:H5->Act->A6->Prop,Tn Q b->mo P ops b a w):(Code.region id ops false).wp P Q a w:=tE (h Q ⟨λ_ _ _ h=>h⟩)
end
def cn (w:A6) (c cap:Nat) (buf:List F3) (closed:Bool):Prop:=∃ s r,w.heap[c]?=some (.chan cap buf.toArray closed s r false)
section
variable {w : A6} {c cap : Nat} {buf : List F3} {closed : Bool}
theorem cn.lt (h:cn w c cap buf closed):c<w.heap.size:=by
 obtain ⟨s,r,h⟩:=h;rcases Nat.lt_or_ge c w.heap.size with a|a;·exact a
 ·simp [Array.getElem?_eq_none a] at h
theorem oX (bZ:c<w.heap.size) {a:Array F3} (b:Nat) (d:List F3) (cl':Bool) (s r:Nat) (e:a=d.toArray):cn (w.setChan c b a cl' s r false) c b d cl' :=
 ⟨s,r,by subst e;exact heap_setChan w c b _ cl' s r false bZ⟩
theorem pD {w':A6} (h:cn w c cap buf closed) (he:w'.heap[c]?=w.heap[c]?):cn w' c cap buf closed:=by obtain ⟨s,r,h⟩:=h;exact ⟨s,r,he.trans h⟩
theorem L8 (h:cn w c cap buf closed) (x:Obj):cn (w.alloc x) c cap buf closed :=
 pD h (by have:=h.lt;show (w.heap.push x)[c]?=_;rw [Array.getElem?_push_lt this,Array.getElem?_eq_getElem this])
theorem sH {j:Nat} (d:j≠c) (b:Nat) (a:Array F3) (cl:Bool) (s r:Nat) (tm:Bool):(w.setChan c b a cl s r tm).heap[j]?=w.heap[j]?:=by simp [World.setChan,Ne.symm d]
def xL (w:A6) (c:Nat):Nat:=match w.heap[c]? with | some (.chan _ buf _ _ _ _)=>buf.size | _=>0
theorem cn.len (h:cn w c cap buf closed):xL w c=buf.length:=by obtain ⟨s,r,h⟩:=h;simp [xL,h]
structure kS (c:Nat) (w w':A6):Prop where
 size:w'.heap.size=w.heap.size
 else_:∀ j,j≠c->w'.heap[j]?=w.heap[j]?
 below:∀ (B:Nat) (a:A6),B<=c->Below B a w->Below B a w'
theorem tG (b:Nat) (a:Array F3) (cl:Bool) (s r:Nat) (tm:Bool):kS c w (w.setChan c b a cl s r tm):=
 ⟨size_setChan _ _ _ _ _ _ _ _,λ_ e=>sH e _ _ _ _ _ _,λ_ _ d h=>below_setChan h d _ _ _ _ _ _⟩
variable {P : G3} {ops : Array H2} {Q : H5 -> Act -> A6 -> Prop} {a : Act} {i : Nat} {rest : List Nat} {o : H2} {v z : F3}
theorem tH (f:ops[i]?=some o) (j:A0 o (yielded ops a.tmps)) (g:(F0 a.eval o).run P w=.ok (.comm #[scase c v z] true .send) w) (d:cn w c cap buf false) (b:buf.length<cap) (h:∀ e,cn e c cap (buf++[v]) false->kS c w e->dJ P ops Q rest (a.put o.dst undef) e):dJ P ops Q (i::rest) a w:=by have bZ:=d.lt;obtain ⟨s,r,d⟩:=d;exact FG f j g d mx (h _ (oX bZ _ _ _ _ _ bh) (tG _ _ _ _ _ _))
theorem tI (d:Bool) (g:ops[i]?=some o) (k:A0 o (yielded ops a.tmps)) (j:(F0 a.eval o).run P w=.ok (.comm #[rcase c z] true (.recv d)) w) (b:cn w c cap (v::buf) closed) (h:∀ e,cn e c cap buf closed->kS c w e->dJ P ops Q rest (a.put o.dst (got d v true)) e):dJ P ops Q (i::rest) a w:=by have bZ:=b.lt;obtain ⟨s,r,b⟩:=b;have f:=h _ (oX (a:=(v::buf).toArray.extract 1 (v::buf).toArray.size) bZ cap buf closed s (r+1) bh) (tG _ _ _ _ _ _);exact vF d g k j b bh cb
theorem tJ (d:Bool) (e:ops[i]?=some o) (g:A0 o (yielded ops a.tmps)) (f:(F0 a.eval o).run P w=.ok (.comm #[rcase c z] true (.recv d)) w) (b:cn w c cap [] true) (h:dJ P ops Q rest (a.put o.dst (got d z false)) w):dJ P ops Q (i::rest) a w:=by obtain ⟨s,r,b⟩:=b;exact tF d e g f b h
theorem xN (b:cn w c cap buf false):∃ e,(∀ a d,(Builtin.close_ a d #[.chan (some c)]).run P w=.ok (.tuple #[]) e)/\cn e c cap buf true/\kS c w e:=by have bZ:=b.lt;obtain ⟨s,r,b⟩:=b;exact ⟨w.setChan c cap buf.toArray true s r false,λa d=>run_close_open a d b,oX bZ _ _ _ _ _ rfl,tG _ _ _ _ _ _⟩
end
def eS:List Nat:=[11,3,7,9,1,5]
def gi (x:Int):List Nat->Int
 | []=>-1
 | n::r=>match (bu x n==1) with | true=>n | false=>gi x r
def dA (x:Int):Int:=gi x eS
def kV (l:List Int):Int:=A5 .and .u64 (l.getD 9 0) (l.getD 3 0)
def D4 (l:List Int) (p:Int):Bool:=(p != 3)||(bu (l.getD 0 0) 3==1)
def D5 (l:List Int) (p:Int):Bool:=(p==0)||((p==1)&&(bu (l.getD 0 0) 1==1))
def If (l:List Int) (p:Int):Int:=match D5 l p with
 | true=>dA (A5 .and .u64 (kV l) (l.getD 2 0)) | false=>-1
def iN (l:List Int) (p:Int):Int:=match (D4 l p&&decide (dA (A5 .andNot .u64 (kV l) (l.getD 2 0))>=0)) with
 | true=>dA (A5 .andNot .u64 (kV l) (l.getD 2 0)) | false=>If l p
def tK (n:Nat) (l:List Int) (p:Int):Int:=match aQ n l p with | true=>iN l p | false=>-1
theorem tL (x:Int):∀ r:List Nat,gi x r=-1\/∃ n ∈ r,gi x r=(n:Int)/\(bu x n==1):=by
 intro r;induction r with
 | nil=>exact .inl rfl
 | cons n r b =>
   unfold gi;cases h:(bu x n==1) with
   | true=>exact .inr ⟨n,bh,rfl,h⟩
   | false =>
     rcases b with h|⟨m,a,h⟩;·exact .inl h
     ·exact .inr ⟨m,by simp [a],h⟩
