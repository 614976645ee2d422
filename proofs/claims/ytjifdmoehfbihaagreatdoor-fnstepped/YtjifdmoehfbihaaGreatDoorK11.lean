/- Own lemmas. -/
import Derived.Test.YtjifdmoehfbihaaGreatDoorAut
import Derived.Test.YtjifdmoehfbihaaGreatDoorK09
import Derived.Lib.Mul64
import Derived.Deep.Cut
set_option maxRecDepth 100000
set_option maxHeartbeats 1600000
namespace Go.Proofs.YtjifdmoehfbihaaGreatDoor
set_option linter.unusedVariables false
def Fm.mask:Fm->Int
 | .r=>4261441663 | .w=>4261441663 | .h=>4227887231 | .a=>4160778367 | .x=>4294967295 | .u=>127 | .j=>127 | .i=>28799 | .s=>28799 | .b=>28799 | .c=>28799
def Fm.at:Fm->Nat
 | .r=>25 | .w=>25 | .h=>26 | .a=>27 | .x=>20 | .u=>0 | .j=>0 | .i=>0 | .s=>0 | .b=>0 | .c=>0
def Fm.hasRd:Fm->Bool
 | .r=>true | .i=>true | .h=>true | .w=>true | .s=>false | .b=>false | .u=>true | .j=>true | .a=>true | .c=>true | .x=>false
def Fm.hasA:Fm->Bool
 | .r=>true | .i=>true | .h=>true | .w=>true | .s=>true | .b=>true | .u=>false | .j=>false | .a=>true | .c=>true | .x=>false
def Fm.hasB:Fm->Bool
 | .r=>true | .i=>false | .h=>false | .w=>false | .s=>true | .b=>true | .u=>false | .j=>false | .a=>true | .c=>false | .x=>false
def Fm.pcs:Fm->List (Nat × Nat × Nat)
 | .r=>[] | .i=>[(20,12,0)] | .h=>[(20,6,0)] | .w=>[(20,5,0)] | .s=>[(25,7,5),(7,5,0)] | .b=>[(31,1,12),(7,1,11),(25,6,5),(8,4,1)]
 | .u=>[(12,20,12)] | .j=>[(31,1,20),(12,8,12),(20,1,11),(21,10,1)] | .a=>[(25,2,0)] | .c=>[(20,12,0)] | .x=>[]
def Fm.width:Fm->Nat
 | .r=>64 | .i=>12 | .h=>64 | .w=>64 | .s=>12 | .b=>13 | .u=>32 | .j=>21 | .a=>64 | .c=>64 | .x=>64
structure Ins where
 op:Int
 rd:Int
 a:Int
 b:Int
 imm:Int
deriving DecidableEq
def Ins.val (i:Ins):Value:=.agg #[.i i.op,.i i.rd,.i i.a,.i i.b,.i i.imm]
def cQ (x:Int) (k n:Nat):Int:=x/2^k%2^n
theorem kq (x:Int) (k n:Nat):0<=cQ x k n/\cQ x k n<2^n:=by have a:(0:Int)<2^n:=Int.pow_pos ab;exact ⟨Int.emod_nonneg _ ab,Int.emod_lt_of_pos _ a⟩
theorem DA (m n:Nat) (h:m<=n):(2:Int)^m<=2^n:=by obtain ⟨d,rfl⟩:=Nat.exists_eq_add_of_le h;rw [Int.pow_add];have a:(0:Int)<2^m:=Int.pow_pos ab;have b:(0:Int)<2^d:=Int.pow_pos ab;have c:(2:Int)^m*1<=2^m*2^d:=Int.mul_le_mul_of_nonneg_left ab ab;omega
theorem ic (x:Int) (k n:Nat) (b:0<=x) (f:x<18446744073709551616) (hn:n<64):bits .and .u64 (x/2^k) (IntKind.u64.wrap (IntKind.u64.wrap (2^n)-1))=cQ x k n:=by
 have i:(0:Int)<2^n:=Int.pow_pos ab;have h:(0:Int)<2^k:=Int.pow_pos ab;have g:(2:Int)^n<=2^63:=DA n 63 ab;have d:(2:Int)^63=9223372036854775808:=bb
 have c:IntKind.u64.wrap (2^n)=2^n:=by rw [IntKind.wrap_u64];omega
 have e2:IntKind.u64.wrap (2^n-1)=2^n-1:=by rw [IntKind.wrap_u64];omega
 have a:0<=x/2^k:=Int.ediv_nonneg b ab;have e:x/2^k<=x:=Int.ediv_le_self _ b;rw [c,e2,u64_and _ _ a ab ab ab];have e3:(2^n-1:Int).toNat=2^n-1:=by
  have:(2:Int)^n=((2^n:Nat):Int):=cp
  rw [this];omega
 rw [e3,Nat.and_two_pow_sub_one_eq_mod];unfold cQ;have e4:((x/2^k).toNat:Int)=x/2^k:=Int.toNat_of_nonneg a;rw [Int.natCast_emod,e4];simp
theorem If (n m k:Nat):n &&& m=2^k*(n/2^k &&& m/2^k)+(n%2^k &&& m%2^k):=by rw [<- Nat.and_div_two_pow,<- Nat.and_mod_two_pow];exact (Nat.div_add_mod _ _).symm
theorem J9 (n k:Nat):n &&& (2^k-1)=n%2^k:=Nat.and_two_pow_sub_one_eq_mod n k
theorem Ka (a x k m:Nat) (h:a/2^k%2^m=0) (hx:x<2^m):a ||| x*2^k=a+x*2^k:=by
 have g:0<2^k:=Nat.two_pow_pos k;have n:0<2^m:=Nat.two_pow_pos m;have e:a=a/2^k/2^m*2^(k+m)+a%2^k:=by have f:=Nat.div_add_mod a (2^k);have d:=Nat.div_add_mod (a/2^k) (2^m);rw [h,Nat.add_zero] at d;rw [<- d] at f;rw [Nat.pow_add,<- Nat.mul_assoc,Nat.mul_right_comm,Nat.mul_comm _ (2^k),Nat.mul_comm _ (2^m)] ;omega
 have b:a%2^k<2^k:=Nat.mod_lt _ g;have i:a/2^k/2^m*2^(k+m) ||| a%2^k=a/2^k/2^m*2^(k+m)+a%2^k:=by refine nat_join k _ _ ?_ b;rw [Nat.pow_add,Nat.mul_comm (2^k),<- Nat.mul_assoc];exact Nat.mul_mod_left _ _
 have j:x*2^k ||| a%2^k=x*2^k+a%2^k:=nat_join k _ _ (Nat.mul_mod_left _ _) b
 have c:x*2^k+a%2^k<2^(k+m):=by rw [Nat.pow_add,Nat.mul_comm (2^k)];have:(x+1)*2^k<=2^m*2^k:=Nat.mul_le_mul_right _ hx;rw [Nat.add_mul] at this;omega
 have l:a/2^k/2^m*2^(k+m) ||| (x*2^k+a%2^k)=a/2^k/2^m*2^(k+m)+(x*2^k+a%2^k):=nat_join (k+m) _ _ (Nat.mul_mod_left _ _) c
 have e2:a ||| x*2^k=a/2^k/2^m*2^(k+m) ||| (x*2^k ||| a%2^k):=by
  conv=>lhs;rw [e,<- i]
  rw [Nat.or_assoc,Nat.or_comm (a%2^k)]
 rw [e2,j,l];omega
def fz (i:Nat) (f:Fm) (o z m x:Int):Prop:=x%128=o/\(0<=z->x/4096%8=z) /\
 (match f with
 | .r=>x/33554432=m/\(i=97->x/128%32=0)
 | .h=>x/67108864=m
 | .w=>x/33554432=m
 | .a=>x/134217728=m/\(i=62\/i=73->x/1048576%32=0)
 | .x=>x=m*1048576+o
 | _=>True)
instance (i:Nat) (f:Fm) (o z m x:Int):Decidable (fz i f o z m x):=by
 unfold fz;cases f<;>infer_instance
theorem cy (x:Int) (k:Nat) (c:0<=x) (d:x<18446744073709551616) (hk:k<64):bits .and .u64 x (2^k-1)=x%2^k:=by
 have h:=ic x 0 k c d hk;have f:(0:Int)<2^k:=Int.pow_pos ab;have e:(2:Int)^k<=2^63:=DA k 63 ab;have b:(2:Int)^63=9223372036854775808:=bb
 have a:IntKind.u64.wrap (2^k)=2^k:=by rw [IntKind.wrap_u64];omega
 have e2:IntKind.u64.wrap (2^k-1)=2^k-1:=by rw [IntKind.wrap_u64];omega
 rw [a,e2] at h;simpa [cQ] using h
def ap (n:Nat) (x:Int):Int:=IntKind.u64.wrap (RowKit.wrap64 (IntKind.u64.wrap (x*2^(64-n)))/2^(64-n))
def yQ (f:Fm) (x:Int):Int :=
 match f with
 | .i=>x/1048576
 | .h=>x/1048576%64
 | .w=>x/1048576%32
 | .s=>x/33554432*32+x/128%32
 | .b=>x/2147483648*4096+x/128%2*2048+x/33554432%64*32+x/256%16*2
 | .u=>x/4096*4096
 | .j=>x/2147483648*1048576+x/4096%256*4096+x/1048576%2*2048+x/2097152%1024*2
 | .a=>x/33554432%4
 | .c=>x/1048576
 | .r=>0
 | .x=>0
def nB (f:Fm) (x:Int):Int:=RowKit.wrap64 (ap f.width (yQ f x))
theorem oJ (u:Int) (a:0<=u) (b:u<9223372036854775808):RowKit.wrap64 (ap 64 u)=u:=by
 have e:(2:Int)^(64-64)=1:=bb
 unfold ap;exact a03
theorem mv (a x:Int) (k m:Nat) (f:0<=a) (n:a<18446744073709551616) (hx:0<=x) (b:x<2^m) (l:k+m<=64) (h:a/2^k%2^m=0):bits .or .u64 a (x*2^k)=a+x*2^k:=by
 obtain ⟨A,rfl⟩:=Int.eq_ofNat_of_zero_le f;obtain ⟨X,rfl⟩:=Int.eq_ofNat_of_zero_le hx;have c:X<2^m:=by
  have:((X:Nat):Int)<((2^m:Nat):Int):=kd
  omega
 have i:A/2^k%2^m=0:=by
  have:(((A/2^k%2^m:Nat)):Int)=0:=ej
  omega
 have e:((X:Int)*2^k)=((X*2^k:Nat):Int):=cp
 have j:X*2^k<18446744073709551616:=by have g:X*2^k<2^m*2^k:=Nat.mul_lt_mul_of_pos_right c (Nat.two_pow_pos k);rw [<- Nat.pow_add] at g;have o:2^(m+k)<=2^64:=Nat.pow_le_pow_right ab ab;have d:2^64=18446744073709551616:=bb;omega
 rw [e,u64_or_nat A (X*2^k) ab j,Ka A X k m i c];simp
end Go.Proofs.YtjifdmoehfbihaaGreatDoor
namespace Go.Proofs.YtjifdmoehfbihaaGreatDoor
open Go.RowKit Tryz
set_option linter.unusedVariables false
def U (x:Int):Prop:=0<=x/\x<18446744073709551616
def bt (x:Int) (i:Nat):Bool:=(BitVec.ofInt 64 x).getLsbD i
theorem aP (x:Int):U (IntKind.u64.wrap x):=by rw [IntKind.wrap_u64];exact ⟨Int.emod_nonneg _ ab,Int.emod_lt_of_pos _ ab⟩
theorem af (o:BinOp) (x y:Int):U (bits o .u64 x y):=aP _
theorem DB (x:Int):BitVec.ofInt 64 (IntKind.u64.wrap x)=BitVec.ofInt 64 x:=by rw [IntKind.wrap_u64];apply BitVec.eq_of_toInt_eq;rw [BitVec.toInt_ofInt,BitVec.toInt_ofInt];exact Int.emod_bmod x (2^64)
theorem pU (v:BitVec 64):BitVec.ofInt 64 (IntKind.u64.wrap (v.toNat:Int))=v:=by rw [DB];simp
theorem au (x y:Int) (i:Nat):bt (bits .and .u64 x y) i=(bt x i&&bt y i):=by show (BitVec.ofInt 64 (IntKind.u64.wrap ((BitVec.ofInt 64 x &&& BitVec.ofInt 64 y).toNat:Int))).getLsbD i=_;rw [pU];simp [bt]
theorem cn (x y:Int) (i:Nat):bt (bits .or .u64 x y) i=(bt x i||bt y i):=by show (BitVec.ofInt 64 (IntKind.u64.wrap ((BitVec.ofInt 64 x ||| BitVec.ofInt 64 y).toNat:Int))).getLsbD i=_;rw [pU];simp [bt]
theorem aw (x y:Int) (i:Nat) (a:i<64):bt (bits .andNot .u64 x y) i=(bt x i&&!bt y i):=by show (BitVec.ofInt 64 (IntKind.u64.wrap ((BitVec.ofInt 64 x &&& ~~~BitVec.ofInt 64 y).toNat:Int))).getLsbD i=_;rw [pU];simp [bt,a]
theorem nW (x:Int) (h:U x) (i:Nat):bt x i=x.toNat.testBit i:=by
 obtain ⟨a,b⟩:=h;obtain ⟨n,rfl⟩:=Int.eq_ofNat_of_zero_le a;have c:n<2^64:=ab
 unfold bt;rw [<- BitVec.testBit_toNat,ofInt_u64 n ab,Int.toNat_natCast]
theorem br (x y:Int) (hx:U x) (hy:U y) (h:∀ i,i<64->bt x i=bt y i):x=y:=by have e:BitVec.ofInt 64 x=BitVec.ofInt 64 y:=BitVec.eq_of_getLsbD_eq (λi c=>h i c);have e2:=congrArg BitVec.toNat e;obtain ⟨a,d⟩:=hx;obtain ⟨b,f⟩:=hy;obtain ⟨n,rfl⟩:=Int.eq_ofNat_of_zero_le a;obtain ⟨m,rfl⟩:=Int.eq_ofNat_of_zero_le b;rw [ofInt_u64 n ab,ofInt_u64 m ab] at e2;rw [e2]
theorem lS (x:Int) (h:U x) (k:Nat):U (x/2^k):=by have a:(0:Int)<2^k:=Int.pow_pos ab;exact ⟨Int.ediv_nonneg h.1 ab,Int.lt_of_le_of_lt (Int.ediv_le_self _ h.1) h.2⟩
theorem Ig (x:Int) (h:0<=x) (k:Nat):(x/2^k).toNat=x.toNat/2^k:=by
 obtain ⟨n,rfl⟩:=Int.eq_ofNat_of_zero_le h;have:((n:Int)/2^k)=((n/2^k:Nat):Int):=cp
 rw [this,Int.toNat_natCast,Int.toNat_natCast]
theorem jl (x:Int) (h:U x) (k i:Nat):bt (x/2^k) i=bt x (i+k):=by rw [nW _ (lS x h k),nW _ h,Ig _ h.1,Nat.testBit_div_two_pow]
theorem tI (x:Int) (i:Nat) (a:64<=i):bt x i=false:=by unfold bt;exact BitVec.getLsbD_of_ge _ _ a
theorem pV (x:Int) (k n:Nat) (hn:n<64):U (cQ x k n):=by
 have:=kq x k n;have b:=DA n 63 ab;have a:(2:Int)^63=9223372036854775808:=bb
 exact ⟨this.1,ab⟩
theorem ks (x:Int) (h:U x) (k n i:Nat) (hn:n<64):bt (cQ x k n) i=(decide (i<n)&&bt x (i+k)):=by
 rw [nW _ (pV x k n hn),<- jl x h,nW _ (lS x h k)];unfold cQ;have a:=(lS x h k).1;obtain ⟨m,b⟩:=Int.eq_ofNat_of_zero_le a;rw [b];have:((m:Int)%2^n)=((m%2^n:Nat):Int):=cp
 rw [this,Int.toNat_natCast,Int.toNat_natCast,Nat.testBit_mod_two_pow]
theorem mU (y:Int) (h:U y) (k i:Nat):bt (IntKind.u64.wrap (y*2^k)) i=(decide (k<=i)&&decide (i<64)&&bt y (i-k)):=by
 rw [nW _ (aP _),nW _ h];obtain ⟨n,rfl⟩:=Int.eq_ofNat_of_zero_le h.1;rw [IntKind.wrap_u64];have e:((n:Int)*2^k)%18446744073709551616=((n*2^k%2^64:Nat):Int):=cp
 rw [e,Int.toNat_natCast,Int.toNat_natCast,Nat.testBit_mod_two_pow,Nat.testBit_mul_two_pow];cases decide (i<64)<;>cases decide (k<=i)<;>simp
def sh (b:Int):Nat:=(b%64).toNat
def Kb (b:Int):Nat:=(b%32).toNat
theorem Qa (b:Int):b%64=(sh b:Int):=by unfold sh;omega
theorem QU (b:Int):b%32=(Kb b:Int):=by unfold Kb;omega
theorem DC (b:Int):sh (b%32)=Kb b:=by unfold sh Kb;omega
theorem Fw (b:Int):sh b<64:=by unfold sh;omega
theorem QV (b:Int):Kb b<32:=by unfold Kb;omega
inductive AF where | sum | slt | sltu | xor | or | and | sl | sr | sra | sub | mul | mulh | mulhsu | high | div | divu | rem | remu
deriving DecidableEq
def DD (b:Bool):Int:=if b then 1 else 0
def kB (a b:Int):Int:=a*b/18446744073709551616
def fX (a b:Int):Int:=if wrap64 a<0 then IntKind.u64.wrap (kB a b-b) else kB a b
def l5 (a b:Int):Int:=if wrap64 b<0 then IntKind.u64.wrap (fX a b-a) else fX a b
def AF.v:AF->Int->Int->Int
 | .sum,a,b=>IntKind.u64.wrap (a+b)
 | .sub,a,b=>IntKind.u64.wrap (a-b)
 | .xor,a,b=>bits .xor .u64 a b
 | .or,a,b=>bits .or .u64 a b
 | .and,a,b=>bits .and .u64 a b
 | .sl,a,b=>IntKind.u64.wrap (a*2^sh b)
 | .sr,a,b=>a/2^sh b
 | .sra,a,b=>IntKind.u64.wrap (wrap64 a/2^sh b)
 | .slt,a,b=>DD (decide (wrap64 a<wrap64 b))
 | .sltu,a,b=>DD (decide (a<b))
 | .mul,a,b=>IntKind.u64.wrap (a*b)
 | .high,a,b=>kB a b
 | .mulhsu,a,b=>fX a b
 | .mulh,a,b=>l5 a b
 | .div,a,b=>if b=0 then 18446744073709551615 else IntKind.u64.wrap (wrap64 ((wrap64 a).tdiv (wrap64 b)))
 | .rem,a,b=>if b=0 then a else IntKind.u64.wrap ((wrap64 a).tmod (wrap64 b))
 | .divu,a,b=>if b=0 then 18446744073709551615 else IntKind.u64.wrap (a.tdiv b)
 | .remu,a,b=>if b=0 then a else a.tmod b
theorem fg {b:Int} (a:0<=b) (c:b<18446744073709551616):wrap64 b=0↔b=0:=by unfold wrap64;omega
theorem iY {b:Int} (a:0<=b) (c:b<18446744073709551616):wrap64 b=-1↔b=18446744073709551615:=by unfold wrap64;omega
theorem Kc (a:Int) (b:0<=a) (c:a<18446744073709551616):IntKind.u64.wrap (wrap64 ((wrap64 a).tdiv (-1)))=IntKind.u64.wrap (-a):=by rw [Int.tdiv_neg,Int.tdiv_one,IntKind.wrap_u64,IntKind.wrap_u64];unfold wrap64;omega
theorem Kd (a:Int):IntKind.u64.wrap ((wrap64 a).tmod (-1))=0:=by rw [Int.tmod_neg,Int.tmod_one];rfl
theorem lT (x:Int):ap 32 x=if x%4294967296<2147483648 then x%4294967296 else x%4294967296+18446744069414584320:=by
 have e:(2:Int)^(64-32)=4294967296:=bb
 unfold ap;rw [e,IntKind.wrap_u64,IntKind.wrap_u64];unfold wrap64;split<;>omega
theorem j8 {x y:Int} (h:x%4294967296=y%4294967296):ap 32 x=ap 32 y:=by rw [lT,lT,h]
theorem bf (x:Int):0<=ap 32 x/\ap 32 x<18446744073709551616:=by rw [lT];split<;>omega
theorem AB (x:Int):-2147483648<=wrap64 (ap 32 x)/\wrap64 (ap 32 x)<2147483648:=by rw [lT];unfold wrap64;split<;>omega
theorem wJ (z:Int) (a : -2147483648<=z) (b:z<2147483648):ap 32 (IntKind.u64.wrap z)=IntKind.u64.wrap z:=by rw [lT,IntKind.wrap_u64];split<;>omega
theorem rm (a p:Int):(a%4294967296*p)%4294967296=a*p%4294967296:=by rw [Int.mul_emod,Int.emod_emod_of_dvd _ (Int.dvd_refl _),<- Int.mul_emod]
theorem jH (x:Int):IntKind.u64.wrap x%4294967296=x%4294967296:=by rw [IntKind.wrap_u64];omega
theorem DE (z:Int) (c : -2147483648<=z) (d:z<2147483648) (n:Nat):-2147483648<=z/2^n/\z/2^n<2147483648:=by
 have a:(0:Int)<2^n:=Int.pow_pos ab;constructor
 ·refine (Int.le_ediv_iff_mul_le a).mpr ?_;have:(1:Int)<=2^n:=by omega
  have b:(2147483648:Int)*1<=2147483648*2^n:=Int.mul_le_mul_of_nonneg_left this ab;omega
 ·refine Int.ediv_lt_of_lt_mul a ?_;have:(1:Int)<=2^n:=by omega
  have b:(2147483648:Int)*1<=2147483648*2^n:=Int.mul_le_mul_of_nonneg_left this ab;omega
inductive SD where | low | sgn | five
deriving DecidableEq
def SD.v:SD->Int->Int
 | .low,x=>x%4294967296
 | .sgn,x=>ap 32 x
 | .five,x=>x%32
theorem SD.bd (s:SD) (x:Int) (a:0<=x):0<=s.v x/\s.v x<18446744073709551616:=by
 cases s;·simp only [SD.v];omega
 ·exact bf x
 ·simp only [SD.v];omega
inductive AO where | d (f:AF) | w (f:AF) (l r:SD)
deriving DecidableEq
def SG:List AO:=[
 .d .sum,.d .slt,.d .sltu,.d .xor,.d .or,.d .and,.d .sl,.d .sr,.d .sra,
 .w .sum .low .low,.w .sl .low .five,.w .sr .low .five,.w .sra .sgn .five,
 .d .sum,.d .sub,.d .sl,.d .slt,.d .sltu,.d .xor,.d .sr,.d .sra,.d .or,.d .and,
 .w .sum .low .low,.w .sub .low .low,.w .sl .low .five,.w .sr .low .five,.w .sra .sgn .five,
 .d .mul,.d .mulh,.d .mulhsu,.d .high,.d .div,.d .divu,.d .rem,.d .remu,
 .w .mul .low .low,.w .div .sgn .sgn,.w .divu .low .low,.w .rem .sgn .sgn,.w .remu .low .low]
def nX (k:Nat):AO:=SG.getD k (.d .sum)
def AO.v:AO->Int->Int->Int
 | .d f,a,b=>f.v a b
 | .w f l r,a,b=>ap 32 (f.v (l.v a) (r.v b))
def yR (op:Int):Bool:=decide (22<=op/\op<=62)
def mV (op a b:Int):Int:=if yR op then (nX (op-22).toNat).v a b else 0
/- The Ops of 32 bits,as the model reckons them. -/
theorem SU (a b:Int):ap 32 (IntKind.u64.wrap (a+b))=(AO.w .sum .low .low).v a b:=by refine j8 ?_;simp only [AF.v,SD.v,jH];omega
theorem SV (a b:Int):ap 32 (IntKind.u64.wrap (a-b))=(AO.w .sub .low .low).v a b:=by refine j8 ?_;simp only [AF.v,SD.v,jH];omega
theorem SW (a b:Int):ap 32 (IntKind.u64.wrap (a*b))=(AO.w .mul .low .low).v a b:=by refine j8 ?_;simp only [AF.v,SD.v,jH];rw [rm,Int.mul_comm a (b%_),rm,Int.mul_comm]
theorem Ua (a b:Int):ap 32 (IntKind.u64.wrap (a*2^Kb b))=(AO.w .sl .low .five).v a b:=by refine j8 ?_;simp only [AF.v,SD.v,jH,DC];rw [rm]
theorem Ub (a b:Int):ap 32 (a%4294967296/2^Kb b)=(AO.w .sr .low .five).v a b:=by simp only [AO.v,AF.v,SD.v,DC]
theorem SX (a b:Int):IntKind.u64.wrap (wrap64 (ap 32 a)/2^Kb b)=(AO.w .sra .sgn .five).v a b:=by simp only [AO.v,AF.v,SD.v,DC];have h:=AB a;have c:=DE _ h.1 h.2 (Kb b);exact (wJ _ c.1 c.2).symm
theorem kY (a:Int) (b:0<=a) (c:a<18446744073709551616):bits .and .u64 a 4294967295=a%4294967296:=cy a 32 b c ab
theorem sm {x:Int} (a:0<=x) (b:x<18446744073709551616):IntKind.u64.wrap x=x:=by rw [IntKind.wrap_u64];omega
theorem uI (a b:Int) (h:0<=a) (a1:a<18446744073709551616) (i:0<=b) (m:b<18446744073709551616):∃ d f c e t u v:Int, IntKind.u64.wrap (a%4294967296*(b%4294967296))=d/\IntKind.u64.wrap (a%4294967296*(b/4294967296))=f /\ IntKind.u64.wrap (a/4294967296*(b%4294967296))=c/\IntKind.u64.wrap (a/4294967296*(b/4294967296))=e /\ IntKind.u64.wrap (c+d/4294967296)=t/\bits .and .u64 t 4294967295=t%4294967296/\IntKind.u64.wrap (t%4294967296+f)=u /\ IntKind.u64.wrap (e+t/4294967296)=v/\IntKind.u64.wrap (v+u/4294967296)=kB a b:=by
 obtain ⟨A,rfl⟩:=Int.eq_ofNat_of_zero_le h
 obtain ⟨B,rfl⟩:=Int.eq_ofNat_of_zero_le i
 have k:A<18446744073709551616:=ab
 have l:B<18446744073709551616:=ab
 obtain ⟨q,bt,r,g⟩:=Lib.mul64_hi A B k l
 have n:=Lib.half_mul_le (a:=A/4294967296) (b:=B/4294967296) ab ab
 have o:=Lib.half_mul_le (a:=A/4294967296) (b:=B%4294967296) ab ab
 have p:=Lib.half_mul_le (a:=A%4294967296) (b:=B/4294967296) ab ab
 have j:((A:Int)%4294967296*((B:Int)%4294967296))=((A%4294967296*(B%4294967296):Nat):Int):=cp
 have e2:((A:Int)%4294967296*((B:Int)/4294967296))=((A%4294967296*(B/4294967296):Nat):Int):=cp
 have e3:((A:Int)/4294967296*((B:Int)%4294967296))=((A/4294967296*(B%4294967296):Nat):Int):=cp
 have e4:((A:Int)/4294967296*((B:Int)/4294967296))=((A/4294967296*(B/4294967296):Nat):Int):=cp
 have e5:kB A B=((A*B/18446744073709551616:Nat):Int):=by simp [kB]
 rw [j,e2,e3,e4,e5,<- g]
 generalize A%4294967296*(B%4294967296)=d at *
 generalize A%4294967296*(B/4294967296)=f at *
 generalize A/4294967296*(B%4294967296)=c at *
 generalize A/4294967296*(B/4294967296)=e at *
 refine ⟨(d:Int),(f:Int),(c:Int),(e:Int),(c:Int)+(d:Int)/4294967296,((c:Int)+(d:Int)/4294967296)%4294967296+(f:Int),(e:Int)+((c:Int)+(d:Int)/4294967296)/4294967296,
  sm ab ab,sm ab ab,sm ab ab,sm ab ab,sm ab ab,kY _ ab ab,sm ab ab,sm ab ab,?_⟩
 rw [sm ab ab]
 simp
theorem NU (zs:List Int) (f:Nat) (x:Int) (j:Nat):∀ k,j<k->f+k<=zs.length->(jZ zs f x k).getD (f+j) 0=x/256^j%256:=by
 intro k;induction k with
 | zero=>intro h;omega
 | succ k b =>
   intro c d;rw [jZ];by_cases e:j=k
   ·subst e;have:f+j<(jZ zs f x j).length:=by rw [jd];omega
    simp [List.getD,this]
   ·have a:((jZ zs f x k).set (f+k) (x/256^k%256)).getD (f+j) 0=(jZ zs f x k).getD (f+j) 0:=by
     have:f+k≠f+j:=ab
     simp only [List.getD,List.getElem?_set_ne this]
    rw [a];exact b ab ab
theorem NV (xs:List Int) (x:Int):∀ (m f d:Nat),(∀ j,j<m->xs.getD (f+j) 0=x/256^(d+j)%256)->le xs f m=x/256^d%256^m:=by
 intro m;induction m with
 | zero=>intro f d _;simp [le,Int.emod_one]
 | succ m i =>
   intro f d h;rw [le,i (f+1) (d+1) (λj o=>by have:=h (j+1) ab;rw [show f+(j+1)=f+1+j from ab,show d+(j+1)=d+1+j from ab] at this;exact this)];have a:=h 0 ab;rw [Nat.add_zero,Nat.add_zero] at a;rw [a];have b:x/256^(d+1)=x/256^d/256:=(by rw [Int.pow_succ,Int.ediv_ediv_of_nonneg (Int.le_of_lt (Int.pow_pos ab))]);have e2:(256:Int)^(m+1)=256*256^m:=(by rw [Int.pow_succ,Int.mul_comm]);rw [b,e2];generalize x/256^d=y;have e:(0:Int)<256^m:=Int.pow_pos ab;generalize (256:Int)^m=N at *;have g:=Int.emod_add_mul_ediv (y/256) N;have r:=Int.emod_add_mul_ediv y 256;have n:=Int.emod_nonneg (y/256) (show N≠0 by omega);have c:=Int.emod_lt_of_pos (y/256) e;have e3:y=(y%256+256*(y/256%N))+(256*N)*(y/256/N):=(by have k:256*(y/256)=256*(y/256%N)+256*(N*(y/256/N)):=(by rw [<- Int.mul_add,g]);rw [Int.mul_assoc];omega);have l:256*(y/256%N)+256<=256*N:=ab;have e5:∀ (A K M:Int),0<=A->A<M->(A+M*K)%M=A:=λA K M p q=>by rw [Int.add_mul_emod_self_left,Int.emod_eq_of_lt p q]
   have e6:=e5 (y%256+256*(y/256%N)) (y/256/N) (256*N) ab ab;rw [<- e3] at e6;exact e6.symm
theorem QW (zs:List Int) (f m:Nat) (x:Int) (h:f+m<=zs.length):le (jZ zs f x m) f m=x%256^m:=by have:=NV (jZ zs f x m) x m f 0 (λj a=>by rw [Nat.zero_add];exact NU zs f x j m a h);simpa using this
theorem NW (zs:List Int) (f:Nat) (x:Int) (j:Nat):∀ k,(j<f\/f+k<=j)->(jZ zs f x k).getD j 0=zs.getD j 0:=by
 intro k;induction k with
 | zero=>intro h;rfl
 | succ k b =>intro h;have e:(jZ zs f x (k+1)).getD j 0=(jZ zs f x k).getD j 0:=(by show ((jZ zs f x k).set (f+k) (x/256^k%256)).getD j 0=_;have a:f+k≠j:=ab;simp [List.getD,List.getElem?_set_ne a]);rw [e];exact b ab
theorem NY (zs ys:List Int):∀ m g,(∀ j,j<m->ys.getD (g+j) 0=zs.getD (g+j) 0)->le ys g m=le zs g m:=by
 intro m;induction m with
 | zero=>intro g h;rfl
 | succ m b =>intro g h;show ys.getD g 0+256*le ys (g+1) m=zs.getD g 0+256*le zs (g+1) m;have a:=h 0 ab;rw [Nat.add_zero] at a;rw [a,b (g+1) (λj c=>by have:=h (j+1) ab;rw [show g+1+j=g+(j+1) from ab];exact this)]
theorem DF (zs:List Int) (f g m:Nat) (x:Int) (h:g+m<=f\/f+m<=g):le (jZ zs f x m) g m=le zs g m :=
 NY _ _ m g λj a=>NW zs f x (g+j) m ab
theorem pW {w:World} {base n:Nat} {v:Value} {xs:List Value} (ty:TypeId) (f:w.ownsRow base 5 1 v n xs) (a:Addr) (c:Nat) (b:Int) (d:∀ j u,[Value.int .u8 b][j]?=some u->w.cell? (a.add j)=some u) (hn:n<=1048576) {t:Value} {w':World} (hr:(Builtin.append_ #[24,24] ty #[v,.slice (some a) 1 c]).run prog w=.ok t w'):t.ownBlock=v.ownBlock\/t.ownBlock=some w.heap.size:=by
 obtain ⟨p,r,m,k,o⟩:=info_parts info5;have x:∀ u ∈ [Value.int .u8 b],u.oneCell'=true:=by simp [Value.oneCell']
 have s:[Value.int .u8 b].length=1*p.size:=by rw [k];rfl
 rcases f.2 with ⟨e,C⟩|⟨g,cap,q,e,D,l,y,z,A,B⟩
 ·subst e;right;have h:=run_append_grow_src (P:=prog) w 24 24 ty 5 p (.int .u8 0) underlying24 r m none 0 0 [] (run_firstCells_none w.drew p.size 0 0 0) (.slice (some a) 1 c) 1 [.int .u8 b] (Src.ofSlice w underlying24 a 1 c [.int .u8 b] s d x) ab ab (growslice_fits ab (by rw [o];omega));rw [h] at hr;injection hr with e1 _
  rw [<- e1];rfl
 ·subst e;by_cases i:n+1<=cap
  ·left;have h:=run_append_room (P:=prog) w 24 ty 5 p underlying24 r g n cap q l a 1 c [.int .u8 b] s d x i (by rw [k] at *;simp;omega);rw [h] at hr;injection hr with e1 _
   rw [<- e1];rfl
  ·right;have holds:∀ j u,xs[j]?=some u->w.cell? ((⟨g,0,none⟩:Addr).add j)=some u:=f.cells (g:=g) rfl;have h:=run_append_grow (P:=prog) w 24 ty 5 p (.int .u8 0) underlying24 r m ⟨g,0,none⟩ n cap xs (by rw [k];exact f.1) holds a 1 c [.int .u8 b] s d ab ab (growslice_fits ab (by rw [o];omega));rw [h] at hr;injection hr with e1 _
   rw [<- e1];rfl
theorem yS {l:Array Oper} {rest:List Oper} {o:Oper} {a:Act} {Q:Exit->Act->World->Prop} {w:World} (p:o.guard=none) (s x:Operand) (E:o.op=.call {callee:=.builtin .append,args:=#[s,x],argTypes:=#[24,24]}) (base n:Nat) (v:Value) (zs:List Int) (hs:a.eval s=v) (i:w.ownsRow base 5 1 v n (zs.map (Value.int .u8))) (hn:n<=1048576) (ad:Addr) (c:Nat) (b:Int) (hx:a.eval x=.slice (some ad) 1 c) (d:∀ j u,[Value.int .u8 b][j]?=some u->w.cell? (ad.add j)=some u) (k:base<=w.heap.size) (h:∀ f g m,m.ownsRow base 5 1 (.slice f (n+1) g) (n+1) ((zs++[b]).map (Value.int .u8))->w.grownBy m v.ownBlock->((Value.slice f (n+1) g).ownBlock=v.ownBlock\/(Value.slice f (n+1) g).ownBlock=some w.heap.size)->wpList prog l Q rest (a.put o.dst (.slice f (n+1) g)) m):wpList prog l Q (o::rest) a w:=by
 obtain ⟨H,D,q,r,t⟩:=info_parts info5;obtain ⟨I,m,z,y,B,M⟩:=run_append_own (P:=prog) w base 24 o.type 5 H (.int .u8 0) 1 1 underlying24 D q r t rfl bb v n (zs.map (Value.int .u8)) i ad 1 c [.int .u8 b] rfl d (by simp [Value.oneCell']) et ab k;have G:=pW o.type i ad c b d hn z;have F:∃ f g,I=.slice f (n+1) g:=by
  rcases y.2 with ⟨_,J⟩|⟨L,cap,A,e,_⟩;·omega
  ·exact ⟨_,_,e⟩
 obtain ⟨f,g,rfl⟩:=F;refine wpList_plain p λK C=>?_;unfold Oper.wp execOp;simp only [E,resolve,invoke,builtin,Sem.run_bind,Sem.run_pure,Result.andThen_ok,List.map_toArray,List.map_cons,List.map_nil,hs,hx,z];exact C _ _ (h f g m (by rw [List.map_append];exact y) B G)
theorem uJ (w:World) (b:Int) (j:Nat) (u:Value) (h:[Value.int .u8 b][j]?=some u):(w.alloc (.cells #[.int .u8 b] 5)).cell? ((⟨w.heap.size,0,none⟩:Addr).add j)=some u:=by
 have c:j=0:=by
  rcases Nat.eq_zero_or_pos j with a|a;·exact a
  ·rw [List.getElem?_eq_none bh] at h;cases h
 subst c;rw [yz];simp only [List.getElem?_cons_zero,Option.some.injEq] at h;subst h;have e:=heap_alloc_new w (.cells #[.int .u8 b] 5);show (w.alloc (.cells #[.int .u8 b] 5)).cell? ⟨w.heap.size,0,none⟩=_;simp only [World.cell?,e];rfl
end Go.Proofs.YtjifdmoehfbihaaGreatDoor
namespace Go.Proofs.YtjifdmoehfbihaaGreatDoor
open Go.RowKit Tryz Go.Conc
set_option linter.unusedVariables false
theorem lN.refl (c:Nat) (w:World):lN c w w:=⟨rfl,λ_ _=>rfl,λ_ _ _ h=>h⟩
theorem lN.trans {c:Nat} {w w1 w2:World} (h:lN c w w1) (k:lN c w1 w2):lN c w w2:=⟨k.size.trans h.size,λj d=>(k.else_ j d).trans (h.else_ j d),λB a b e=>k.below B a b (h.below B a b e)⟩
theorem kS.push {c:Nat} {w wr w1 w3:World} {o:Obj} {row:Option Nat} (h:kS c (c+1) w wr) (m:c<w.heap.size) (f:lN c wr w1) (a:(w1.alloc o).grownBy w3 row) (hr:∀ k,row=some k->w.heap.size<=k):kS c (c+1) w w3:=by have b:=f.below c wr (Nat.le_refl _) (Below.refl _ _);have i:=a.size;have j:=f.size;have l:=h.size;rw [World.size_alloc] at i;refine ⟨a.os.trans (b.os.trans h.os),a.tape.trans (b.tape.trans h.tape),a.output.trans (b.output.trans h.output),ab,λk g d=>?_⟩;rw [a.block k ia (λe=>by have:=hr k e.symm;omega),Below.heap_alloc w1 o k ab,f.else_ k ab,h.block k g d]
theorem Ih {c cap:Nat} {a:List Value} {cl:Bool} {w1 w3:World} {o:Obj} {row:Option Nat} (h:dp w1 c cap a cl) (b:(w1.alloc o).grownBy w3 row) (hr:∀ k,row=some k->c<k):dp w3 c cap a cl :=
 pI h ((b.block c (by rw [World.size_alloc];have:=h.lt;omega) (λe=>by have:=hr c e.symm;omega)).trans (Below.heap_alloc w1 o c h.lt))
theorem xE (zs:List Int) (k:Nat) (h:k<zs.length):(zs.take k).map (Value.int .u8)++[.int .u8 (zs.getD k 0)]=(zs.take (k+1)).map (Value.int .u8):=by
 have a:zs.take (k+1)=zs.take k++[zs.getD k 0]:=by rw [List.take_succ_eq_append_getElem h];simp [List.getD,List.getElem?_eq_getElem h]
 rw [a,List.map_append];rfl
theorem Ii (zs:List Int) (k:Nat) (h:k<zs.length):(zs.drop k).map (Value.int .u8)=.int .u8 (zs.getD k 0)::(zs.drop (k+1)).map (Value.int .u8):=by rw [List.drop_eq_getElem_cons h,List.map_cons];simp [List.getD,List.getElem?_eq_getElem h]
theorem sn (c cap:Nat) (a:Option Addr) (n J:Nat) (zs:List Int) (f w:World) (hz:zs.length=n) (hn:n<=1048576) (d:n<=cap) (q:Sl .u8 f a zs) (m:Bw f w) (o:f.heap.size<=c) (C:dp w c cap [] false):Calls prog 293 #[.chan (some c),.slice a n J] w λe D=>e=.returned (.tuple #[])/\dp D c cap (zs.map (Value.int .u8)) false/\lN c w D:=by
 have B:Hid (Bw f w/\f.heap.size<=c):=⟨m,o⟩;have H:Hid (Sl .u8 f a zs):=q;have E:Hid (dp w c cap [] false):=C;have r:Hid (zs.length=n):=hz;have HR:Hid (n<=cap):=d;clear m o q C hz d;go_enter func293,ntmps293;go_wp2_with fail;go_loopw [8] (λi wr=>∃ k:Nat,k<=n/\i=.i k/\Hid (dp wr c cap ((zs.take k).map (Value.int .u8)) false)/\Hid (lN c w wr))
  (λi _=>n-(intOf i).toNat)
 case atStart=>exact ⟨0,Nat.zero_le _,rfl,E.out,lN.refl _ _⟩
 case round =>
  obtain ⟨k,M,rfl,g,j⟩:=hrel;by_cases u:k<n
  ·obtain ⟨b,A,rfl,I,p⟩:=H.out k (by rw [r.out];exact u);have K:wr.cell? ⟨b,A+k,none⟩=some (.int .u8 (zs.getD k 0)):=((j.out.below _ _ B.out.2 B.out.1).cell (by exact I)).trans p;clear p;have F:Hid ((zs.take k).map (Value.int .u8)++[.int .u8 (zs.getD k 0)]=(zs.take (k+1)).map (Value.int .u8)):=(by exact xE zs k (by have:=r.out;omega));have G:((zs.take k).map (Value.int .u8)).length<cap:=(by have:=r.out;have:=HR.out;simp;omega);go_upto_region 3 with fail
   refine gG ?_;intro L l;unfold mP;refine jQ rfl rfl ?_;simp [go_sem,Act.put];refine jQ rfl rfl ?_;simp [go_sem,Act.put];refine t8 (c:=c) (v:=.int .u8 (zs.getD k 0)) (z:=.tuple #[]) rfl rfl (by simp [go_sem,scase]) g.out G ?_;intro N s y;simp only [Act.put];refine mo (l.out _ _ _ ?_);clear l;go_wp2_with fail;go_roundw;case rel=>exact ⟨k+1,ab,by go_num,by rw [<- F.out];exact s,j.out.trans y⟩
   case measure=>simp [intOf];omega
  ·have t:k=n:=ab;subst t;rw [<- r.out,List.take_length] at g;go_wp2_with fail;refine bodyPost_end (results_none rfl _ _ _) rfl ?_;exact ⟨rfl,g.out,j.out⟩
theorem kG (c cap:Nat) (zs:List Int) (w:World) (hn:zs.length<=1048576) (M:dp w c cap (zs.map (Value.int .u8)) true):Calls prog 294 #[.chan (some c)] w λe N=>∃ (g:Option Addr) (j:Nat),e=.returned (.slice g zs.length j)/\N.ownsRow w.heap.size 5 1 (.slice g zs.length j) zs.length (zs.map (Value.int .u8))/\kS c (c+1) w N:=by
 have L:Hid (dp w c cap (zs.map (Value.int .u8)) true):=M
 have O:Hid (zs.length<=1048576):=hn
 clear M hn
 go_enter func294,ntmps294
 go_wp2_with fail
 go_loopw [3] (λy wr=>∃ (k:Nat) (g:Option Addr) (j:Nat),k<=zs.length/\y=.slice g k j/\Hid (wr.ownsRow w.heap.size 5 1 (.slice g k j) k ((zs.take k).map (Value.int .u8)))/\Hid (dp wr c cap ((zs.drop k).map (Value.int .u8)) true)/\Hid (kS c (c+1) w wr))
  (λ_ wr=>yw wr c)
 case atStart=>exact ⟨0,none,0,Nat.zero_le _,rfl,⟨rfl,.inl ⟨rfl,rfl⟩⟩,L.out,kS.refl _ _ _⟩
 case round =>
  obtain ⟨k,g,j,W,rfl,p,m,u⟩:=hrel
  by_cases E:k<zs.length
  ·have Q:=aD (xE zs k E)
   have d:dp wr c cap (.int .u8 (zs.getD k 0)::(zs.drop (k+1)).map (Value.int .u8)) true:=by rw [<- Ii zs k E];exact m.out
   have l:=aD d
   clear d m
   have s:=aD (L.out.lt)
   generalize zs.getD k 0=b at *
   refine wp_seq (gG ?_)
   intro S f
   unfold mP
   refine t9 (c:=c) (z:=.int .u8 0) true rfl rfl (by simp [go_sem,rcase]) l.out ?_
   intro G C o
   simp only [got,if_true]
   refine jQ rfl rfl ?_
   simp [go_sem,Act.put]
   refine mo (f.out _ _ _ ?_)
   clear f
   simp only [Exit.then]
   have P:Hid ((G.alloc (.cells #[.int .u8 b] 5)).ownsRow w.heap.size 5 1 (.slice g k j) k ((zs.take k).map (Value.int .u8))):=eB (fH p.out (λq e=>o.else_ q (by have:=(p.out.lt q e).1;have:=s.out;omega))) (bal _ _)
   have A:=aD (uJ G b)
   have T:=aD (show w.heap.size<=G.heap.size by rw [o.size];exact u.out.size)
   have H:=aD C
   have I:=aD o
   clear C o
   go_wp2_with (first
    | (at_builtin;refine yS rfl (.tmp 9) (.tmp 11) rfl w.heap.size k (.slice g k j) (zs.take k) rfl P.out (by have:=O.out;omega) ⟨G.heap.size,0,none⟩ 1 b rfl A.out (by have:=T.out;simp only [World.size_alloc];omega) ?_;intro U V X F B J;have R:=aD F;have K:=aD B;clear F B J))
   have r:∀ q,(Value.slice g k j).ownBlock=some q->w.heap.size<=q:=λq e=>(p.out.lt q e).1
   have D:=Ih H.out K.out (λq e=>Nat.lt_of_lt_of_le s.out (r q e))
   go_roundw
   case rel=>exact ⟨k+1,U,V,ab,rfl,(by rw [<- Q.out];have h:=R.out;rw [List.map_append] at h;exact h),D,u.out.push s.out I.out K.out r⟩
   case measure=>rw [D.len,l.out.len];simp
  ·have t:zs.length=k:=by omega
   have d:dp wr c cap [] true:=by
    have h:=m.out
    rw [<- t,List.drop_length] at h
    exact h
   have l:=aD d
   clear d m
   refine wp_seq (gG ?_)
   intro S f
   unfold mP
   refine ue (c:=c) (z:=.int .u8 0) true rfl rfl (by simp [go_sem,rcase]) l.out ?_
   simp only [got,if_true]
   refine jQ rfl rfl ?_
   simp [go_sem,Act.put]
   refine mo (f.out _ _ _ ?_)
   clear f
   simp only [Exit.then]
   go_wp2_with fail
   go_ret
   refine ⟨g,j,(by rw [t];rfl),?_,u.out⟩
   have h:=p.out
   rw [<- t,List.take_length] at h
   exact h
theorem Ke (a:Nat) (hm:a<=1048576) (w:World):(Instr.makeChan 303 (.i a)).run prog w=.ok (.chan (some w.heap.size)) (w.alloc (.chan a #[] false 0 0 false)):=by obtain ⟨f,c,d,e,b⟩:=info_parts info5;exact run_makeChan underlying303 c .i64 a ab (by rw [b];omega)
def g7 (zs:List Int) (b:Int) (a:Nat):List Int:=if zs.length<a then zs++[b] else zs
theorem pX {w w1 w2 w3:World} {o:Obj} {v:Value} {n:Nat} {xs:List Value} {c:Nat} (f:c=w.heap.size) (a:lN c (w.alloc o) w1) (b:lN c w1 w2) (d:kS c (c+1) w2 w3) (g:w3.ownsRow w2.heap.size 5 1 v n xs):w3.ownsRow w.heap.size 5 1 v n xs/\Bw w w3:=by subst f;have h:=a.size;have i:=b.size;have j:=d.size;rw [World.size_alloc] at h;have e:=b.below _ _ (Nat.le_refl _) (a.below _ _ (Nat.le_refl _) ((Below.refl w.heap.size w).alloc (Nat.le_refl _) o));exact ⟨cN g ab,e.trans (d.below (Nat.le_refl _) ab)⟩
theorem uK (a:Option Addr) (n Q d:Nat) (zs:List Int) (b:Int) (w:World) (hz:zs.length=n) (hm:d<=4096) (hn:n<=d) (r:Sl .u8 w a zs):Calls prog 292 #[.slice a n Q,.int .u8 b,.i d] w λe F=>∃ (t:Option Addr) (u:Nat),e=.returned (.slice t (g7 zs b d).length u)/\F.ownsRow w.heap.size 5 1 (.slice t (g7 zs b d).length u) (g7 zs b d).length ((g7 zs b d).map (Value.int .u8))/\Bw w F:=by
 have O:Hid (∀ p,Bw w p->dp p w.heap.size d [] false->Calls prog 293 #[.chan (some w.heap.size),.slice a n Q] p λe F=>e=.returned (.tuple #[])/\dp F w.heap.size d (zs.map (Value.int .u8)) false/\lN w.heap.size p F):=λp U W=>sn _ _ _ _ _ zs w p hz ab hn r U (Nat.le_refl _) W;have X:=Ke d ab;have M:Hid (∀ o,Bw w (w.alloc o)):=λo=>(Below.refl _ _).alloc (Nat.le_refl _) o;have N:Hid (∀ m,dp (w.alloc (.chan m #[] false 0 0 false)) w.heap.size m [] false):=λm=>⟨0,0,heap_alloc_new _ _⟩;by_cases G:n<d
 ·have s:Hid (g7 zs b d=zs++[b]):=(by show _=_;unfold g7;rw [hz,if_pos G]);have I:Hid ((g7 zs b d).length<=1048576):=(by show _<=_;rw [s.out];simp;omega);have R:Hid ((zs.map (Value.int .u8)).length<d):=(by show _<_;simp;omega);have S:Hid (zs.map (Value.int .u8)++[.int .u8 b]=(g7 zs b d).map (Value.int .u8)):=(by show _=_;rw [s.out,List.map_append];rfl);clear s;generalize g7 zs b d=V at *;have T:decide (n<d)=true:=bh;clear G r hz hn hm;go_enter func292,ntmps292;go_wp2_with fail;refine (O.out _ (M.out _) (N.out _)).mono ?_;rintro e p ⟨rfl,g,j⟩;have H:=aD g;have J:=aD j;clear g j;go_upto_region 4 with fail
  refine gG ?_;intro QC A;unfold mP;refine jQ rfl rfl ?_;simp [go_sem,Act.put];refine jQ rfl rfl ?_;simp [go_sem,Act.put];refine t8 (c:=w.heap.size) (v:=.int .u8 b) (z:=.tuple #[]) rfl rfl (by simp [go_sem,scase]) H.out R.out ?_;intro w2 B D;simp only [Act.put];refine mo (A.out _ _ _ ?_);clear A;obtain ⟨L,K,f,l⟩:=yx (P:=prog) B;rw [S.out] at f;have q:=aD (J.out.trans (D.trans l));have HR:=aD (kG w.heap.size d V L I.out f);clear B D f l;try simp only [Exit.then]
  go_wp2_with fail;refine (HR.out).mono ?_;rintro e Y ⟨t,u,rfl,E,C⟩;have y:=aD (pX rfl q.out (lN.refl _ _) C E);clear E C;go_wp2_with fail;go_ret;exact ⟨t,u,rfl,y.out.1,y.out.2⟩
 ·have s:Hid (g7 zs b d=zs):=(by show _=_;unfold g7;rw [hz,if_neg G]);have I:Hid (zs.length<=1048576):=(by show _<=_;omega);generalize g7 zs b d=V at *;have T:decide (n<d)=false:=bh;have Z:Hid (zs.length=n):=hz;clear G r hz hn hm;go_enter func292,ntmps292;go_wp2_with fail;refine (O.out _ (M.out _) (N.out _)).mono ?_;rintro e p ⟨rfl,g,j⟩;obtain ⟨L,K,f,l⟩:=yx (P:=prog) g;have q:=aD (j.trans l);have HR:=aD (kG w.heap.size d zs L I.out f);clear g j f l;go_wp2_with fail;refine (HR.out).mono ?_;rintro e Y ⟨t,u,rfl,E,C⟩;have y:=aD (pX rfl q.out (lN.refl _ _) C E);clear E C;go_wp2_with fail;go_ret;exact ⟨t,u,(by rw [s.out];rfl),(by rw [s.out];exact y.out.1),y.out.2⟩
theorem rp (a:Option Addr) (n J:Nat) (zs:List Int) (w:World) (hz:zs.length=n) (hn:n<=4096) (B:Sl .u8 w a zs):Calls prog 290 #[.slice a n J] w λe D=>∃ (r:Option Addr) (s:Nat),e=.returned (.tuple #[.int .u8 (zs.getD 0 0),.slice r (zs.drop 1).length s])/\D.ownsRow w.heap.size 5 1 (.slice r (zs.drop 1).length s) (zs.drop 1).length ((zs.drop 1).map (Value.int .u8))/\Bw w D:=by
 have I:Hid (∀ p,Bw w p->dp p w.heap.size n [] false->Calls prog 293 #[.chan (some w.heap.size),.slice a n J] p λe D=>e=.returned (.tuple #[])/\dp D w.heap.size n (zs.map (Value.int .u8)) false/\lN w.heap.size p D):=λp N O=>sn _ _ _ _ _ zs w p hz ab (Nat.le_refl _) B N (Nat.le_refl _) O;have Q:=Ke n ab;have G:Hid (∀ o,Bw w (w.alloc o)):=λo=>(Below.refl _ _).alloc (Nat.le_refl _) o;have H:Hid (∀ m,dp (w.alloc (.chan m #[] false 0 0 false)) w.heap.size m [] false):=λm=>⟨0,0,heap_alloc_new _ _⟩;have L:Hid ((zs.drop 1).length<=1048576):=by show _<=_;simp;omega
 clear B;cases zs with
 | nil =>
   clear hz hn;go_enter func290,ntmps290;go_wp2_with fail;refine (I.out _ (G.out _) (H.out _)).mono ?_;rintro e p ⟨rfl,d,g⟩;obtain ⟨K,F,f,j⟩:=yx (P:=prog) d;have q:=aD (g.trans j);have l:=aD f;clear d g f j;go_upto_region 4 with fail
   refine gG ?_;intro M b;unfold mP;refine jQ rfl rfl ?_;simp [go_sem,Act.put];refine ue (c:=w.heap.size) (z:=.int .u8 0) false rfl rfl (by simp [go_sem,rcase]) l.out ?_;simp [got];refine jQ rfl rfl ?_;simp [go_sem,Act.put];refine mo (b.out _ _ _ ?_);clear b;have HR:=aD (kG w.heap.size n [] K cp l.out);try simp only [Exit.then]
   go_wp2_with fail;refine (HR.out).mono ?_;rintro e S ⟨r,s,rfl,C,y⟩;have t:=aD (pX rfl q.out (lN.refl _ _) y C);clear C y;go_wp2_with fail;refine bodyPost_ret (results_tmp2 rfl _ _ _) rfl ?_;exact ⟨r,s,rfl,t.out.1,t.out.2⟩
 | cons z zs =>
   clear hz hn;go_enter func290,ntmps290;go_wp2_with fail;refine (I.out _ (G.out _) (H.out _)).mono ?_;rintro e p ⟨rfl,d,g⟩;obtain ⟨K,F,f,j⟩:=yx (P:=prog) d;have q:=aD (g.trans j);have l:=aD f;clear d g f j;go_upto_region 4 with fail
   refine gG ?_;intro M b;unfold mP;refine jQ rfl rfl ?_;simp [go_sem,Act.put];refine t9 (c:=w.heap.size) (z:=.int .u8 0) false rfl rfl (by simp [go_sem,rcase]) l.out ?_;intro R u A;have E:=aD (q.out.trans A);have HR:=aD (kG w.heap.size n zs R L.out u);clear u A;simp [got];refine jQ rfl rfl ?_;simp [go_sem,Act.put];refine mo (b.out _ _ _ ?_);clear b;try simp only [Exit.then]
   go_wp2_with fail;refine (HR.out).mono ?_;rintro e S ⟨r,s,rfl,C,y⟩;have t:=aD (pX rfl E.out (lN.refl _ _) y C);clear C y;go_wp2_with fail;refine bodyPost_ret (results_tmp2 rfl _ _ _) rfl ?_;exact ⟨r,s,rfl,t.out.1,t.out.2⟩
end Go.Proofs.YtjifdmoehfbihaaGreatDoor
