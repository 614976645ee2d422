/- Own lemmas. -/
import Derived.Test.YtbajeckeeekhnaaGreatK01
import Derived.Test.YtbajeckeeekhnaaGreatK05
import Derived.Test.YtbajeckeeekhnaaGreatK08
import Derived.Lib.Mul64
import Derived.Laws.BitsAllLaws
namespace Go.Proofs.YtbajeckeeekhnaaGreat
open Go.RowKit
set_option linter.unusedVariables false

def pc (p:Nat × Nat × Nat):List Value:=[.int .i64 p.1,.int .i64 p.2.1,.int .i64 p.2.2]

def rdV (f:Fm) (x:Int):Int:=if f.hasRd then fld x 7 5 else 0

def aV (f:Fm) (x:Int):Int:=if f.hasA then fld x 15 5 else 0

def bV (f:Fm) (x:Int):Int:=if f.hasB then fld x 20 5 else 0

theorem keep_some {w w':World} (hb:Below w.heap.size w w') {g:Nat} {o:Obj} (h:w.heap[g]?=some o):w'.heap[g]?=some o:=by
 rw [hb.block g ?_]
 ·exact h
 ·obtain ⟨h1,_⟩:=Array.getElem?_eq_some_iff.1 h;exact h1

theorem inst_one (a b c d e:Int):(#[Value.int .i64 a,.int .i64 b,.int .i64 c,.int .i64 d,.int .i64 e]:Array Value).all (·.oneCell')=true:=by
 simp [Value.oneCell']

theorem inst_size:(Tryz.prog.info? 63).map (·.size)=some 5:=by kernel_rfl

def rowOk (k:Nat) (r:Row):Bool:=decide (0≤r.op∧r.op < 128∧0≤r.more∧(k=97→r.fm=.r)∧(k=62∨k=73→r.fm=.a)) &&
 (match r.fm with
 | .r=>decide (r.more < 128∧0≤r.f3∧r.f3 < 8)
 | .w=>decide (r.more < 128∧0≤r.f3∧r.f3 < 8)
 | .h=>decide (r.more < 64∧0≤r.f3∧r.f3 < 8)
 | .a=>decide (r.more < 32∧0≤r.f3∧r.f3 < 8)
 | .x=>decide (r.more < 4096∧r.f3=0)
 | .u=>decide (r.more=0∧r.f3=-1)
 | .j=>decide (r.more=0∧r.f3=-1)
 | _=>decide (r.more=0∧0≤r.f3∧r.f3 < 8))

theorem rows_ok:∀ k,k < 98→rowOk k (rowAt k)=true:=by
 have h:(List.range 98).all (fun k=>rowOk k (rowAt k))=true:=by kernel_rfl
 intro k hk
 exact List.all_eq_true.1 h k (by simpa using hk)

def insAt (k:Nat) (x:Int):Ins:=⟨(k:Int)+1,rdV (rowAt k).fm x,aV (rowAt k).fm x,bV (rowAt k).fm x,immV (rowAt k).fm x⟩

def matchB (k:Nat) (x:Int):Bool:=decide (matchP k (rowAt k).fm (rowAt k).op (rowAt k).f3 (rowAt k).more x)

def findRow (x:Int):Nat→Nat→Option Nat
 | 0,_=>none
 | n+1,k=>if matchB k x=true then some k else findRow x n (k+1)

theorem findRow_hit (x:Int) (k:Nat) (hk:k < 98) (h:matchB k x=true):findRow x (98 - k) k=some k:=by
 rw [show 98 - k=(98 - (k+1))+1 from by omega,findRow,if_pos h]

theorem findRow_miss (x:Int) (k:Nat) (hk:k < 98) (h:matchB k x=false):findRow x (98 - k) k=findRow x (98 - (k+1)) (k+1):=by
 rw [show 98 - k=(98 - (k+1))+1 from by omega,findRow,if_neg (by rw [h];decide)]

def dec (x:Int):Option Ins:=if x < 4294967296 then (findRow x 98 0).map (fun k=>insAt k x) else none

def noIns:Ins:=⟨0,0,0,0,0⟩

def decV (x:Int):Value:=match dec x with
 | some i=>.tuple #[i.val,.bool true]
 | none=>.tuple #[noIns.val,.bool false]

theorem decV_far (x:Int) (h:¬ x < 4294967296):decV x=.tuple #[noIns.val,.bool false]:=by simp [decV,dec,h]

theorem decV_hit (x:Int) (k:Nat) (h:x < 4294967296) (hf:findRow x 98 0=some k):decV x=.tuple #[(insAt k x).val,.bool true]:=by simp [decV,dec,h,hf]

theorem decV_miss (x:Int) (h:x < 4294967296) (hf:findRow x 98 0=none):decV x=.tuple #[noIns.val,.bool false]:=by simp [decV,dec,h,hf]

def sh (b:Int):Nat:=(b % 64).toNat

def sh5 (b:Int):Nat:=(b % 32).toNat

theorem sh_eq (b:Int):b % 64=(sh b:Int):=by unfold sh;omega

theorem sh5_eq (b:Int):b % 32=(sh5 b:Int):=by unfold sh5;omega

theorem sh5_sh (b:Int):sh (b % 32)=sh5 b:=by unfold sh sh5;omega

theorem sh_lt (b:Int):sh b < 64:=by unfold sh;omega

theorem sh5_lt (b:Int):sh5 b < 32:=by unfold sh5;omega

inductive AF where | sum | slt | sltu | xor | or | and | sl | sr | sra | sub | mul | mulh | mulhsu | high | div | divu | rem | remu
deriving DecidableEq

def bitV (b:Bool):Int:=if b then 1 else 0

def highV (a b:Int):Int:=a*b / 18446744073709551616

def highSuV (a b:Int):Int:=if wrap64 a < 0 then IntKind.u64.wrap (highV a b - b) else highV a b

def highSV (a b:Int):Int:=if wrap64 b < 0 then IntKind.u64.wrap (highSuV a b - a) else highSuV a b

def AF.v:AF→Int→Int→Int
 | .sum,a,b=>IntKind.u64.wrap (a+b)
 | .sub,a,b=>IntKind.u64.wrap (a - b)
 | .xor,a,b=>bits .xor .u64 a b
 | .or,a,b=>bits .or .u64 a b
 | .and,a,b=>bits .and .u64 a b
 | .sl,a,b=>IntKind.u64.wrap (a*2 ^ sh b)
 | .sr,a,b=>a / 2 ^ sh b
 | .sra,a,b=>IntKind.u64.wrap (wrap64 a / 2 ^ sh b)
 | .slt,a,b=>bitV (decide (wrap64 a < wrap64 b))
 | .sltu,a,b=>bitV (decide (a < b))
 | .mul,a,b=>IntKind.u64.wrap (a*b)
 | .high,a,b=>highV a b
 | .mulhsu,a,b=>highSuV a b
 | .mulh,a,b=>highSV a b
 | .div,a,b=>if b=0 then 18446744073709551615 else IntKind.u64.wrap (wrap64 ((wrap64 a).tdiv (wrap64 b)))
 | .rem,a,b=>if b=0 then a else IntKind.u64.wrap ((wrap64 a).tmod (wrap64 b))
 | .divu,a,b=>if b=0 then 18446744073709551615 else IntKind.u64.wrap (a.tdiv b)
 | .remu,a,b=>if b=0 then a else a.tmod b

theorem wrap64_zero {b:Int} (h0:0≤b) (h1:b < 18446744073709551616):wrap64 b=0↔b=0:=by unfold wrap64;omega

theorem wrap64_ones {b:Int} (h0:0≤b) (h1:b < 18446744073709551616):wrap64 b=-1↔b=18446744073709551615:=by unfold wrap64;omega

theorem div_ones (a:Int) (h0:0≤a) (h1:a < 18446744073709551616):IntKind.u64.wrap (wrap64 ((wrap64 a).tdiv (-1)))=IntKind.u64.wrap (-a):=by
 rw [Int.tdiv_neg,Int.tdiv_one,IntKind.wrap_u64,IntKind.wrap_u64]
 unfold wrap64
 omega

theorem rem_ones (a:Int):IntKind.u64.wrap ((wrap64 a).tmod (-1))=0:=by
 rw [Int.tmod_neg,Int.tmod_one];rfl

theorem widen32 (x:Int):widen 32 x=if x % 4294967296 < 2147483648 then x % 4294967296 else x % 4294967296+18446744069414584320:=by
 have e:(2:Int) ^ (64 - 32)=4294967296:=by decide
 unfold widen
 rw [e,IntKind.wrap_u64,IntKind.wrap_u64]
 unfold wrap64
 split<;>omega

theorem widen32_mod {x y:Int} (h:x % 4294967296=y % 4294967296):widen 32 x=widen 32 y:=by rw [widen32,widen32,h]

theorem widen32_bd (x:Int):0≤widen 32 x∧widen 32 x < 18446744073709551616:=by rw [widen32];split<;>omega

theorem widen32_sgn (x:Int) : -2147483648≤wrap64 (widen 32 x)∧wrap64 (widen 32 x) < 2147483648:=by
 rw [widen32]
 unfold wrap64
 split<;>omega

theorem widen32_small (z:Int) (h0 : -2147483648≤z) (h1:z < 2147483648):widen 32 (IntKind.u64.wrap z)=IntKind.u64.wrap z:=by
 rw [widen32,IntKind.wrap_u64]
 split<;>omega

theorem mul_mod32 (a p:Int):(a % 4294967296*p) % 4294967296=a*p % 4294967296:=by
 rw [Int.mul_emod,Int.emod_emod_of_dvd _ (Int.dvd_refl _),← Int.mul_emod]

theorem wrap_mod32 (x:Int):IntKind.u64.wrap x % 4294967296=x % 4294967296:=by
 rw [IntKind.wrap_u64];omega

theorem div_pow_bd (z:Int) (h0 : -2147483648≤z) (h1:z < 2147483648) (n:Nat) : -2147483648≤z / 2 ^ n∧z / 2 ^ n < 2147483648:=by
 have hp:(0:Int) < 2 ^ n:=Int.pow_pos (by omega)
 constructor
 ·refine (Int.le_ediv_iff_mul_le hp).mpr ?_
  have:(1:Int)≤2 ^ n:=by omega
  have h2:(2147483648:Int)*1≤2147483648*2 ^ n:=Int.mul_le_mul_of_nonneg_left this (by omega)
  omega
 ·refine Int.ediv_lt_of_lt_mul hp ?_
  have:(1:Int)≤2 ^ n:=by omega
  have h2:(2147483648:Int)*1≤2147483648*2 ^ n:=Int.mul_le_mul_of_nonneg_left this (by omega)
  omega

inductive SD where | low | sgn | five
deriving DecidableEq

def SD.v:SD→Int→Int
 | .low,x=>x % 4294967296
 | .sgn,x=>widen 32 x
 | .five,x=>x % 32

inductive AO where | d (f:AF) | w (f:AF) (l r:SD)
deriving DecidableEq

def aos:List AO:=[
 .d .sum,.d .slt,.d .sltu,.d .xor,.d .or,.d .and,.d .sl,.d .sr,.d .sra,
 .w .sum .low .low,.w .sl .low .five,.w .sr .low .five,.w .sra .sgn .five,
 .d .sum,.d .sub,.d .sl,.d .slt,.d .sltu,.d .xor,.d .sr,.d .sra,.d .or,.d .and,
 .w .sum .low .low,.w .sub .low .low,.w .sl .low .five,.w .sr .low .five,.w .sra .sgn .five,
 .d .mul,.d .mulh,.d .mulhsu,.d .high,.d .div,.d .divu,.d .rem,.d .remu,
 .w .mul .low .low,.w .div .sgn .sgn,.w .divu .low .low,.w .rem .sgn .sgn,.w .remu .low .low]

def aoAt (k:Nat):AO:=aos.getD k (.d .sum)

def AO.v:AO→Int→Int→Int
 | .d f,a,b=>f.v a b
 | .w f l r,a,b=>widen 32 (f.v (l.v a) (r.v b))

def aluB (op:Int):Bool:=decide (22≤op∧op≤62)

def aluV (op a b:Int):Int:=if aluB op then (aoAt (op - 22).toNat).v a b else 0

/- The Ops of 32 bits,as the model reckons them. -/
theorem w_sum (a b:Int):widen 32 (IntKind.u64.wrap (a+b))=(AO.w .sum .low .low).v a b:=by
 refine widen32_mod ?_
 simp only [AF.v,SD.v,wrap_mod32]
 omega

theorem w_sub (a b:Int):widen 32 (IntKind.u64.wrap (a - b))=(AO.w .sub .low .low).v a b:=by
 refine widen32_mod ?_
 simp only [AF.v,SD.v,wrap_mod32]
 omega

theorem w_mul (a b:Int):widen 32 (IntKind.u64.wrap (a*b))=(AO.w .mul .low .low).v a b:=by
 refine widen32_mod ?_
 simp only [AF.v,SD.v,wrap_mod32]
 rw [mul_mod32,Int.mul_comm a (b % _),mul_mod32,Int.mul_comm]

theorem w_sl (a b:Int):widen 32 (IntKind.u64.wrap (a*2 ^ sh5 b))=(AO.w .sl .low .five).v a b:=by
 refine widen32_mod ?_
 simp only [AF.v,SD.v,wrap_mod32,sh5_sh]
 rw [mul_mod32]

theorem w_sr (a b:Int):widen 32 (a % 4294967296 / 2 ^ sh5 b)=(AO.w .sr .low .five).v a b:=by
 simp only [AO.v,AF.v,SD.v,sh5_sh]

theorem w_sra (a b:Int):IntKind.u64.wrap (wrap64 (widen 32 a) / 2 ^ sh5 b)=(AO.w .sra .sgn .five).v a b:=by
 simp only [AO.v,AF.v,SD.v,sh5_sh]
 have h:=widen32_sgn a
 have h2:=div_pow_bd _ h.1 h.2 (sh5 b)
 exact (widen32_small _ h2.1 h2.2).symm

theorem mask32 (a:Int) (h0:0≤a) (h1:a < 18446744073709551616):bits .and .u64 a 4294967295=a % 4294967296:=and_low a 32 h0 h1 (by omega)

theorem wrapS {x:Int} (h0:0≤x) (h1:x < 18446744073709551616):IntKind.u64.wrap x=x:=by rw [IntKind.wrap_u64];omega

theorem high_parts (a b:Int) (a0:0≤a) (a1:a < 18446744073709551616) (b0:0≤b) (b1:b < 18446744073709551616) :
 ∃ ll lh hl hh t u v:Int,
  IntKind.u64.wrap (a % 4294967296*(b % 4294967296))=ll∧IntKind.u64.wrap (a % 4294967296*(b / 4294967296))=lh ∧
  IntKind.u64.wrap (a / 4294967296*(b % 4294967296))=hl∧IntKind.u64.wrap (a / 4294967296*(b / 4294967296))=hh ∧
  IntKind.u64.wrap (hl+ll / 4294967296)=t∧bits .and .u64 t 4294967295=t % 4294967296∧IntKind.u64.wrap (t % 4294967296+lh)=u ∧
  IntKind.u64.wrap (hh+t / 4294967296)=v∧IntKind.u64.wrap (v+u / 4294967296)=highV a b:=by
 obtain ⟨A,rfl⟩:=Int.eq_ofNat_of_zero_le a0
 obtain ⟨B,rfl⟩:=Int.eq_ofNat_of_zero_le b0
 have hA:A < 18446744073709551616:=by omega
 have hB:B < 18446744073709551616:=by omega
 obtain ⟨bd,bt,bw,hhi⟩:=Lib.mul64_hi A B hA hB
 have ba:=Lib.half_mul_le (a:=A / 4294967296) (b:=B / 4294967296) (by omega) (by omega)
 have bb:=Lib.half_mul_le (a:=A / 4294967296) (b:=B % 4294967296) (by omega) (by omega)
 have bc:=Lib.half_mul_le (a:=A % 4294967296) (b:=B / 4294967296) (by omega) (by omega)
 have e1:((A:Int) % 4294967296*((B:Int) % 4294967296))=((A % 4294967296*(B % 4294967296):Nat):Int):=by simp
 have e2:((A:Int) % 4294967296*((B:Int) / 4294967296))=((A % 4294967296*(B / 4294967296):Nat):Int):=by simp
 have e3:((A:Int) / 4294967296*((B:Int) % 4294967296))=((A / 4294967296*(B % 4294967296):Nat):Int):=by simp
 have e4:((A:Int) / 4294967296*((B:Int) / 4294967296))=((A / 4294967296*(B / 4294967296):Nat):Int):=by simp
 have e5:highV A B=((A*B / 18446744073709551616:Nat):Int):=by simp [highV]
 rw [e1,e2,e3,e4,e5,← hhi]
 generalize A % 4294967296*(B % 4294967296)=ll at *
 generalize A % 4294967296*(B / 4294967296)=lh at *
 generalize A / 4294967296*(B % 4294967296)=hl at *
 generalize A / 4294967296*(B / 4294967296)=hh at *
 refine ⟨(ll:Int),(lh:Int),(hl:Int),(hh:Int),(hl:Int)+(ll:Int) / 4294967296,((hl:Int)+(ll:Int) / 4294967296) % 4294967296+(lh:Int),(hh:Int)+((hl:Int)+(ll:Int) / 4294967296) / 4294967296,
  wrapS (by omega) (by omega),wrapS (by omega) (by omega),wrapS (by omega) (by omega),wrapS (by omega) (by omega),wrapS (by omega) (by omega),mask32 _ (by omega) (by omega),wrapS (by omega) (by omega),wrapS (by omega) (by omega),?_⟩
 rw [wrapS (by omega) (by omega)]
 simp

theorem l3If_any (c:Bool) (w:World):Calls Tryz.prog 45 #[.bool c] w fun e w'=>e=.returned (.int .u64 (bitV c))∧w'=w:=by
 cases c
 all_goals go_enter Tryz.func45,Tryz.ntmps45
 all_goals go_wp2_with fail
 all_goals go_ret
 all_goals exact ⟨rfl,rfl⟩

theorem specHigh_any (a b:Int) (a0:0≤a) (a1:a < 18446744073709551616) (b0:0≤b) (b1:b < 18446744073709551616) (w:World) :
 Calls Tryz.prog 98 #[.int .u64 a,.int .u64 b] w fun e w'=>e=.returned (.int .u64 (highV a b))∧w'=w:=by
 obtain ⟨ll,lh,hl,hh,t,u,v,e1,e2,e3,e4,e5,e6,e7,e8,e9⟩:=high_parts b a b0 b1 a0 a1
 have ec:highV b a=highV a b:=by simp only [highV,Int.mul_comm]
 rw [Int.mul_comm] at e1 e2 e3 e4
 rw [Int.add_comm] at e7
 rw [ec] at e9
 clear ec
 have m1:=mask32 a a0 a1
 have m2:=mask32 b b0 b1
 go_enter Tryz.func98,Tryz.ntmps98
 go_wp2
 go_ret
 exact ⟨rfl,rfl⟩

def brB (op:Int):Bool:=decide (5≤op∧op≤10)

def brV (op a b:Int):Bool :=
 if op=5 then (a==b) else if op=6 then !(a==b) else if op=7 then decide (wrap64 a < wrap64 b) else if op=8 then !decide (wrap64 a < wrap64 b)
 else if op=9 then decide (a < b) else if op=10 then !decide (a < b) else false

theorem br_cases {op:Int} (h:brB op=true):op=5∨op=6∨op=7∨op=8∨op=9∨op=10:=by
 have:5≤op∧op≤10:=by simpa [brB] using h
 omega

theorem br_none {op:Int} (h:brB op=false) (a b:Int):brV op a b=false:=by
 have:¬ (5≤op∧op≤10):=by simpa [brB] using h
 unfold brV
 rw [if_neg (by omega),if_neg (by omega),if_neg (by omega),if_neg (by omega),if_neg (by omega),if_neg (by omega)]

theorem not_lt_ge (x y:Int):decide (y≤x)=!decide (x < y):=by
 by_cases h:x < y
 ·simp [h]
 ·simp [h];omega

set_option maxHeartbeats 800000 in
theorem specBranch_any (op a b:Int) (w:World) :
 Calls Tryz.prog 83 #[.int .i64 op,.int .u64 a,.int .u64 b] w fun e w'=>e=.returned (.tuple #[.bool (brV op a b),.bool (brB op)])∧w'=w:=by
 cases h:brB op with
 | false =>
   rw [br_none h]
   have hr:¬ (5≤op∧op≤10):=by simpa [brB] using h
   have d5:(op==5)=false:=by simp;omega
   have d6:(op==6)=false:=by simp;omega
   have d7:(op==7)=false:=by simp;omega
   have d8:(op==8)=false:=by simp;omega
   have d9:(op==9)=false:=by simp;omega
   have d10:(op==10)=false:=by simp;omega
   clear h hr
   go_enter Tryz.func83,Tryz.ntmps83
   go_wp2_with fail
   go_ret2
   exact ⟨rfl,rfl⟩
 | true =>
   have g1:=not_lt_ge (wrap64 a) (wrap64 b)
   have g2:=not_lt_ge a b
   have g3:(a != b)=!(a==b):=rfl
   obtain ⟨c1,h1⟩:∃ c,c=(a==b):=⟨_,rfl⟩
   obtain ⟨c2,h2⟩:∃ c,c=decide (wrap64 a < wrap64 b):=⟨_,rfl⟩
   obtain ⟨c3,h3⟩:∃ c,c=decide (a < b):=⟨_,rfl⟩
   have F:Hid (∀ op,brV op a b=if op=5 then c1 else if op=6 then !c1 else if op=7 then c2 else if op=8 then !c2 else if op=9 then c3 else if op=10 then !c3 else false):=by
    intro op;rw [h1,h2,h3];rfl
   rw [← h1] at g3
   rw [← h2] at g1
   rw [← h3] at g2
   have k1:=h1.symm
   have k2:=h2.symm
   have k3:=h3.symm
   clear h1 h2 h3
   rcases br_cases h with rfl | rfl | rfl | rfl | rfl | rfl
   all_goals
    go_enter Tryz.func83,Tryz.ntmps83
    go_wp2_with fail
    go_ret2
    exact ⟨by rw [F.out];rfl,rfl⟩

inductive MF where | second | sum | xor | and | or | smin | smax | umin | umax
deriving DecidableEq

def MF.v:MF→Int→Int→Int
 | .second,a,b=>b
 | .sum,a,b=>IntKind.u64.wrap (a+b)
 | .xor,a,b=>bits .xor .u64 a b
 | .and,a,b=>bits .and .u64 a b
 | .or,a,b=>bits .or .u64 a b
 | .smin,a,b=>if wrap64 b < wrap64 a then b else a
 | .smax,a,b=>if wrap64 a < wrap64 b then b else a
 | .umin,a,b=>if b < a then b else a
 | .umax,a,b=>if a < b then b else a

def mfs:List MF:=[.second,.sum,.xor,.and,.or,.smin,.smax,.umin,.umax]

def mfAt (k:Nat):MF:=mfs.getD k .second

def amoB (op:Int):Bool:=decide (65≤op∧op≤73)||decide (76≤op∧op≤84)

def amoV (op a b:Int):Int :=
 if 76≤op∧op≤84 then (mfAt (op - 76).toNat).v a b
 else if 65≤op∧op≤73 then (mfAt (op - 65).toNat).v (widen 32 a) (widen 32 b) % 4294967296 else 0

theorem wrap64_inj {a b:Int} (a0:0≤a) (a1:a < 18446744073709551616) (b0:0≤b) (b1:b < 18446744073709551616) (h:wrap64 a=wrap64 b):a=b:=by
 unfold wrap64 at h;omega

theorem widen64_id {u:Int} (h0:0≤u) (h1:u < 18446744073709551616):widen 64 u=u:=by
 have e:(2:Int) ^ (64 - 64)=1:=by decide
 unfold widen
 rw [e,IntKind.wrap_u64,IntKind.wrap_u64]
 unfold wrap64
 omega

theorem and_allA {u:Int} (h0:0≤u) (h1:u < 18446744073709551616):bits .and .u64 u 18446744073709551615=u:=by
 obtain ⟨n,rfl⟩:=Int.eq_ofNat_of_zero_le h0
 have h:=u64_and_nat n 18446744073709551615 (by omega) (by omega)
 have e:n &&& 18446744073709551615=n % 18446744073709551616:=Nat.and_two_pow_sub_one_eq_mod n 64
 rw [e] at h
 refine Eq.trans h ?_
 omega

theorem widen32_low (x:Int):widen 32 x % 4294967296=x % 4294967296:=by rw [widen32];split<;>omega

theorem widen32_of_low (x:Int):widen 32 (x % 4294967296)=widen 32 x:=widen32_mod (by omega)

theorem low_xor {a b:Int} (a0:0≤a) (a1:a < 18446744073709551616) (b0:0≤b) (b1:b < 18446744073709551616):bits .xor .u64 a b % 4294967296=bits .xor .u64 (a % 4294967296) (b % 4294967296):=by
 obtain ⟨n,rfl⟩:=Int.eq_ofNat_of_zero_le a0
 obtain ⟨m,rfl⟩:=Int.eq_ofNat_of_zero_le b0
 have h:=u64_xor_nat n m (by omega) (by omega)
 have h2:=u64_xor_nat (n % 4294967296) (m % 4294967296) (by omega) (by omega)
 have e:=@Nat.xor_mod_two_pow n m 32
 have e1:((n:Int) % 4294967296)=((n % 4294967296:Nat):Int):=by omega
 have e2:((m:Int) % 4294967296)=((m % 4294967296:Nat):Int):=by omega
 rw [h,e1,e2,h2]
 have e3:(n ^^^ m) % 4294967296=n % 4294967296 ^^^ m % 4294967296:=e
 rw [← e3];omega

theorem low_and {a b:Int} (a0:0≤a) (a1:a < 18446744073709551616) (b0:0≤b) (b1:b < 18446744073709551616):bits .and .u64 a b % 4294967296=bits .and .u64 (a % 4294967296) (b % 4294967296):=by
 obtain ⟨n,rfl⟩:=Int.eq_ofNat_of_zero_le a0
 obtain ⟨m,rfl⟩:=Int.eq_ofNat_of_zero_le b0
 have h:=u64_and_nat n m (by omega) (by omega)
 have h2:=u64_and_nat (n % 4294967296) (m % 4294967296) (by omega) (by omega)
 have e:=@Nat.and_mod_two_pow n m 32
 have e1:((n:Int) % 4294967296)=((n % 4294967296:Nat):Int):=by omega
 have e2:((m:Int) % 4294967296)=((m % 4294967296:Nat):Int):=by omega
 rw [h,e1,e2,h2]
 have e3:(n &&& m) % 4294967296=n % 4294967296 &&& m % 4294967296:=e
 rw [← e3];omega

theorem low_or {a b:Int} (a0:0≤a) (a1:a < 18446744073709551616) (b0:0≤b) (b1:b < 18446744073709551616):bits .or .u64 a b % 4294967296=bits .or .u64 (a % 4294967296) (b % 4294967296):=by
 obtain ⟨n,rfl⟩:=Int.eq_ofNat_of_zero_le a0
 obtain ⟨m,rfl⟩:=Int.eq_ofNat_of_zero_le b0
 have h:=u64_or_nat n m (by omega) (by omega)
 have h2:=u64_or_nat (n % 4294967296) (m % 4294967296) (by omega) (by omega)
 have e:=@Nat.or_mod_two_pow n m 32
 have e1:((n:Int) % 4294967296)=((n % 4294967296:Nat):Int):=by omega
 have e2:((m:Int) % 4294967296)=((m % 4294967296:Nat):Int):=by omega
 rw [h,e1,e2,h2]
 have e3:(n ||| m) % 4294967296=n % 4294967296 ||| m % 4294967296:=e
 rw [← e3];omega

theorem widen32_lt (a b:Int):widen 32 a < widen 32 b↔a % 4294967296 < b % 4294967296:=by
 rw [widen32,widen32];split<;>split<;>omega

theorem amo_wide {k:Nat} (hk:k < 9) (a b:Int):amoV ((k:Int)+76) a b=(mfAt k).v a b:=by
 have e:((k:Int)+76 - 76).toNat=k:=by omega
 simp only [amoV,e]
 rw [if_pos (by omega)]

theorem amo_low {k:Nat} (hk:k < 9) (a b:Int):amoV ((k:Int)+65) a b=(mfAt k).v (widen 32 a) (widen 32 b) % 4294967296:=by
 have e:((k:Int)+65 - 65).toNat=k:=by omega
 simp only [amoV,e]
 rw [if_neg (by omega),if_pos (by omega)]

theorem low_second (a b:Int):MF.second.v (widen 32 a) (widen 32 b) % 4294967296=b % 4294967296:=widen32_low b

theorem low_sum (a b:Int):MF.sum.v (widen 32 a) (widen 32 b) % 4294967296=IntKind.u64.wrap (a % 4294967296+b % 4294967296) % 4294967296:=by
 have h1:=widen32_low a
 have h2:=widen32_low b
 simp only [MF.v,wrap_mod32]
 omega

theorem low_xorV (a b:Int):MF.xor.v (widen 32 a) (widen 32 b) % 4294967296=bits .xor .u64 (a % 4294967296) (b % 4294967296):=by
 have h:=low_xor (widen32_bd a).1 (widen32_bd a).2 (widen32_bd b).1 (widen32_bd b).2
 rw [widen32_low,widen32_low] at h
 exact h

theorem low_andV (a b:Int):MF.and.v (widen 32 a) (widen 32 b) % 4294967296=bits .and .u64 (a % 4294967296) (b % 4294967296):=by
 have h:=low_and (widen32_bd a).1 (widen32_bd a).2 (widen32_bd b).1 (widen32_bd b).2
 rw [widen32_low,widen32_low] at h
 exact h

theorem low_orV (a b:Int):MF.or.v (widen 32 a) (widen 32 b) % 4294967296=bits .or .u64 (a % 4294967296) (b % 4294967296):=by
 have h:=low_or (widen32_bd a).1 (widen32_bd a).2 (widen32_bd b).1 (widen32_bd b).2
 rw [widen32_low,widen32_low] at h
 exact h

theorem low_pick (a b:Int) (c:Prop) [Decidable c]:(if c then widen 32 b else widen 32 a) % 4294967296=if c then b % 4294967296 else a % 4294967296:=by
 split<;>exact widen32_low _

theorem amo_none {op:Int} (h:amoB op=false) (a b:Int):amoV op a b=0:=by
 have h2:¬ (65≤op∧op≤73)∧¬ (76≤op∧op≤84):=by simpa [amoB] using h
 simp only [amoV]
 rw [if_neg h2.2,if_neg h2.1]

theorem amo_cases {op:Int} (h:amoB op=true):∃ k:Nat,k < 9∧(op=(k:Int)+76∨op=(k:Int)+65):=by
 have h2:(65≤op∧op≤73)∨(76≤op∧op≤84):=by simpa [amoB] using h
 rcases h2 with h2 | h2
 ·exact ⟨(op - 65).toNat,by omega,Or.inr (by omega)⟩
 ·exact ⟨(op - 76).toNat,by omega,Or.inl (by omega)⟩

/- The nine,as the model picks: of words,and of low halves. -/
theorem smin_eq {a b:Int} (a0:0≤a) (a1:a < 18446744073709551616) (b0:0≤b) (b1:b < 18446744073709551616):MF.smin.v a b=if wrap64 a < wrap64 b then a else b:=by
 simp only [MF.v]
 split<;>split
 ·omega
 ·rfl
 ·rfl
 ·exact wrap64_inj a0 a1 b0 b1 (by omega)

theorem umin_eq (a b:Int):MF.umin.v a b=if a < b then a else b:=by
 simp only [MF.v]
 split<;>split<;>omega

theorem low_smin (a b:Int):MF.smin.v (widen 32 a) (widen 32 b) % 4294967296=if wrap64 (widen 32 a) < wrap64 (widen 32 b) then a % 4294967296 else b % 4294967296:=by
 rw [smin_eq (widen32_bd a).1 (widen32_bd a).2 (widen32_bd b).1 (widen32_bd b).2]
 exact low_pick b a _

theorem low_smax (a b:Int):MF.smax.v (widen 32 a) (widen 32 b) % 4294967296=if wrap64 (widen 32 a) < wrap64 (widen 32 b) then b % 4294967296 else a % 4294967296:=low_pick a b _

theorem low_umin (a b:Int):MF.umin.v (widen 32 a) (widen 32 b) % 4294967296=if a % 4294967296 < b % 4294967296 then a % 4294967296 else b % 4294967296:=by
 rw [umin_eq,low_pick b a]
 simp only [widen32_lt]

theorem low_umax (a b:Int):MF.umax.v (widen 32 a) (widen 32 b) % 4294967296=if a % 4294967296 < b % 4294967296 then b % 4294967296 else a % 4294967296:=by
 rw [show MF.umax.v (widen 32 a) (widen 32 b)=if widen 32 a < widen 32 b then widen 32 b else widen 32 a from rfl,low_pick a b]
 simp only [widen32_lt]

end Go.Proofs.YtbajeckeeekhnaaGreat
