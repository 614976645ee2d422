/- Own lemmas. -/
import Derived.Test.YtkhofppmeoooaaaGreatDoorK03
import Derived.BigQuiet
namespace Go.Proofs.YtkhofppmeoooaaaGreatDoor
open Go.RowKit
set_option linter.unusedVariables false

theorem found_size:(Tryz.prog.info? 127).map (·.size)=some 5:=by kernel_rfl

theorem old_row (w:World) (o p:Obj):((w.alloc o).alloc p).heap[w.heap.size]?=some o:=(Below.heap_alloc _ _ _ (by simp)).trans (heap_alloc_new _ _)

theorem l7Page_any (k:Int) (h1:1≤k) (h3:k≤3) (w:World):Calls Tryz.prog 127 #[.int .i64 k] w fun e w'=>e=.returned (.agg (pageF k).cells)∧Below w.heap.size w w':=by
 have hk:k=1∨k=2∨k=3:=by omega
 rcases hk with rfl | rfl | rfl
 ·have F:(pageF 1).cells=#[.int .u64 0,.int .i64 12,.bool false,.int .u64 0,.int .u64 0]:=rfl
  rw [F]
  go_enter Tryz.func127,Tryz.ntmps127
  go_wp2_with fail
  exact bodyPost_ret (results_cell_row Tryz.results127 _ _ _ _ _ _ _ rfl (old_row _ _ _) Tryz.underlying127 rfl found_size) rfl ⟨rfl,((Below.refl _ _).alloc (Nat.le_refl _) _).alloc (by simp) _⟩
 ·have F:(pageF 2).cells=#[.int .u64 0,.int .i64 13,.bool false,.int .u64 0,.int .u64 0]:=rfl
  rw [F]
  go_enter Tryz.func127,Tryz.ntmps127
  go_wp2_with fail
  exact bodyPost_ret (results_cell_row Tryz.results127 _ _ _ _ _ _ _ rfl (old_row _ _ _) Tryz.underlying127 rfl found_size) rfl ⟨rfl,((Below.refl _ _).alloc (Nat.le_refl _) _).alloc (by simp) _⟩
 ·have F:(pageF 3).cells=#[.int .u64 0,.int .i64 15,.bool false,.int .u64 0,.int .u64 0]:=rfl
  rw [F]
  go_enter Tryz.func127,Tryz.ntmps127
  go_wp2_with fail
  exact bodyPost_ret (results_cell_row Tryz.results127 _ _ _ _ _ _ _ rfl (old_row _ _ _) Tryz.underlying127 rfl found_size) rfl ⟨rfl,((Below.refl _ _).alloc (Nat.le_refl _) _).alloc (by simp) _⟩

theorem l7Fault_any (k:Int) (h1:1≤k) (h3:k≤3) (w:World):Calls Tryz.prog 128 #[.int .i64 k] w fun e w'=>e=.returned (.agg (faultF k).cells)∧Below w.heap.size w w':=by
 have hk:k=1∨k=2∨k=3:=by omega
 rcases hk with rfl | rfl | rfl
 ·have F:(faultF 1).cells=#[.int .u64 0,.int .i64 1,.bool false,.int .u64 0,.int .u64 0]:=rfl
  rw [F]
  go_enter Tryz.func128,Tryz.ntmps128
  go_wp2_with fail
  exact bodyPost_ret (results_cell_row Tryz.results128 _ _ _ _ _ _ _ rfl (old_row _ _ _) Tryz.underlying127 rfl found_size) rfl ⟨rfl,((Below.refl _ _).alloc (Nat.le_refl _) _).alloc (by simp) _⟩
 ·have F:(faultF 2).cells=#[.int .u64 0,.int .i64 5,.bool false,.int .u64 0,.int .u64 0]:=rfl
  rw [F]
  go_enter Tryz.func128,Tryz.ntmps128
  go_wp2_with fail
  exact bodyPost_ret (results_cell_row Tryz.results128 _ _ _ _ _ _ _ rfl (old_row _ _ _) Tryz.underlying127 rfl found_size) rfl ⟨rfl,((Below.refl _ _).alloc (Nat.le_refl _) _).alloc (by simp) _⟩
 ·have F:(faultF 3).cells=#[.int .u64 0,.int .i64 7,.bool false,.int .u64 0,.int .u64 0]:=rfl
  rw [F]
  go_enter Tryz.func128,Tryz.ntmps128
  go_wp2_with fail
  exact bodyPost_ret (results_cell_row Tryz.results128 _ _ _ _ _ _ _ rfl (old_row _ _ _) Tryz.underlying127 rfl found_size) rfl ⟨rfl,((Below.refl _ _).alloc (Nat.le_refl _) _).alloc (by simp) _⟩

def effV (l:List Int) (p kind:Int):Int:=if ((kind != 1)&&(bitAt (l.getD 0 0) 17==1))=true then wrap64 (bits .and .u64 (l.getD 0 0 / 2048) 3) else p

def effB (n:Nat) (l:List Int) (p kind:Int):Int:=if (legalB n l p&&decide (1≤kind∧kind≤3))=true then effV l p kind else -1

theorem l7Effective_any (b off cap:Nat) (l:List Int) (p kind:Int) (w:World) (c0:w.cell? ⟨b,off,none⟩=some (.int .u64 (l.getD 0 0))) :
 Calls Tryz.prog 59 #[.slice (some ⟨b,off,none⟩) 22 cap,.int .i64 p,.int .i64 kind] w fun e w'=>e=.returned (.int .i64 (effV l p kind))∧w'=w:=by
 have HB:Hid (∀ w,Calls Tryz.prog 101 #[.int .u64 (l.getD 0 0),.int .u64 17] w fun e w'=>e=.returned (.int .u64 (bitAt (l.getD 0 0) 17))∧w'=w):=fun w=>l5Bit_any _ 17 (by omega) w
 have F:Hid (effV l p kind=if ((kind != 1)&&(bitAt (l.getD 0 0) 17==1))=true then wrap64 (bits .and .u64 (l.getD 0 0 / 2048) 3) else p):=(rfl:effV l p kind=_)
 generalize effV l p kind=v at *
 generalize bitAt (l.getD 0 0) 17=y at *
 generalize l.getD 0 0=x at *
 cases d1:(kind != 1) with
 | false =>
  have F2:Hid (v=p):=by show v=p;rw [F.out,d1,Bool.false_and];exact if_neg (by decide)
  clear F
  go_enter Tryz.func59,Tryz.ntmps59
  go_wp2_with fail
  go_ret
  exact ⟨by rw [F2.out];rfl,rfl⟩
 | true =>
  cases d2:(y==1) with
  | false =>
   have F2:Hid (v=p):=by show v=p;rw [F.out,d1,d2];exact if_neg (by decide)
   clear F
   go_enter Tryz.func59,Tryz.ntmps59
   go_wp2_with fail
   refine (HB.out _).mono ?_
   rintro e wx ⟨rfl,hwx⟩
   have hwy:=hwx.symm
   subst hwy
   go_wp2_with fail
   go_ret
   exact ⟨by rw [F2.out];rfl,rfl⟩
  | true =>
   have F2:Hid (v=wrap64 (bits .and .u64 (x / 2048) 3)):=by show v=_;rw [F.out,d1,d2];exact if_pos rfl
   clear F
   go_enter Tryz.func59,Tryz.ntmps59
   go_wp2_with fail
   refine (HB.out _).mono ?_
   rintro e wx ⟨rfl,hwx⟩
   have hwy:=hwx.symm
   subst hwy
   go_wp2_with fail
   go_ret
   exact ⟨by rw [F2.out];rfl,rfl⟩

def entryV (f b:Int):Int:=if (f / 17592186044416 != 0)=true then 0 else if decide (0≤b∧b≤255)=true then bits .or .u64 (IntKind.u64.wrap (f*1024)) (IntKind.u64.wrap b) else 0

theorem specEntry_any (f b:Int) (w:World):Calls Tryz.prog 110 #[.int .u64 f,.int .i64 b] w fun e w'=>e=.returned (.int .u64 (entryV f b))∧w'=w:=by
 have HI:Hid (∀ w,Calls Tryz.prog 55 #[.int .i64 b,.int .i64 0,.int .i64 255] w fun e w'=>e=.returned (.bool (decide (0≤b∧b≤255)))∧w'=w):=l1In_d b 0 255
 have F:Hid (entryV f b=if (f / 17592186044416 != 0)=true then 0 else if decide (0≤b∧b≤255)=true then bits .or .u64 (IntKind.u64.wrap (f*1024)) (IntKind.u64.wrap b) else 0):=(rfl:entryV f b=_)
 generalize entryV f b=v at *
 generalize decide (0≤b∧b≤255)=q at *
 cases d:(f / 17592186044416 != 0) with
 | true =>
  have F2:Hid (v=0):=by show v=0;rw [F.out,d];exact if_pos rfl
  clear F
  go_enter Tryz.func110,Tryz.ntmps110
  go_wp2_with fail
  go_ret
  exact ⟨by rw [F2.out];rfl,rfl⟩
 | false =>
  have F1:v=if q=true then bits .or .u64 (IntKind.u64.wrap (f*1024)) (IntKind.u64.wrap b) else 0:=by rw [F.out,d];exact if_neg (by decide)
  clear F
  cases q with
  | false =>
   have F2:Hid (v=0):=F1.trans (if_neg (by decide))
   clear F1
   go_enter Tryz.func110,Tryz.ntmps110
   go_wp2_with fail
   refine (HI.out _).mono ?_
   rintro e wx ⟨rfl,hwx⟩
   have hwy:=hwx.symm
   subst hwy
   go_wp2_with fail
   go_ret
   exact ⟨by rw [F2.out];rfl,rfl⟩
  | true =>
   have F2:Hid (v=bits .or .u64 (IntKind.u64.wrap (f*1024)) (IntKind.u64.wrap b)):=F1.trans (if_pos rfl)
   clear F1
   go_enter Tryz.func110,Tryz.ntmps110
   go_wp2_with fail
   refine (HI.out _).mono ?_
   rintro e wx ⟨rfl,hwx⟩
   have hwy:=hwx.symm
   subst hwy
   go_wp2_with fail
   go_ret
   exact ⟨by rw [F2.out];rfl,rfl⟩

theorem bitsAt_any (x:Int) (k n:Nat) (h0:0≤x) (h1:x < 18446744073709551616) (hk:k < 64) (hn:n < 64) (w:World) :
 Calls Tryz.prog 28 #[.int .u64 x,.int .i64 k,.int .i64 n] w fun e w'=>e=.returned (.int .u64 (fld x k n))∧w'=w.drew:=by
 have F:Hid (bits .and .u64 (x / 2 ^ k) (IntKind.u64.wrap (IntKind.u64.wrap (2 ^ n) - 1))=fld x k n):=bitsAt_eq x k n h0 h1 hn
 go_enter Tryz.func28,Tryz.ntmps28
 go_wp2_with fail
 go_region
 all_goals go_wp2_with fail
 all_goals go_ret
 all_goals exact ⟨by rw [← F.out];rfl,rfl⟩

theorem implWiden_any (x:Int) (n:Nat) (h1:1≤n) (h2:n≤64) (w:World) :
 Calls Tryz.prog 11 #[.int .u64 x,.int .i64 n] w fun e w'=>e=.returned (.int .u64 (widen n x))∧w'=w:=by
 have d1:decide ((n:Int) < 1)=false:=by simp;omega
 have d2:decide ((64:Int) < (n:Int))=false:=by simp;omega
 obtain ⟨m,hm,hm0⟩:∃ m:Nat,(64:Int) - (n:Int)=(m:Int)∧m=64 - n:=⟨64 - n,by omega,rfl⟩
 have F:Hid (IntKind.u64.wrap (wrap64 (IntKind.u64.wrap (x*2 ^ m)) / 2 ^ m)=widen n x):=by
  show _=_
  rw [hm0];rfl
 clear hm0
 go_enter Tryz.func11,Tryz.ntmps11
 go_wp2_with fail
 go_ret
 exact ⟨by rw [← F.out];rfl,rfl⟩

theorem l1Widen_any (x:Int) (n:Nat) (h1:1≤n) (h2:n≤64) (w:World) :
 Calls Tryz.prog 126 #[.int .u64 x,.int .u64 n] w fun e w'=>e=.returned (.int .u64 (widen n x))∧w'=w:=by
 obtain ⟨m,hm,hm0⟩:∃ m:Nat,(64:Int) - (n:Int)=(m:Int)∧m=64 - n:=⟨64 - n,by omega,rfl⟩
 have F:Hid (IntKind.u64.wrap (wrap64 (IntKind.u64.wrap (x*2 ^ m)) / 2 ^ m)=widen n x):=by
  show _=_
  rw [hm0];rfl
 clear hm0
 have hm2:IntKind.u64.wrap (m:Int)=m:=by rw [IntKind.wrap_u64];omega
 go_enter Tryz.func126,Tryz.ntmps126
 go_wp2_with fail
 go_ret
 exact ⟨by rw [← F.out];rfl,rfl⟩

def U (x:Int):Prop:=0≤x∧x < 18446744073709551616

def bt (x:Int) (i:Nat):Bool:=(BitVec.ofInt 64 x).getLsbD i

theorem U_wrap (x:Int):U (IntKind.u64.wrap x):=by
 rw [IntKind.wrap_u64];exact ⟨Int.emod_nonneg _ (by omega),Int.emod_lt_of_pos _ (by omega)⟩

theorem U_bits (o:BinOp) (x y:Int):U (bits o .u64 x y):=U_wrap _

theorem ofInt_wrap (x:Int):BitVec.ofInt 64 (IntKind.u64.wrap x)=BitVec.ofInt 64 x:=by
 rw [IntKind.wrap_u64]
 apply BitVec.eq_of_toInt_eq
 rw [BitVec.toInt_ofInt,BitVec.toInt_ofInt]
 exact Int.emod_bmod x (2 ^ 64)

theorem ofInt_bv (v:BitVec 64):BitVec.ofInt 64 (IntKind.u64.wrap (v.toNat:Int))=v:=by
 rw [ofInt_wrap]
 simp

theorem bt_and (x y:Int) (i:Nat):bt (bits .and .u64 x y) i=(bt x i&&bt y i):=by
 show (BitVec.ofInt 64 (IntKind.u64.wrap ((BitVec.ofInt 64 x &&& BitVec.ofInt 64 y).toNat:Int))).getLsbD i=_
 rw [ofInt_bv];simp [bt]

theorem bt_or (x y:Int) (i:Nat):bt (bits .or .u64 x y) i=(bt x i||bt y i):=by
 show (BitVec.ofInt 64 (IntKind.u64.wrap ((BitVec.ofInt 64 x ||| BitVec.ofInt 64 y).toNat:Int))).getLsbD i=_
 rw [ofInt_bv];simp [bt]

theorem bt_andNot (x y:Int) (i:Nat) (hi:i < 64):bt (bits .andNot .u64 x y) i=(bt x i&&!bt y i):=by
 show (BitVec.ofInt 64 (IntKind.u64.wrap ((BitVec.ofInt 64 x &&& ~~~BitVec.ofInt 64 y).toNat:Int))).getLsbD i=_
 rw [ofInt_bv];simp [bt,hi]

theorem bt_nat (x:Int) (h:U x) (i:Nat):bt x i=x.toNat.testBit i:=by
 obtain ⟨h0,h1⟩:=h
 obtain ⟨n,rfl⟩:=Int.eq_ofNat_of_zero_le h0
 have hn:n < 2 ^ 64:=by omega
 unfold bt
 rw [← BitVec.testBit_toNat,ofInt_u64 n (by omega),Int.toNat_natCast]

theorem bt_ext (x y:Int) (hx:U x) (hy:U y) (h:∀ i,i < 64→bt x i=bt y i):x=y:=by
 have e:BitVec.ofInt 64 x=BitVec.ofInt 64 y:=BitVec.eq_of_getLsbD_eq (fun i hi=>h i hi)
 have e2:=congrArg BitVec.toNat e
 obtain ⟨h0,h1⟩:=hx
 obtain ⟨h2,h3⟩:=hy
 obtain ⟨n,rfl⟩:=Int.eq_ofNat_of_zero_le h0
 obtain ⟨m,rfl⟩:=Int.eq_ofNat_of_zero_le h2
 rw [ofInt_u64 n (by omega),ofInt_u64 m (by omega)] at e2
 rw [e2]

theorem U_div (x:Int) (h:U x) (k:Nat):U (x / 2 ^ k):=by
 have hk:(0:Int) < 2 ^ k:=Int.pow_pos (by omega)
 exact ⟨Int.ediv_nonneg h.1 (by omega),Int.lt_of_le_of_lt (Int.ediv_le_self _ h.1) h.2⟩

theorem toNat_div (x:Int) (h:0≤x) (k:Nat):(x / 2 ^ k).toNat=x.toNat / 2 ^ k:=by
 obtain ⟨n,rfl⟩:=Int.eq_ofNat_of_zero_le h
 have:((n:Int) / 2 ^ k)=((n / 2 ^ k:Nat):Int):=by simp
 rw [this,Int.toNat_natCast,Int.toNat_natCast]

theorem bt_div (x:Int) (h:U x) (k i:Nat):bt (x / 2 ^ k) i=bt x (i+k):=by
 rw [bt_nat _ (U_div x h k),bt_nat _ h,toNat_div _ h.1,Nat.testBit_div_two_pow]

theorem bt_high (x:Int) (i:Nat) (hi:64≤i):bt x i=false:=by
 unfold bt
 exact BitVec.getLsbD_of_ge _ _ hi

theorem U_fld (x:Int) (k n:Nat) (hn:n < 64):U (fld x k n):=by
 have:=fld_bd x k n
 have h2:=pow_le n 63 (by omega)
 have e63:(2:Int) ^ 63=9223372036854775808:=by decide
 exact ⟨this.1,by omega⟩

theorem bt_fld (x:Int) (h:U x) (k n i:Nat) (hn:n < 64):bt (fld x k n) i=(decide (i < n)&&bt x (i+k)):=by
 rw [bt_nat _ (U_fld x k n hn),← bt_div x h,bt_nat _ (U_div x h k)]
 unfold fld
 have hd:=(U_div x h k).1
 obtain ⟨m,hm⟩:=Int.eq_ofNat_of_zero_le hd
 rw [hm]
 have:((m:Int) % 2 ^ n)=((m % 2 ^ n:Nat):Int):=by simp
 rw [this,Int.toNat_natCast,Int.toNat_natCast,Nat.testBit_mod_two_pow]

theorem bt_shl (y:Int) (h:U y) (k i:Nat):bt (IntKind.u64.wrap (y*2 ^ k)) i=(decide (k≤i)&&decide (i < 64)&&bt y (i - k)):=by
 rw [bt_nat _ (U_wrap _),bt_nat _ h]
 obtain ⟨n,rfl⟩:=Int.eq_ofNat_of_zero_le h.1
 rw [IntKind.wrap_u64]
 have e:((n:Int)*2 ^ k) % 18446744073709551616=((n*2 ^ k % 2 ^ 64:Nat):Int):=by simp
 rw [e,Int.toNat_natCast,Int.toNat_natCast,Nat.testBit_mod_two_pow,Nat.testBit_mul_two_pow]
 cases decide (i < 64)<;>cases decide (k≤i)<;>simp

def zeroF:Array Value:=#[.int .u64 0,.int .i64 0,.bool false,.int .u64 0,.int .u64 0]

theorem hid_mk {p:Prop} (h:p):Hid p:=h

theorem wrapU (x:Int):0≤IntKind.u64.wrap x∧IntKind.u64.wrap x < 18446744073709551616:=by
 rw [IntKind.wrap_u64];exact ⟨Int.emod_nonneg _ (by omega),Int.emod_lt_of_pos _ (by omega)⟩

theorem bit_two (x:Int) (i:Nat):bitAt x i=0∨bitAt x i=1:=by
 have h:∀ y:Int,bits .and .u64 y 1=0∨bits .and .u64 y 1=1:=by
  intro y
  have e1:∀ i,i < 64→∀ (p o:Bool),((if i=0 then p else o)&&bt 1 i)=bt (if p=true then 1 else 0) i:=by decide +kernel
  have e:bits .and .u64 y 1=if bt y 0=true then 1 else 0:=by
   refine bt_ext _ _ (U_bits _ _ _) (by split<;>(constructor<;>decide)) fun i hi=>?_
   rw [bt_and,← e1 i hi (bt y 0) (bt y i)]
   by_cases h0:i=0
   ·subst h0;rfl
   ·rw [if_neg h0]
  rw [e];cases bt y 0
  ·exact .inl rfl
  ·exact .inr rfl
 exact h _

theorem w_zero {x:Int} (h:x=0∨x=1) (e:(x==1)=false):(x==0)=true:=by
 rcases h with rfl | rfl
 ·rfl
 ·cases e

theorem okB_at {n:Nat} {x s:Int} (h:okB n x s=true):2147483648≤x∧x - 2147483648+s≤n:=by
 unfold okB at h
 simp only [Bool.and_eq_true,decide_eq_true_eq] at h
 exact h.2

theorem fd_one (f:Fd):f.cells.all (·.oneCell')=true:=by simp [Fd.cells,Value.oneCell']

set_option maxRecDepth 100000 in
set_option maxHeartbeats 12800000 in
theorem l7Walk_1 (ra:Option Addr) (n rcap:Nat) (zs:List Int) (b off cap:Nat) (l:List Int) (p va kind:Int) (w:World)
 (hr:ramOkB n=true) (hz:zs.length=n) (hs:Sl .u8 w ra zs) (hw8:∀ y ∈ zs,(Lit.int .u8 y).wf=true) (hlz:l.length=22) (hl:Sl .u64 w (some ⟨b,off,none⟩) l) (hp:privB p=true) (hk1:1≤kind) (hk3:kind≤3) (hva:0≤va∧va < 18446744073709551616) (hkK:kind=1) :
 Calls Tryz.prog 97 #[.slice ra n rcap,.slice (some ⟨b,off,none⟩) 22 cap,.int .i64 p,.int .u64 va,.int .i64 kind] w fun e w'=>e=.returned (.agg (walkV zs n l p va kind).cells)∧Below w.heap.size w w':=by
 have PG:Hid (∀ w,Calls Tryz.prog 127 #[.int .i64 kind] w fun e w'=>e=.returned (.agg (pageF kind).cells)∧Below w.heap.size w w'):=fun w=>l7Page_any kind hk1 hk3 w
 have FT:Hid (∀ w,Calls Tryz.prog 128 #[.int .i64 kind] w fun e w'=>e=.returned (.agg (faultF kind).cells)∧Below w.heap.size w w'):=fun w=>l7Fault_any kind hk1 hk3 w
 have HW39:Hid (∀ w,Calls Tryz.prog 126 #[.int .u64 va,.int .u64 39] w fun e w'=>e=.returned (.int .u64 (widen 39 va))∧w'=w):=fun w=>l1Widen_any va 39 (by omega) (by omega) w
 obtain ⟨b',off',eb,hblt,c0⟩:=hl 0 (by omega)
 simp only [Option.some.injEq,Addr.mk.injEq,and_true] at eb
 obtain ⟨rfl,rfl⟩:=eb
 obtain ⟨b',off',eb,_,c15⟩:=hl 15 (by omega)
 simp only [Option.some.injEq,Addr.mk.injEq,and_true] at eb
 obtain ⟨rfl,rfl⟩:=eb
 have c0:w.cell? ⟨b,off,none⟩=some (.int .u64 (l.getD 0 0)):=c0
 have TOP:Hid (walkV zs n l p va kind=if ((p==3)||(l.getD 15 0 / 1152921504606846976==0))=true then ⟨va,0,false,0,0⟩ else if (widen 39 va != va)=true then pageF kind else walkL zs n l p va kind 2 (IntKind.u64.wrap (bits .and .u64 (l.getD 15 0) 17592186044415*4096))):=(rfl:walkV zs n l p va kind=_)
 obtain ⟨V,hV⟩:∃ V,walkV zs n l p va kind=V:=⟨_,rfl⟩
 rw [hV] at TOP ⊢
 have HSL:Hid (Sl .u64 w (some ⟨b,off,none⟩) l):=hl
 have HRS:Hid (Sl .u8 w ra zs):=hs
 have HZ:Hid (zs.length=n):=hz
 have HW8:Hid (∀ y ∈ zs,(Lit.int .u8 y).wf=true):=hw8
 have HRAM:Hid (ramOkB n=true):=hr
 have HLZ:Hid (l.length=22):=hlz
 have HVA:Hid (0≤va∧va < 18446744073709551616):=hva
 have HKK:Hid (kind=1):=hkK
 clear hkK
 have HK:Hid (kind=1∨kind=2∨kind=3):=by show _∨_;omega
 have HPV:Hid (p=0∨p=1∨p=3):=by show _∨_;simpa [privB,or_assoc] using hp
 have hle22:∀ o,(w.alloc o).cell? ⟨b,off,none⟩=some (.int .u64 (l.getD 0 0)):=fun o=>(((Below.refl _ _).alloc (Nat.le_refl _) o).cell (by exact hblt)).trans c0
 have hle15:∀ o,(w.alloc o).cell? ⟨b,off+15,none⟩=some (.int .u64 (l.getD 15 0)):=fun o=>(((Below.refl _ _).alloc (Nat.le_refl _) o).cell (by exact hblt)).trans c15
 have HBL0:Hid (b < w.heap.size):=hblt
 clear hV hl hs hz hw8 hr hlz hva hp hk1 hk3
 generalize hx0:l.getD 0 0=x0 at *
 generalize l.getD 15 0=x15 at *
 have HX0:Hid (l.getD 0 0=x0):=hx0
 clear hx0
 cases d3:(p==3) with
 | true =>
  have FH:Hid (V=⟨va,0,false,0,0⟩):=by show V=_;rw [TOP.out,d3,Bool.true_or];exact if_pos rfl
  go_enter Tryz.func97,Tryz.ntmps97
  go_wp2_with fail
  exact bodyPost_ret (results_cell_row Tryz.results97 _ _ _ _ _ _ _ rfl (heap_alloc_new _ _) Tryz.underlying127 rfl found_size) rfl ⟨by rw [FH.out];rfl,(Below.refl _ _).alloc (Nat.le_refl _) _⟩
 | false =>
  cases d60:(x15 / 1152921504606846976==0) with
  | true =>
   have FH:Hid (V=⟨va,0,false,0,0⟩):=by show V=_;rw [TOP.out,d3,d60];exact if_pos rfl
   go_enter Tryz.func97,Tryz.ntmps97
   go_wp2_with fail
   exact bodyPost_ret (results_cell_row Tryz.results97 _ _ _ _ _ _ _ rfl (heap_alloc_new _ _) Tryz.underlying127 rfl found_size) rfl ⟨by rw [FH.out];rfl,(Below.refl _ _).alloc (Nat.le_refl _) _⟩
  | false =>
   have TOP2:Hid (V=if (widen 39 va != va)=true then pageF kind else walkL zs n l p va kind 2 (IntKind.u64.wrap (bits .and .u64 x15 17592186044415*4096))):=by show V=_;rw [TOP.out,d3,d60];exact if_neg (by decide)
   clear TOP
   generalize widen 39 va=wv at *
   go_enter Tryz.func97,Tryz.ntmps97
   go_wp2_with fail
   have R1:Hid ((w.alloc (.cells #[.int .u64 0,.int .i64 0,.bool false,.int .u64 0,.int .u64 0] 127)).heap[w.heap.size]?=some (.cells zeroF 127 (0,0))):=heap_alloc_new _ _
   have B1:Hid (Below w.heap.size w (w.alloc (.cells #[.int .u64 0,.int .i64 0,.bool false,.int .u64 0,.int .u64 0] 127))):=(Below.refl _ _).alloc (Nat.le_refl _) _
   have G0:Hid (w.heap.size < (w.alloc (.cells #[.int .u64 0,.int .i64 0,.bool false,.int .u64 0,.int .u64 0] 127)).heap.size):=by show _ < _;simp
   have C0:=hle22 (.cells #[.int .u64 0,.int .i64 0,.bool false,.int .u64 0,.int .u64 0] 127)
   have C15:=hle15 (.cells #[.int .u64 0,.int .i64 0,.bool false,.int .u64 0,.int .u64 0] 127)
   clear hle22 hle15 c0 c15
   generalize w.alloc (.cells #[.int .u64 0,.int .i64 0,.bool false,.int .u64 0,.int .u64 0] 127)=w1 at *
   have G1:Hid (w.heap.size≤w.heap.size):=Nat.le_refl _
   obtain ⟨g0,hg0⟩:∃ g0,w.heap.size=g0:=⟨_,rfl⟩
   have RS1:Hid (Sl .u8 w1 ra zs):=HRS.out.below B1.out
   have SL1:Hid (Sl .u64 w1 (some ⟨b,off,none⟩) l):=HSL.out.below B1.out
   have HBL:Hid (b < w1.heap.size):=Nat.lt_of_lt_of_le HBL0.out B1.out.size
   clear HRS HSL
   rw [hg0] at R1 G0
   rw [hg0]
   have G1:Hid (w.heap.size≤g0):=by show _≤_;omega
   refine (HW39.out _).mono ?_
   rintro e6 wx ⟨rfl,hwx⟩
   have hwy:=hwx.symm
   subst hwy
   cases d39:(wv != va) with
   | true =>
    have F:V=pageF kind:=by rw [TOP2.out,d39];exact if_pos rfl
    have FH:Hid (V=pageF kind):=F
    clear F
    go_wp2_with fail
    refine (PG.out _).mono ?_
    rintro e5 w5 ⟨rfl,hb5⟩
    have R5:=(hb5.block g0 G0.out).trans R1.out
    go_wp2_with (refine wpList_store_rowTo rfl 127 (.tmp 10) (.tmp 40) rfl rfl g0 (pageF kind).cells rfl rfl 127 zeroF R5 (by rw [found_size];rfl) rfl (fd_one _) ?_)
    exact bodyPost_ret (results_cell_row Tryz.results97 _ _ _ _ _ _ _ rfl (setRow_heap _ _ _ _ _ _ R5) Tryz.underlying127 rfl (by rw [found_size];rfl)) rfl ⟨by rw [FH.out],below_setRow (below_trans B1.out hb5) G1.out _⟩
   | false =>
    have TOP3:Hid (walkL zs n l p va kind 2 (IntKind.u64.wrap (bits .and .u64 x15 17592186044415*4096))=V):=by show _=V;rw [TOP2.out,d39];rfl
    clear TOP2
    go_wp2_with fail
    go_loopw [11,12] (fun s t wr=>∃ (lv:Nat) (T:Int),lv≤2∧s=.int .u64 T∧t=.int .u64 lv∧Hid (0≤T∧T < 18446744073709551616)∧Hid (walkL zs n l p va kind lv T=V)∧wr=w1) (fun _ t _=>(intOf t).toNat)
    case atStart=>exact ⟨2,_,by omega,rfl,rfl,⟨(wrapU _).1,(wrapU _).2⟩,TOP3,rfl⟩
    case round =>
     obtain ⟨lv,T,hlv,rfl,rfl,hT,hf,hwr⟩:=hrel
     have hwr2:=hwr.symm
     subst hwr2
     have STEP0:=walkL_step zs n l p va kind lv T
     rw [hf.out] at STEP0
     obtain ⟨X,hX⟩:∃ X,pteAt T va lv=X:=⟨_,rfl⟩
     have hXu:0≤X∧X < 18446744073709551616:=by rw [← hX];exact wrapU _
     rw [hX] at STEP0
     obtain ⟨e,he⟩:∃ e,pteV zs X=e:=⟨_,rfl⟩
     obtain ⟨fr,hfr⟩:∃ fr,frameV e=fr:=⟨_,rfl⟩
     obtain ⟨pr,hpr0⟩:∃ pr,permRest l 1 X (lastOf X 8) 2 4 0=pr:=⟨_,rfl⟩
     rw [he,hfr,hpr0] at STEP0
     obtain ⟨n9,hn9⟩:∃ n9:Nat,9*lv=n9:=⟨_,rfl⟩
     obtain ⟨n12,hn12⟩:∃ n12:Nat,12+n9=n12:=⟨_,rfl⟩
     have f9:IntKind.u64.wrap (9*(lv:Int))=(n9:Int):=by rw [IntKind.wrap_u64];omega
     have f12:IntKind.u64.wrap (12+(n9:Int))=(n12:Int):=by rw [IntKind.wrap_u64];omega
     have g9:9*(lv:Int)=(n9:Int):=by omega
     have g12:12+(n9:Int)=(n12:Int):=by omega
     have hXv:IntKind.u64.wrap (T+IntKind.u64.wrap (8*bits .and .u64 (va / 2 ^ n12) 511))=X:=by rw [← hX,← hn12,← hn9];rfl
     have HIN:Hid (∀ w,Calls Tryz.prog 60 #[.slice ra n rcap,.int .u64 X,.int .i64 8] w fun e w'=>e=.returned (.bool (okB n X 8))∧w'=w):=fun w=>inside_any ra n rcap X 8 w HRAM.out rfl hXu.1 (by omega)
     have HPR:Hid (Calls Tryz.prog 58 #[.slice (some ⟨b,off,none⟩) 22 cap,.int .i64 1,.int .u64 X,.int .i64 8,.int .i64 2] w1 fun e w'=>e=.returned (.bool pr)∧w'=w1):=by
      have h:=l6Permits_any (some ⟨b,off,none⟩) cap l 1 X 8 2 w1 HLZ.out SL1.out
      rw [hpr0] at h
      exact h
     have HP3:Hid (∀ o,Calls Tryz.prog 58 #[.slice (some ⟨b,off,none⟩) 22 cap,.int .i64 1,.int .u64 X,.int .i64 8,.int .i64 3] (w1.alloc o) fun e w'=>e=.returned (.bool (permRest l 1 X (lastOf X 8) 3 4 0))∧w'=w1.alloc o):=fun o=>l6Permits_any (some ⟨b,off,none⟩) cap l 1 X 8 3 (w1.alloc o) HLZ.out (SL1.out.below ((Below.refl _ _).alloc (Nat.le_refl _) _))
     have HLD:Hid (okB n X 8=true→Calls Tryz.prog 61 #[.slice ra n rcap,.int .u64 X,.int .i64 8] w1 fun e' w'=>e'=.returned (.int .u64 e)∧w'=w1):=by
      intro hok
      obtain ⟨f,hfX⟩:∃ f:Nat,X=2147483648+(f:Int):=⟨(X - 2147483648).toNat,by have:=okB_at hok;omega⟩
      have hfn:=okB_at hok
      have hb65:=ramOkB_bd HRAM.out
      have h:=l1Load_any ra n rcap f 8 zs w1 HZ.out (by omega) RS1.out HW8.out (by omega) (by omega) (by omega)
      have e2:le zs f 8=e:=by rw [← he];unfold pteV;rw [hfX,show (2147483648+(f:Int) - 2147483648).toNat=f from by omega]
      rw [e2,← hfX] at h
      exact h
     have HB:∀ (i:Nat),i < 64→∀ w,Calls Tryz.prog 101 #[.int .u64 e,.int .u64 i] w fun e' w'=>e'=.returned (.int .u64 (bitAt e i))∧w'=w:=fun i hi w=>l5Bit_any e i hi w
     have HB1:Hid (∀ w,Calls Tryz.prog 101 #[.int .u64 e,.int .u64 1] w fun e' w'=>e'=.returned (.int .u64 (bitAt e 1))∧w'=w):=HB 1 (by omega)
     have HB2:Hid (∀ w,Calls Tryz.prog 101 #[.int .u64 e,.int .u64 2] w fun e' w'=>e'=.returned (.int .u64 (bitAt e 2))∧w'=w):=HB 2 (by omega)
     have HB3:Hid (∀ w,Calls Tryz.prog 101 #[.int .u64 e,.int .u64 3] w fun e' w'=>e'=.returned (.int .u64 (bitAt e 3))∧w'=w):=HB 3 (by omega)
     have HB4:Hid (∀ w,Calls Tryz.prog 101 #[.int .u64 e,.int .u64 4] w fun e' w'=>e'=.returned (.int .u64 (bitAt e 4))∧w'=w):=HB 4 (by omega)
     have HB19:Hid (∀ w,Calls Tryz.prog 101 #[.int .u64 x0,.int .u64 19] w fun e' w'=>e'=.returned (.int .u64 (bitAt x0 19))∧w'=w):=fun w=>l5Bit_any x0 19 (by omega) w
     have HB18:Hid (∀ w,Calls Tryz.prog 101 #[.int .u64 x0,.int .u64 18] w fun e' w'=>e'=.returned (.int .u64 (bitAt x0 18))∧w'=w):=fun w=>l5Bit_any x0 18 (by omega) w
     have STEP:Hid (V=(if okB n X 8=true then (if pr=true then (if ((bits .and .u64 e 1==0)||((bitAt e 1==0)&&(bitAt e 2==1))||(e / 18014398509481984 != 0))=true then pageF kind else if ((bitAt e 1==0)&&(bitAt e 3==0))=true then (if (((lv:Int)==0)||(bits .and .u64 (e / 16) 1==1)||(bits .and .u64 (e / 64) 3 != 0))=true then pageF kind else walkL zs n l p va kind (lv - 1) (IntKind.u64.wrap (fr*4096))) else leafV l p va kind e X lv) else faultF kind) else faultF kind)):=STEP0
     have hfrv:bits .and .u64 (e / 1024) 17592186044415=fr:=hfr
     obtain ⟨lo,hlo⟩:∃ lo,lowM n9=lo:=⟨_,rfl⟩
     obtain ⟨sz,hsz⟩:∃ sz,lowM n12=sz:=⟨_,rfl⟩
     have hlov:IntKind.u64.wrap (IntKind.u64.wrap (2 ^ n9) - 1)=lo:=hlo
     have hszv:IntKind.u64.wrap (IntKind.u64.wrap (2 ^ n12) - 1)=sz:=hsz
     obtain ⟨ld,hld⟩:∃ ld,bits .or .u64 (bits .andNot .u64 (IntKind.u64.wrap (fr*4096)) sz) (bits .and .u64 va sz)=ld:=⟨_,rfl⟩
     have hldv:leadV e va lv=ld:=by unfold leadV;rw [hfr,hn9,hn12,hsz];exact hld
     have LEAF0:Hid (leafV l p va kind e X lv=if (bits .and .u64 fr lo != 0)=true then pageF kind else if (((kind==1)&&(bitAt e 3==0))||((kind==2)&&(bitAt e 1==0)&&((bitAt e 3==0)||(bitAt x0 19==0)))||((kind==3)&&(bitAt e 2==0)))=true then pageF kind else if (((p==0)&&(bitAt e 4==0))||((p==1)&&(bitAt e 4==1)&&((kind==1)||(bitAt x0 18==0))))=true then pageF kind else if ((if (kind==3)=true then bits .or .u64 (bits .or .u64 e 64) 128 else bits .or .u64 e 64) != e)=true then (if permRest l 1 X (lastOf X 8) 3 4 0=true then ⟨ld,0,true,X,if (kind==3)=true then bits .or .u64 (bits .or .u64 e 64) 128 else bits .or .u64 e 64⟩ else faultF kind) else ⟨ld,0,false,0,0⟩):=by
      show _=_
      unfold leafV offB noKind noPriv wantV
      rw [hfr,hn9,hlo,hldv,HX0.out]
     have HWW:Hid (bitAt e 2=0∨bitAt e 2=1):=bit_two e 2
     have R1A:Hid (∀ o,(w1.alloc o).heap[g0]?=some (.cells zeroF 127 (0,0))):=fun o=>(Below.heap_alloc _ _ _ G0.out).trans R1.out
     have B1A:Hid (∀ o,Below w.heap.size w (w1.alloc o)):=fun o=>B1.out.alloc B1.out.size _
     have G0A:Hid (∀ o,g0 < (w1.alloc o).heap.size):=fun o=>by have:=G0.out;simp;omega
     have C0A:∀ o,(w1.alloc o).cell? ⟨b,off,none⟩=some (.int .u64 x0):=fun o=>(((Below.refl _ _).alloc (Nat.le_refl _) o).cell (by exact HBL.out)).trans C0
     clear STEP0 HB hX he hlo hsz hldv hfr hn9 hn12 hpr0
     generalize bitAt e 1=r at *
     generalize bitAt e 2=ww at *
     generalize bitAt e 3=x at *
     generalize bitAt e 4=u at *
     generalize bitAt x0 19=m19 at *
     generalize bitAt x0 18=m18 at *
     generalize permRest l 1 X (lastOf X 8) 3 4 0=pr3 at *
     generalize okB n X 8=ok at *
     go_wp2_with fail
     refine (HIN.out _).mono ?_
     rintro e6 wx ⟨rfl,hwx⟩
     have hwy:=hwx.symm
     subst hwy
     cases hok:ok with
     | true =>
      have hld:=HLD.out hok
      have HLD2:Hid (Calls Tryz.prog 61 #[.slice ra n rcap,.int .u64 X,.int .i64 8] w1 fun e' w'=>e'=.returned (.int .u64 e)∧w'=w1):=hld
      clear hld HLD
      go_wp2_with fail
      refine HPR.out.mono ?_
      rintro e6 wx ⟨rfl,hwx⟩
      have hwy:=hwx.symm
      subst hwy
      cases hpr:pr with
      | true =>
       go_wp2_with fail
       refine HLD2.out.mono ?_
       rintro e6 wx ⟨rfl,hwx⟩
       have hwy:=hwx.symm
       subst hwy
       go_wp2_with fail
       refine (HB1.out _).mono ?_
       rintro e6 wx ⟨rfl,hwx⟩
       have hwy:=hwx.symm
       subst hwy
       go_wp2_with fail
       refine (HB2.out _).mono ?_
       rintro e6 wx ⟨rfl,hwx⟩
       have hwy:=hwx.symm
       subst hwy
       go_wp2_with fail
       refine (HB3.out _).mono ?_
       rintro e6 wx ⟨rfl,hwx⟩
       have hwy:=hwx.symm
       subst hwy
       cases hA:(bits .and .u64 e 1==0) with
       | true =>
        have F:V=pageF kind:=by rw [STEP.out,hok,hpr,hA];rfl
        have FH:Hid (V=pageF kind):=F
        clear F
        go_wp2_with fail
        refine (PG.out _).mono ?_
        rintro e5 w5 ⟨rfl,hb5⟩
        have R5:=(hb5.block g0 G0.out).trans R1.out
        go_wp2_with (refine wpList_store_rowTo rfl 127 (.tmp 10) (.tmp 95) rfl rfl g0 (pageF kind).cells rfl rfl 127 zeroF R5 (by rw [found_size];rfl) rfl (fd_one _) ?_)
        exact bodyPost_ret (results_cell_row Tryz.results97 _ _ _ _ _ _ _ rfl (setRow_heap _ _ _ _ _ _ R5) Tryz.underlying127 rfl (by rw [found_size];rfl)) rfl ⟨by rw [FH.out],below_setRow (below_trans B1.out hb5) G1.out _⟩
       | false =>
        cases hR:(r==0) with
        | true =>
         cases hW:(ww==1) with
         | true =>
          have F:V=pageF kind:=by rw [STEP.out,hok,hpr,hA,hR,hW];rfl
          have FH:Hid (V=pageF kind):=F
          clear F
          go_wp2_with fail
          refine (PG.out _).mono ?_
          rintro e5 w5 ⟨rfl,hb5⟩
          have R5:=(hb5.block g0 G0.out).trans R1.out
          go_wp2_with (refine wpList_store_rowTo rfl 127 (.tmp 10) (.tmp 95) rfl rfl g0 (pageF kind).cells rfl rfl 127 zeroF R5 (by rw [found_size];rfl) rfl (fd_one _) ?_)
          exact bodyPost_ret (results_cell_row Tryz.results97 _ _ _ _ _ _ _ rfl (setRow_heap _ _ _ _ _ _ R5) Tryz.underlying127 rfl (by rw [found_size];rfl)) rfl ⟨by rw [FH.out],below_setRow (below_trans B1.out hb5) G1.out _⟩
         | false =>
          cases hC:(e / 18014398509481984 != 0) with
          | true =>
           have F:V=pageF kind:=by rw [STEP.out,hok,hpr,hA,hR,hW,hC];rfl
           have FH:Hid (V=pageF kind):=F
           clear F
           go_wp2_with fail
           refine (PG.out _).mono ?_
           rintro e5 w5 ⟨rfl,hb5⟩
           have R5:=(hb5.block g0 G0.out).trans R1.out
           go_wp2_with (refine wpList_store_rowTo rfl 127 (.tmp 10) (.tmp 95) rfl rfl g0 (pageF kind).cells rfl rfl 127 zeroF R5 (by rw [found_size];rfl) rfl (fd_one _) ?_)
           exact bodyPost_ret (results_cell_row Tryz.results97 _ _ _ _ _ _ _ rfl (setRow_heap _ _ _ _ _ _ R5) Tryz.underlying127 rfl (by rw [found_size];rfl)) rfl ⟨by rw [FH.out],below_setRow (below_trans B1.out hb5) G1.out _⟩
          | false =>
           cases hX3:(x==0) with
           | true =>
            cases hL:((lv:Int)==0) with
            | true =>
             have F:V=pageF kind:=by rw [STEP.out,hok,hpr,hA,hR,hW,hC,hX3,hL];rfl
             have FH:Hid (V=pageF kind):=F
             clear F
             go_wp2_with fail
             refine (PG.out _).mono ?_
             rintro e5 w5 ⟨rfl,hb5⟩
             have R5:=(hb5.block g0 G0.out).trans R1.out
             go_wp2_with (refine wpList_store_rowTo rfl 127 (.tmp 10) (.tmp 120) rfl rfl g0 (pageF kind).cells rfl rfl 127 zeroF R5 (by rw [found_size];rfl) rfl (fd_one _) ?_)
             exact bodyPost_ret (results_cell_row Tryz.results97 _ _ _ _ _ _ _ rfl (setRow_heap _ _ _ _ _ _ R5) Tryz.underlying127 rfl (by rw [found_size];rfl)) rfl ⟨by rw [FH.out],below_setRow (below_trans B1.out hb5) G1.out _⟩
            | false =>
             cases h4:(bits .and .u64 (e / 16) 1==1) with
             | true =>
              have F:V=pageF kind:=by rw [STEP.out,hok,hpr,hA,hR,hW,hC,hX3,hL,h4];rfl
              have FH:Hid (V=pageF kind):=F
              clear F
              go_wp2_with fail
              refine (PG.out _).mono ?_
              rintro e5 w5 ⟨rfl,hb5⟩
              have R5:=(hb5.block g0 G0.out).trans R1.out
              go_wp2_with (refine wpList_store_rowTo rfl 127 (.tmp 10) (.tmp 120) rfl rfl g0 (pageF kind).cells rfl rfl 127 zeroF R5 (by rw [found_size];rfl) rfl (fd_one _) ?_)
              exact bodyPost_ret (results_cell_row Tryz.results97 _ _ _ _ _ _ _ rfl (setRow_heap _ _ _ _ _ _ R5) Tryz.underlying127 rfl (by rw [found_size];rfl)) rfl ⟨by rw [FH.out],below_setRow (below_trans B1.out hb5) G1.out _⟩
             | false =>
              cases h6:(bits .and .u64 (e / 64) 3 != 0) with
              | true =>
               have F:V=pageF kind:=by rw [STEP.out,hok,hpr,hA,hR,hW,hC,hX3,hL,h4,h6];rfl
               have FH:Hid (V=pageF kind):=F
               clear F
               go_wp2_with fail
               refine (PG.out _).mono ?_
               rintro e5 w5 ⟨rfl,hb5⟩
               have R5:=(hb5.block g0 G0.out).trans R1.out
               go_wp2_with (refine wpList_store_rowTo rfl 127 (.tmp 10) (.tmp 120) rfl rfl g0 (pageF kind).cells rfl rfl 127 zeroF R5 (by rw [found_size];rfl) rfl (fd_one _) ?_)
               exact bodyPost_ret (results_cell_row Tryz.results97 _ _ _ _ _ _ _ rfl (setRow_heap _ _ _ _ _ _ R5) Tryz.underlying127 rfl (by rw [found_size];rfl)) rfl ⟨by rw [FH.out],below_setRow (below_trans B1.out hb5) G1.out _⟩
              | false =>
               have F:walkL zs n l p va kind (lv - 1) (IntKind.u64.wrap (fr*4096))=V:=by rw [STEP.out,hok,hpr,hA,hR,hW,hC,hX3,hL,h4,h6];rfl
               have FH:Hid (walkL zs n l p va kind (lv - 1) (IntKind.u64.wrap (fr*4096))=V):=F
               clear F
               have hl0:lv≠0:=by intro h;subst h;cases hL
               have hsub:IntKind.u64.wrap ((lv:Int) - 1)=((lv - 1:Nat):Int):=by rw [IntKind.wrap_u64];omega
               go_wp2_with fail
               refine ⟨?rel,?measure⟩
               case measure=>simp [intOf];omega
               case rel=>exact ⟨_,_,_,_,_,_,_,_,_,_,_,_,_,_,_,_,_,_,_,_,_,_,_,_,_,_,_,_,_,_,_,_,_,_,_,_,_,_,_,_,_,_,_,_,_,_,_,_,_,_,_,_,_,_,_,_,_,_,_,_,_,_,_,_,_,_,_,_,_,_,_,_,_,_,_,_,_,_,_,_,_,_,_,_,_,_,_,_,_,_,_,_,_,_,_,_,_,_,_,_,_,_,_,_,_,_,_,_,_,_,_,_,_,_,_,_,_,_,_,_,_,_,_,_,_,_,_,_,_,_,_,_,_,_,_,_,_,_,_,_,_,_,_,_,_,_,_,_,_,_,_,_,_,_,_,_,_,_,_,_,_,_,_,_,_,_,_,_,_,_,_,_,_,_,_,_,_,_,_,_,_,_,_,_,_,_,_,_,_,_,_,_,_,_,_,_,_,_,_,_,_,_,_,_,_,⟨lv - 1,IntKind.u64.wrap (fr*4096),by omega,rfl,rfl,wrapU _,FH,rfl⟩,rfl⟩
           | false =>
            have LEAF1:V=leafV l p va kind e X lv:=by rw [STEP.out,hok,hpr,hA,hR,hW,hC,hX3];rfl
            have LEAF:=hid_mk (LEAF1.trans LEAF0.out)
            clear LEAF0 LEAF1
            go_wp2_with fail
            refine (HB4.out _).mono ?_
            rintro e6 wx ⟨rfl,hwx⟩
            have hwy:=hwx.symm
            subst hwy
            cases hO:(bits .and .u64 fr lo != 0) with
            | true =>
             have F:V=pageF kind:=by rw [LEAF.out,hO];rfl
             have FH:Hid (V=pageF kind):=F
             clear F
             go_wp2_with fail
             refine (PG.out _).mono ?_
             rintro e5 w5 ⟨rfl,hb5⟩
             have R5:=(hb5.block g0 G0.out).trans R1.out
             go_wp2_with (refine wpList_store_rowTo rfl 127 (.tmp 10) (.tmp 135) rfl rfl g0 (pageF kind).cells rfl rfl 127 zeroF R5 (by rw [found_size];rfl) rfl (fd_one _) ?_)
             exact bodyPost_ret (results_cell_row Tryz.results97 _ _ _ _ _ _ _ rfl (setRow_heap _ _ _ _ _ _ R5) Tryz.underlying127 rfl (by rw [found_size];rfl)) rfl ⟨by rw [FH.out],below_setRow (below_trans B1.out hb5) G1.out _⟩
            | false =>
             obtain rfl:=HKK.out
             rcases HPV.out with rfl | rfl | rfl
             ·skip
              cases hU:(u==0) with
              | true =>
               have F:V=pageF 1:=by rw [LEAF.out,hO,hX3,hU];rfl
               have FH:Hid (V=pageF 1):=F
               clear F
               go_wp2_with fail
               refine (PG.out _).mono ?_
               rintro e5 w5 ⟨rfl,hb5⟩
               have R5:=(hb5.block g0 G0.out).trans R1.out
               go_wp2_with (refine wpList_store_rowTo rfl 127 (.tmp 10) (.tmp 182) rfl rfl g0 (pageF 1).cells rfl rfl 127 zeroF R5 (by rw [found_size];rfl) rfl (fd_one _) ?_)
               exact bodyPost_ret (results_cell_row Tryz.results97 _ _ _ _ _ _ _ rfl (setRow_heap _ _ _ _ _ _ R5) Tryz.underlying127 rfl (by rw [found_size];rfl)) rfl ⟨by rw [FH.out],below_setRow (below_trans B1.out hb5) G1.out _⟩
              | false =>
               cases hw:(bits .or .u64 e 64 != e) with
               | true =>
                go_wp2_with fail
                refine (HP3.out _).mono ?_
                rintro e6 wx ⟨rfl,hwx⟩
                have hwy:=hwx.symm
                subst hwy
                cases h3:pr3 with
                | true =>
                 have FH:Hid (V=⟨ld,0,true,X,bits .or .u64 e 64⟩):=by show V=_;have hwK:((if ((1:Int)==3)=true then bits .or .u64 (bits .or .u64 e 64) 128 else bits .or .u64 e 64) != e)=true:=hw;rw [LEAF.out,hO,hX3,hU,hwK,h3];rfl
                 go_wp2_with (first | (refine wpList_store_rowTo rfl 127 (.tmp 10) (.tmp 237) rfl rfl g0 (Fd.cells ⟨ld,0,true,X,bits .or .u64 e 64⟩) rfl rfl 127 zeroF (R1A.out _) (by rw [found_size];rfl) rfl (fd_one _) ?_))
                 exact bodyPost_ret (results_cell_row Tryz.results97 _ _ _ _ _ _ _ rfl (setRow_heap _ _ _ _ _ _ (R1A.out _)) Tryz.underlying127 rfl (by rw [found_size];rfl)) rfl ⟨by rw [FH.out],below_setRow (B1A.out _) G1.out _⟩
                | false =>
                 have FH:Hid (V=faultF 1):=by show V=_;have hwK:((if ((1:Int)==3)=true then bits .or .u64 (bits .or .u64 e 64) 128 else bits .or .u64 e 64) != e)=true:=hw;rw [LEAF.out,hO,hX3,hU,hwK,h3];rfl
                 go_wp2_with fail
                 refine (FT.out _).mono ?_
                 rintro e5 w5 ⟨rfl,hb5⟩
                 have R5:=(hb5.block g0 (G0A.out _)).trans (R1A.out _)
                 go_wp2_with (refine wpList_store_rowTo rfl 127 (.tmp 10) (.tmp 231) rfl rfl g0 (faultF 1).cells rfl rfl 127 zeroF R5 (by rw [found_size];rfl) rfl (fd_one _) ?_)
                 exact bodyPost_ret (results_cell_row Tryz.results97 _ _ _ _ _ _ _ rfl (setRow_heap _ _ _ _ _ _ R5) Tryz.underlying127 rfl (by rw [found_size];rfl)) rfl ⟨by rw [FH.out],below_setRow (below_trans (B1A.out _) hb5) G1.out _⟩
               | false =>
                have FH:Hid (V=⟨ld,0,false,0,0⟩):=by show V=_;have hwK:((if ((1:Int)==3)=true then bits .or .u64 (bits .or .u64 e 64) 128 else bits .or .u64 e 64) != e)=false:=hw;rw [LEAF.out,hO,hX3,hU,hwK];rfl
                go_wp2_with (first | (refine wpList_store_rowTo rfl 127 (.tmp 10) (.tmp 237) rfl rfl g0 (Fd.cells ⟨ld,0,false,0,0⟩) rfl rfl 127 zeroF (R1A.out _) (by rw [found_size];rfl) rfl (fd_one _) ?_))
                exact bodyPost_ret (results_cell_row Tryz.results97 _ _ _ _ _ _ _ rfl (setRow_heap _ _ _ _ _ _ (R1A.out _)) Tryz.underlying127 rfl (by rw [found_size];rfl)) rfl ⟨by rw [FH.out],below_setRow (B1A.out _) G1.out _⟩
             ·skip
              cases hU:(u==1) with
              | true =>
               have F:V=pageF 1:=by rw [LEAF.out,hO,hX3,hU];rfl
               have FH:Hid (V=pageF 1):=F
               clear F
               go_wp2_with fail
               refine (PG.out _).mono ?_
               rintro e5 w5 ⟨rfl,hb5⟩
               have R5:=(hb5.block g0 G0.out).trans R1.out
               go_wp2_with (refine wpList_store_rowTo rfl 127 (.tmp 10) (.tmp 202) rfl rfl g0 (pageF 1).cells rfl rfl 127 zeroF R5 (by rw [found_size];rfl) rfl (fd_one _) ?_)
               exact bodyPost_ret (results_cell_row Tryz.results97 _ _ _ _ _ _ _ rfl (setRow_heap _ _ _ _ _ _ R5) Tryz.underlying127 rfl (by rw [found_size];rfl)) rfl ⟨by rw [FH.out],below_setRow (below_trans B1.out hb5) G1.out _⟩
              | false =>
               cases hw:(bits .or .u64 e 64 != e) with
               | true =>
                go_wp2_with fail
                refine (HP3.out _).mono ?_
                rintro e6 wx ⟨rfl,hwx⟩
                have hwy:=hwx.symm
                subst hwy
                cases h3:pr3 with
                | true =>
                 have FH:Hid (V=⟨ld,0,true,X,bits .or .u64 e 64⟩):=by show V=_;have hwK:((if ((1:Int)==3)=true then bits .or .u64 (bits .or .u64 e 64) 128 else bits .or .u64 e 64) != e)=true:=hw;rw [LEAF.out,hO,hX3,hU,hwK,h3];rfl
                 go_wp2_with (first | (refine wpList_store_rowTo rfl 127 (.tmp 10) (.tmp 237) rfl rfl g0 (Fd.cells ⟨ld,0,true,X,bits .or .u64 e 64⟩) rfl rfl 127 zeroF (R1A.out _) (by rw [found_size];rfl) rfl (fd_one _) ?_))
                 exact bodyPost_ret (results_cell_row Tryz.results97 _ _ _ _ _ _ _ rfl (setRow_heap _ _ _ _ _ _ (R1A.out _)) Tryz.underlying127 rfl (by rw [found_size];rfl)) rfl ⟨by rw [FH.out],below_setRow (B1A.out _) G1.out _⟩
                | false =>
                 have FH:Hid (V=faultF 1):=by show V=_;have hwK:((if ((1:Int)==3)=true then bits .or .u64 (bits .or .u64 e 64) 128 else bits .or .u64 e 64) != e)=true:=hw;rw [LEAF.out,hO,hX3,hU,hwK,h3];rfl
                 go_wp2_with fail
                 refine (FT.out _).mono ?_
                 rintro e5 w5 ⟨rfl,hb5⟩
                 have R5:=(hb5.block g0 (G0A.out _)).trans (R1A.out _)
                 go_wp2_with (refine wpList_store_rowTo rfl 127 (.tmp 10) (.tmp 231) rfl rfl g0 (faultF 1).cells rfl rfl 127 zeroF R5 (by rw [found_size];rfl) rfl (fd_one _) ?_)
                 exact bodyPost_ret (results_cell_row Tryz.results97 _ _ _ _ _ _ _ rfl (setRow_heap _ _ _ _ _ _ R5) Tryz.underlying127 rfl (by rw [found_size];rfl)) rfl ⟨by rw [FH.out],below_setRow (below_trans (B1A.out _) hb5) G1.out _⟩
               | false =>
                have FH:Hid (V=⟨ld,0,false,0,0⟩):=by show V=_;have hwK:((if ((1:Int)==3)=true then bits .or .u64 (bits .or .u64 e 64) 128 else bits .or .u64 e 64) != e)=false:=hw;rw [LEAF.out,hO,hX3,hU,hwK];rfl
                go_wp2_with (first | (refine wpList_store_rowTo rfl 127 (.tmp 10) (.tmp 237) rfl rfl g0 (Fd.cells ⟨ld,0,false,0,0⟩) rfl rfl 127 zeroF (R1A.out _) (by rw [found_size];rfl) rfl (fd_one _) ?_))
                exact bodyPost_ret (results_cell_row Tryz.results97 _ _ _ _ _ _ _ rfl (setRow_heap _ _ _ _ _ _ (R1A.out _)) Tryz.underlying127 rfl (by rw [found_size];rfl)) rfl ⟨by rw [FH.out],below_setRow (B1A.out _) G1.out _⟩
             ·cases d3
        | false =>
         cases hC:(e / 18014398509481984 != 0) with
         | true =>
          have F:V=pageF kind:=by rw [STEP.out,hok,hpr,hA,hR,hC];rfl
          have FH:Hid (V=pageF kind):=F
          clear F
          go_wp2_with fail
          refine (PG.out _).mono ?_
          rintro e5 w5 ⟨rfl,hb5⟩
          have R5:=(hb5.block g0 G0.out).trans R1.out
          go_wp2_with (refine wpList_store_rowTo rfl 127 (.tmp 10) (.tmp 95) rfl rfl g0 (pageF kind).cells rfl rfl 127 zeroF R5 (by rw [found_size];rfl) rfl (fd_one _) ?_)
          exact bodyPost_ret (results_cell_row Tryz.results97 _ _ _ _ _ _ _ rfl (setRow_heap _ _ _ _ _ _ R5) Tryz.underlying127 rfl (by rw [found_size];rfl)) rfl ⟨by rw [FH.out],below_setRow (below_trans B1.out hb5) G1.out _⟩
         | false =>
          have LEAF1:V=leafV l p va kind e X lv:=by rw [STEP.out,hok,hpr,hA,hR,hC];rfl
          have LEAF:=hid_mk (LEAF1.trans LEAF0.out)
          clear LEAF0 LEAF1
          go_wp2_with fail
          refine (HB4.out _).mono ?_
          rintro e6 wx ⟨rfl,hwx⟩
          have hwy:=hwx.symm
          subst hwy
          cases hO:(bits .and .u64 fr lo != 0) with
          | true =>
           have F:V=pageF kind:=by rw [LEAF.out,hO];rfl
           have FH:Hid (V=pageF kind):=F
           clear F
           go_wp2_with fail
           refine (PG.out _).mono ?_
           rintro e5 w5 ⟨rfl,hb5⟩
           have R5:=(hb5.block g0 G0.out).trans R1.out
           go_wp2_with (refine wpList_store_rowTo rfl 127 (.tmp 10) (.tmp 135) rfl rfl g0 (pageF kind).cells rfl rfl 127 zeroF R5 (by rw [found_size];rfl) rfl (fd_one _) ?_)
           exact bodyPost_ret (results_cell_row Tryz.results97 _ _ _ _ _ _ _ rfl (setRow_heap _ _ _ _ _ _ R5) Tryz.underlying127 rfl (by rw [found_size];rfl)) rfl ⟨by rw [FH.out],below_setRow (below_trans B1.out hb5) G1.out _⟩
          | false =>
           obtain rfl:=HKK.out
           cases hX3:(x==0) with
           | true =>
            have F:V=pageF 1:=by rw [LEAF.out,hO,hX3];rfl
            have FH:Hid (V=pageF 1):=F
            clear F
            go_wp2_with fail
            refine (PG.out _).mono ?_
            rintro e5 w5 ⟨rfl,hb5⟩
            have R5:=(hb5.block g0 G0.out).trans R1.out
            go_wp2_with (refine wpList_store_rowTo rfl 127 (.tmp 10) (.tmp 144) rfl rfl g0 (pageF 1).cells rfl rfl 127 zeroF R5 (by rw [found_size];rfl) rfl (fd_one _) ?_)
            exact bodyPost_ret (results_cell_row Tryz.results97 _ _ _ _ _ _ _ rfl (setRow_heap _ _ _ _ _ _ R5) Tryz.underlying127 rfl (by rw [found_size];rfl)) rfl ⟨by rw [FH.out],below_setRow (below_trans B1.out hb5) G1.out _⟩
           | false =>
            rcases HPV.out with rfl | rfl | rfl
            ·skip
             cases hU:(u==0) with
             | true =>
              have F:V=pageF 1:=by rw [LEAF.out,hO,hX3,hU];rfl
              have FH:Hid (V=pageF 1):=F
              clear F
              go_wp2_with fail
              refine (PG.out _).mono ?_
              rintro e5 w5 ⟨rfl,hb5⟩
              have R5:=(hb5.block g0 G0.out).trans R1.out
              go_wp2_with (refine wpList_store_rowTo rfl 127 (.tmp 10) (.tmp 182) rfl rfl g0 (pageF 1).cells rfl rfl 127 zeroF R5 (by rw [found_size];rfl) rfl (fd_one _) ?_)
              exact bodyPost_ret (results_cell_row Tryz.results97 _ _ _ _ _ _ _ rfl (setRow_heap _ _ _ _ _ _ R5) Tryz.underlying127 rfl (by rw [found_size];rfl)) rfl ⟨by rw [FH.out],below_setRow (below_trans B1.out hb5) G1.out _⟩
             | false =>
              cases hw:(bits .or .u64 e 64 != e) with
              | true =>
               go_wp2_with fail
               refine (HP3.out _).mono ?_
               rintro e6 wx ⟨rfl,hwx⟩
               have hwy:=hwx.symm
               subst hwy
               cases h3:pr3 with
               | true =>
                have FH:Hid (V=⟨ld,0,true,X,bits .or .u64 e 64⟩):=by show V=_;have hwK:((if ((1:Int)==3)=true then bits .or .u64 (bits .or .u64 e 64) 128 else bits .or .u64 e 64) != e)=true:=hw;rw [LEAF.out,hO,hX3,hU,hwK,h3];rfl
                go_wp2_with (first | (refine wpList_store_rowTo rfl 127 (.tmp 10) (.tmp 237) rfl rfl g0 (Fd.cells ⟨ld,0,true,X,bits .or .u64 e 64⟩) rfl rfl 127 zeroF (R1A.out _) (by rw [found_size];rfl) rfl (fd_one _) ?_))
                exact bodyPost_ret (results_cell_row Tryz.results97 _ _ _ _ _ _ _ rfl (setRow_heap _ _ _ _ _ _ (R1A.out _)) Tryz.underlying127 rfl (by rw [found_size];rfl)) rfl ⟨by rw [FH.out],below_setRow (B1A.out _) G1.out _⟩
               | false =>
                have FH:Hid (V=faultF 1):=by show V=_;have hwK:((if ((1:Int)==3)=true then bits .or .u64 (bits .or .u64 e 64) 128 else bits .or .u64 e 64) != e)=true:=hw;rw [LEAF.out,hO,hX3,hU,hwK,h3];rfl
                go_wp2_with fail
                refine (FT.out _).mono ?_
                rintro e5 w5 ⟨rfl,hb5⟩
                have R5:=(hb5.block g0 (G0A.out _)).trans (R1A.out _)
                go_wp2_with (refine wpList_store_rowTo rfl 127 (.tmp 10) (.tmp 231) rfl rfl g0 (faultF 1).cells rfl rfl 127 zeroF R5 (by rw [found_size];rfl) rfl (fd_one _) ?_)
                exact bodyPost_ret (results_cell_row Tryz.results97 _ _ _ _ _ _ _ rfl (setRow_heap _ _ _ _ _ _ R5) Tryz.underlying127 rfl (by rw [found_size];rfl)) rfl ⟨by rw [FH.out],below_setRow (below_trans (B1A.out _) hb5) G1.out _⟩
              | false =>
               have FH:Hid (V=⟨ld,0,false,0,0⟩):=by show V=_;have hwK:((if ((1:Int)==3)=true then bits .or .u64 (bits .or .u64 e 64) 128 else bits .or .u64 e 64) != e)=false:=hw;rw [LEAF.out,hO,hX3,hU,hwK];rfl
               go_wp2_with (first | (refine wpList_store_rowTo rfl 127 (.tmp 10) (.tmp 237) rfl rfl g0 (Fd.cells ⟨ld,0,false,0,0⟩) rfl rfl 127 zeroF (R1A.out _) (by rw [found_size];rfl) rfl (fd_one _) ?_))
               exact bodyPost_ret (results_cell_row Tryz.results97 _ _ _ _ _ _ _ rfl (setRow_heap _ _ _ _ _ _ (R1A.out _)) Tryz.underlying127 rfl (by rw [found_size];rfl)) rfl ⟨by rw [FH.out],below_setRow (B1A.out _) G1.out _⟩
            ·skip
             cases hU:(u==1) with
             | true =>
              have F:V=pageF 1:=by rw [LEAF.out,hO,hX3,hU];rfl
              have FH:Hid (V=pageF 1):=F
              clear F
              go_wp2_with fail
              refine (PG.out _).mono ?_
              rintro e5 w5 ⟨rfl,hb5⟩
              have R5:=(hb5.block g0 G0.out).trans R1.out
              go_wp2_with (refine wpList_store_rowTo rfl 127 (.tmp 10) (.tmp 202) rfl rfl g0 (pageF 1).cells rfl rfl 127 zeroF R5 (by rw [found_size];rfl) rfl (fd_one _) ?_)
              exact bodyPost_ret (results_cell_row Tryz.results97 _ _ _ _ _ _ _ rfl (setRow_heap _ _ _ _ _ _ R5) Tryz.underlying127 rfl (by rw [found_size];rfl)) rfl ⟨by rw [FH.out],below_setRow (below_trans B1.out hb5) G1.out _⟩
             | false =>
              cases hw:(bits .or .u64 e 64 != e) with
              | true =>
               go_wp2_with fail
               refine (HP3.out _).mono ?_
               rintro e6 wx ⟨rfl,hwx⟩
               have hwy:=hwx.symm
               subst hwy
               cases h3:pr3 with
               | true =>
                have FH:Hid (V=⟨ld,0,true,X,bits .or .u64 e 64⟩):=by show V=_;have hwK:((if ((1:Int)==3)=true then bits .or .u64 (bits .or .u64 e 64) 128 else bits .or .u64 e 64) != e)=true:=hw;rw [LEAF.out,hO,hX3,hU,hwK,h3];rfl
                go_wp2_with (first | (refine wpList_store_rowTo rfl 127 (.tmp 10) (.tmp 237) rfl rfl g0 (Fd.cells ⟨ld,0,true,X,bits .or .u64 e 64⟩) rfl rfl 127 zeroF (R1A.out _) (by rw [found_size];rfl) rfl (fd_one _) ?_))
                exact bodyPost_ret (results_cell_row Tryz.results97 _ _ _ _ _ _ _ rfl (setRow_heap _ _ _ _ _ _ (R1A.out _)) Tryz.underlying127 rfl (by rw [found_size];rfl)) rfl ⟨by rw [FH.out],below_setRow (B1A.out _) G1.out _⟩
               | false =>
                have FH:Hid (V=faultF 1):=by show V=_;have hwK:((if ((1:Int)==3)=true then bits .or .u64 (bits .or .u64 e 64) 128 else bits .or .u64 e 64) != e)=true:=hw;rw [LEAF.out,hO,hX3,hU,hwK,h3];rfl
                go_wp2_with fail
                refine (FT.out _).mono ?_
                rintro e5 w5 ⟨rfl,hb5⟩
                have R5:=(hb5.block g0 (G0A.out _)).trans (R1A.out _)
                go_wp2_with (refine wpList_store_rowTo rfl 127 (.tmp 10) (.tmp 231) rfl rfl g0 (faultF 1).cells rfl rfl 127 zeroF R5 (by rw [found_size];rfl) rfl (fd_one _) ?_)
                exact bodyPost_ret (results_cell_row Tryz.results97 _ _ _ _ _ _ _ rfl (setRow_heap _ _ _ _ _ _ R5) Tryz.underlying127 rfl (by rw [found_size];rfl)) rfl ⟨by rw [FH.out],below_setRow (below_trans (B1A.out _) hb5) G1.out _⟩
              | false =>
               have FH:Hid (V=⟨ld,0,false,0,0⟩):=by show V=_;have hwK:((if ((1:Int)==3)=true then bits .or .u64 (bits .or .u64 e 64) 128 else bits .or .u64 e 64) != e)=false:=hw;rw [LEAF.out,hO,hX3,hU,hwK];rfl
               go_wp2_with (first | (refine wpList_store_rowTo rfl 127 (.tmp 10) (.tmp 237) rfl rfl g0 (Fd.cells ⟨ld,0,false,0,0⟩) rfl rfl 127 zeroF (R1A.out _) (by rw [found_size];rfl) rfl (fd_one _) ?_))
               exact bodyPost_ret (results_cell_row Tryz.results97 _ _ _ _ _ _ _ rfl (setRow_heap _ _ _ _ _ _ (R1A.out _)) Tryz.underlying127 rfl (by rw [found_size];rfl)) rfl ⟨by rw [FH.out],below_setRow (B1A.out _) G1.out _⟩
            ·cases d3
      | false =>
       have F:V=faultF kind:=by rw [STEP.out,hok,hpr];rfl
       have FH:Hid (V=faultF kind):=F
       clear F
       go_wp2_with fail
       refine (FT.out _).mono ?_
       rintro e5 w5 ⟨rfl,hb5⟩
       have R5:=(hb5.block g0 G0.out).trans R1.out
       go_wp2_with (refine wpList_store_rowTo rfl 127 (.tmp 10) (.tmp 68) rfl rfl g0 (faultF kind).cells rfl rfl 127 zeroF R5 (by rw [found_size];rfl) rfl (fd_one _) ?_)
       exact bodyPost_ret (results_cell_row Tryz.results97 _ _ _ _ _ _ _ rfl (setRow_heap _ _ _ _ _ _ R5) Tryz.underlying127 rfl (by rw [found_size];rfl)) rfl ⟨by rw [FH.out],below_setRow (below_trans B1.out hb5) G1.out _⟩
     | false =>
      have F:V=faultF kind:=by rw [STEP.out,hok];rfl
      have FH:Hid (V=faultF kind):=F
      clear F
      go_wp2_with fail
      refine (FT.out _).mono ?_
      rintro e5 w5 ⟨rfl,hb5⟩
      have R5:=(hb5.block g0 G0.out).trans R1.out
      go_wp2_with (refine wpList_store_rowTo rfl 127 (.tmp 10) (.tmp 68) rfl rfl g0 (faultF kind).cells rfl rfl 127 zeroF R5 (by rw [found_size];rfl) rfl (fd_one _) ?_)
      exact bodyPost_ret (results_cell_row Tryz.results97 _ _ _ _ _ _ _ rfl (setRow_heap _ _ _ _ _ _ R5) Tryz.underlying127 rfl (by rw [found_size];rfl)) rfl ⟨by rw [FH.out],below_setRow (below_trans B1.out hb5) G1.out _⟩

end Go.Proofs.YtkhofppmeoooaaaGreatDoor
