/- Own lemmas. -/
import Derived.Test.YtbajeckeeekhnaaGreatK05
import Derived.Test.YtbajeckeeekhnaaGreatK07
import Derived.BigQuiet
namespace Go.Proofs.YtbajeckeeekhnaaGreat
open Go.RowKit
set_option linter.unusedVariables false

theorem found_size:(Tryz.prog.info? 143).map (·.size)=some 5:=by kernel_rfl

theorem old_row (w:World) (o p:Obj):((w.alloc o).alloc p).heap[w.heap.size]?=some o:=(Below.heap_alloc _ _ _ (by simp)).trans (heap_alloc_new _ _)

theorem l7Page_any (k:Int) (h1:1≤k) (h3:k≤3) (w:World):Calls Tryz.prog 102 #[.int .i64 k] w fun e w'=>e=.returned (.agg (pageF k).cells)∧Below w.heap.size w w':=by
 have hk:k=1∨k=2∨k=3:=by omega
 rcases hk with rfl | rfl | rfl
 ·have F:(pageF 1).cells=#[.int .u64 0,.int .i64 12,.bool false,.int .u64 0,.int .u64 0]:=rfl
  rw [F]
  go_enter Tryz.func102,Tryz.ntmps102
  go_wp2_with fail
  exact bodyPost_ret (results_cell_row Tryz.results102 _ _ _ _ _ _ _ rfl (old_row _ _ _) Tryz.underlying143 rfl found_size) rfl ⟨rfl,((Below.refl _ _).alloc (Nat.le_refl _) _).alloc (by simp) _⟩
 ·have F:(pageF 2).cells=#[.int .u64 0,.int .i64 13,.bool false,.int .u64 0,.int .u64 0]:=rfl
  rw [F]
  go_enter Tryz.func102,Tryz.ntmps102
  go_wp2_with fail
  exact bodyPost_ret (results_cell_row Tryz.results102 _ _ _ _ _ _ _ rfl (old_row _ _ _) Tryz.underlying143 rfl found_size) rfl ⟨rfl,((Below.refl _ _).alloc (Nat.le_refl _) _).alloc (by simp) _⟩
 ·have F:(pageF 3).cells=#[.int .u64 0,.int .i64 15,.bool false,.int .u64 0,.int .u64 0]:=rfl
  rw [F]
  go_enter Tryz.func102,Tryz.ntmps102
  go_wp2_with fail
  exact bodyPost_ret (results_cell_row Tryz.results102 _ _ _ _ _ _ _ rfl (old_row _ _ _) Tryz.underlying143 rfl found_size) rfl ⟨rfl,((Below.refl _ _).alloc (Nat.le_refl _) _).alloc (by simp) _⟩

theorem l7Fault_any (k:Int) (h1:1≤k) (h3:k≤3) (w:World):Calls Tryz.prog 103 #[.int .i64 k] w fun e w'=>e=.returned (.agg (faultF k).cells)∧Below w.heap.size w w':=by
 have hk:k=1∨k=2∨k=3:=by omega
 rcases hk with rfl | rfl | rfl
 ·have F:(faultF 1).cells=#[.int .u64 0,.int .i64 1,.bool false,.int .u64 0,.int .u64 0]:=rfl
  rw [F]
  go_enter Tryz.func103,Tryz.ntmps103
  go_wp2_with fail
  exact bodyPost_ret (results_cell_row Tryz.results103 _ _ _ _ _ _ _ rfl (old_row _ _ _) Tryz.underlying143 rfl found_size) rfl ⟨rfl,((Below.refl _ _).alloc (Nat.le_refl _) _).alloc (by simp) _⟩
 ·have F:(faultF 2).cells=#[.int .u64 0,.int .i64 5,.bool false,.int .u64 0,.int .u64 0]:=rfl
  rw [F]
  go_enter Tryz.func103,Tryz.ntmps103
  go_wp2_with fail
  exact bodyPost_ret (results_cell_row Tryz.results103 _ _ _ _ _ _ _ rfl (old_row _ _ _) Tryz.underlying143 rfl found_size) rfl ⟨rfl,((Below.refl _ _).alloc (Nat.le_refl _) _).alloc (by simp) _⟩
 ·have F:(faultF 3).cells=#[.int .u64 0,.int .i64 7,.bool false,.int .u64 0,.int .u64 0]:=rfl
  rw [F]
  go_enter Tryz.func103,Tryz.ntmps103
  go_wp2_with fail
  exact bodyPost_ret (results_cell_row Tryz.results103 _ _ _ _ _ _ _ rfl (old_row _ _ _) Tryz.underlying143 rfl found_size) rfl ⟨rfl,((Below.refl _ _).alloc (Nat.le_refl _) _).alloc (by simp) _⟩

def effV (l:List Int) (p kind:Int):Int:=if ((kind != 1)&&(bitAt (l.getD 0 0) 17==1))=true then wrap64 (bits .and .u64 (l.getD 0 0 / 2048) 3) else p

theorem l7Effective_any (b off cap:Nat) (l:List Int) (p kind:Int) (w:World) (c0:w.cell? ⟨b,off,none⟩=some (.int .u64 (l.getD 0 0))) :
 Calls Tryz.prog 78 #[.slice (some ⟨b,off,none⟩) 22 cap,.int .i64 p,.int .i64 kind] w fun e w'=>e=.returned (.int .i64 (effV l p kind))∧w'=w:=by
 have HB:Hid (∀ w,Calls Tryz.prog 73 #[.int .u64 (l.getD 0 0),.int .u64 17] w fun e w'=>e=.returned (.int .u64 (bitAt (l.getD 0 0) 17))∧w'=w):=fun w=>l5Bit_any _ 17 (by omega) w
 have F:Hid (effV l p kind=if ((kind != 1)&&(bitAt (l.getD 0 0) 17==1))=true then wrap64 (bits .and .u64 (l.getD 0 0 / 2048) 3) else p):=(rfl:effV l p kind=_)
 generalize effV l p kind=v at *
 generalize bitAt (l.getD 0 0) 17=y at *
 generalize l.getD 0 0=x at *
 cases d1:(kind != 1) with
 | false =>
   have F2:Hid (v=p):=by show v=p;rw [F.out,d1,Bool.false_and];exact if_neg (by decide)
   clear F
   go_enter Tryz.func78,Tryz.ntmps78
   go_wp2_with fail
   go_ret
   exact ⟨by rw [F2.out];rfl,rfl⟩
 | true =>
   cases d2:(y==1) with
   | false =>
     have F2:Hid (v=p):=by show v=p;rw [F.out,d1,d2];exact if_neg (by decide)
     clear F
     go_enter Tryz.func78,Tryz.ntmps78
     go_wp2_with fail
     refine (HB.out _).mono ?_
     rintro e wx ⟨rfl,hwx⟩
     have hwy:=hwx.symm
     subst hwy
     go_wp2_with fail
     go_ret
     exact ⟨by rw [F2.out];rfl,rfl⟩
   | true =>
     have F2:Hid (v=wrap64 (bits .and .u64 (x / 2048) 3)):=by show v=_;rw [F.out,d1,d2];exact if_pos rfl
     clear F
     go_enter Tryz.func78,Tryz.ntmps78
     go_wp2_with fail
     refine (HB.out _).mono ?_
     rintro e wx ⟨rfl,hwx⟩
     have hwy:=hwx.symm
     subst hwy
     go_wp2_with fail
     go_ret
     exact ⟨by rw [F2.out];rfl,rfl⟩

def entryV (f b:Int):Int:=if (f / 17592186044416 != 0)=true then 0 else if decide (0≤b∧b≤255)=true then bits .or .u64 (IntKind.u64.wrap (f*1024)) (IntKind.u64.wrap b) else 0

theorem specEntry_any (f b:Int) (w:World):Calls Tryz.prog 56 #[.int .u64 f,.int .i64 b] w fun e w'=>e=.returned (.int .u64 (entryV f b))∧w'=w:=by
 have HI:Hid (∀ w,Calls Tryz.prog 27 #[.int .i64 b,.int .i64 0,.int .i64 255] w fun e w'=>e=.returned (.bool (decide (0≤b∧b≤255)))∧w'=w):=l1In_d b 0 255
 have F:Hid (entryV f b=if (f / 17592186044416 != 0)=true then 0 else if decide (0≤b∧b≤255)=true then bits .or .u64 (IntKind.u64.wrap (f*1024)) (IntKind.u64.wrap b) else 0):=(rfl:entryV f b=_)
 generalize entryV f b=v at *
 generalize decide (0≤b∧b≤255)=q at *
 cases d:(f / 17592186044416 != 0) with
 | true =>
   have F2:Hid (v=0):=by show v=0;rw [F.out,d];exact if_pos rfl
   clear F
   go_enter Tryz.func56,Tryz.ntmps56
   go_wp2_with fail
   go_ret
   exact ⟨by rw [F2.out];rfl,rfl⟩
 | false =>
   have F1:v=if q=true then bits .or .u64 (IntKind.u64.wrap (f*1024)) (IntKind.u64.wrap b) else 0:=by rw [F.out,d];exact if_neg (by decide)
   clear F
   cases q with
   | false =>
     have F2:Hid (v=0):=F1.trans (if_neg (by decide))
     clear F1
     go_enter Tryz.func56,Tryz.ntmps56
     go_wp2_with fail
     refine (HI.out _).mono ?_
     rintro e wx ⟨rfl,hwx⟩
     have hwy:=hwx.symm
     subst hwy
     go_wp2_with fail
     go_ret
     exact ⟨by rw [F2.out];rfl,rfl⟩
   | true =>
     have F2:Hid (v=bits .or .u64 (IntKind.u64.wrap (f*1024)) (IntKind.u64.wrap b)):=F1.trans (if_pos rfl)
     clear F1
     go_enter Tryz.func56,Tryz.ntmps56
     go_wp2_with fail
     refine (HI.out _).mono ?_
     rintro e wx ⟨rfl,hwx⟩
     have hwy:=hwx.symm
     subst hwy
     go_wp2_with fail
     go_ret
     exact ⟨by rw [F2.out];rfl,rfl⟩

theorem bitsAt_any (x:Int) (k n:Nat) (h0:0≤x) (h1:x < 18446744073709551616) (hk:k < 64) (hn:n < 64) (w:World) :
 Calls Tryz.prog 13 #[.int .u64 x,.int .i64 k,.int .i64 n] w fun e w'=>e=.returned (.int .u64 (fld x k n))∧w'=w.drew:=by
 have F:Hid (bits .and .u64 (x / 2 ^ k) (IntKind.u64.wrap (IntKind.u64.wrap (2 ^ n) - 1))=fld x k n):=bitsAt_eq x k n h0 h1 hn
 go_enter Tryz.func13,Tryz.ntmps13
 go_wp2_with fail
 go_region
 all_goals go_wp2_with fail
 all_goals go_ret
 all_goals exact ⟨by rw [← F.out];rfl,rfl⟩

theorem l1Widen_any (x:Int) (n:Nat) (h1:1≤n) (h2:n≤64) (w:World) :
 Calls Tryz.prog 84 #[.int .u64 x,.int .u64 n] w fun e w'=>e=.returned (.int .u64 (widen n x))∧w'=w:=by
 obtain ⟨m,hm,hm0⟩:∃ m:Nat,(64:Int) - (n:Int)=(m:Int)∧m=64 - n:=⟨64 - n,by omega,rfl⟩
 have F:Hid (IntKind.u64.wrap (wrap64 (IntKind.u64.wrap (x*2 ^ m)) / 2 ^ m)=widen n x):=by
  show _=_
  rw [hm0];rfl
 clear hm0
 have hm2:IntKind.u64.wrap (m:Int)=m:=by rw [IntKind.wrap_u64];omega
 go_enter Tryz.func84,Tryz.ntmps84
 go_wp2_with fail
 go_ret
 exact ⟨by rw [← F.out];rfl,rfl⟩

def U (x:Int):Prop:=0≤x∧x < 18446744073709551616

def bt (x:Int) (i:Nat):Bool:=(BitVec.ofInt 64 x).getLsbD i

theorem U_wrap (x:Int):U (IntKind.u64.wrap x):=by
 rw [IntKind.wrap_u64];exact ⟨Int.emod_nonneg _ (by omega),Int.emod_lt_of_pos _ (by omega)⟩

theorem U_bits (o:BinOp) (x y:Int):U (bits o .u64 x y):=U_wrap _

theorem ofInt_wrap (x:Int):BitVec.ofInt 64 (IntKind.u64.wrap x)=BitVec.ofInt 64 x:=by
 rw [IntKind.wrap_u64]
 apply BitVec.eq_of_toInt_eq
 rw [BitVec.toInt_ofInt,BitVec.toInt_ofInt]
 exact Int.emod_bmod x (2 ^ 64)

theorem ofInt_bv (v:BitVec 64):BitVec.ofInt 64 (IntKind.u64.wrap (v.toNat:Int))=v:=by
 rw [ofInt_wrap]
 simp

theorem bt_and (x y:Int) (i:Nat):bt (bits .and .u64 x y) i=(bt x i&&bt y i):=by
 show (BitVec.ofInt 64 (IntKind.u64.wrap ((BitVec.ofInt 64 x &&& BitVec.ofInt 64 y).toNat:Int))).getLsbD i=_
 rw [ofInt_bv];simp [bt]

theorem bt_or (x y:Int) (i:Nat):bt (bits .or .u64 x y) i=(bt x i||bt y i):=by
 show (BitVec.ofInt 64 (IntKind.u64.wrap ((BitVec.ofInt 64 x ||| BitVec.ofInt 64 y).toNat:Int))).getLsbD i=_
 rw [ofInt_bv];simp [bt]

theorem bt_andNot (x y:Int) (i:Nat) (hi:i < 64):bt (bits .andNot .u64 x y) i=(bt x i&&!bt y i):=by
 show (BitVec.ofInt 64 (IntKind.u64.wrap ((BitVec.ofInt 64 x &&& ~~~BitVec.ofInt 64 y).toNat:Int))).getLsbD i=_
 rw [ofInt_bv];simp [bt,hi]

theorem bt_nat (x:Int) (h:U x) (i:Nat):bt x i=x.toNat.testBit i:=by
 obtain ⟨h0,h1⟩:=h
 obtain ⟨n,rfl⟩:=Int.eq_ofNat_of_zero_le h0
 have hn:n < 2 ^ 64:=by omega
 unfold bt
 rw [← BitVec.testBit_toNat,ofInt_u64 n (by omega),Int.toNat_natCast]

theorem bt_ext (x y:Int) (hx:U x) (hy:U y) (h:∀ i,i < 64→bt x i=bt y i):x=y:=by
 have e:BitVec.ofInt 64 x=BitVec.ofInt 64 y:=BitVec.eq_of_getLsbD_eq (fun i hi=>h i hi)
 have e2:=congrArg BitVec.toNat e
 obtain ⟨h0,h1⟩:=hx
 obtain ⟨h2,h3⟩:=hy
 obtain ⟨n,rfl⟩:=Int.eq_ofNat_of_zero_le h0
 obtain ⟨m,rfl⟩:=Int.eq_ofNat_of_zero_le h2
 rw [ofInt_u64 n (by omega),ofInt_u64 m (by omega)] at e2
 rw [e2]

theorem U_div (x:Int) (h:U x) (k:Nat):U (x / 2 ^ k):=by
 have hk:(0:Int) < 2 ^ k:=Int.pow_pos (by omega)
 exact ⟨Int.ediv_nonneg h.1 (by omega),Int.lt_of_le_of_lt (Int.ediv_le_self _ h.1) h.2⟩

theorem toNat_div (x:Int) (h:0≤x) (k:Nat):(x / 2 ^ k).toNat=x.toNat / 2 ^ k:=by
 obtain ⟨n,rfl⟩:=Int.eq_ofNat_of_zero_le h
 have:((n:Int) / 2 ^ k)=((n / 2 ^ k:Nat):Int):=by simp
 rw [this,Int.toNat_natCast,Int.toNat_natCast]

theorem bt_div (x:Int) (h:U x) (k i:Nat):bt (x / 2 ^ k) i=bt x (i+k):=by
 rw [bt_nat _ (U_div x h k),bt_nat _ h,toNat_div _ h.1,Nat.testBit_div_two_pow]

theorem bt_high (x:Int) (i:Nat) (hi:64≤i):bt x i=false:=by
 unfold bt
 exact BitVec.getLsbD_of_ge _ _ hi

theorem U_fld (x:Int) (k n:Nat) (hn:n < 64):U (fld x k n):=by
 have:=fld_bd x k n
 have h2:=pow_le n 63 (by omega)
 have e63:(2:Int) ^ 63=9223372036854775808:=by decide
 exact ⟨this.1,by omega⟩

theorem bt_fld (x:Int) (h:U x) (k n i:Nat) (hn:n < 64):bt (fld x k n) i=(decide (i < n)&&bt x (i+k)):=by
 rw [bt_nat _ (U_fld x k n hn),← bt_div x h,bt_nat _ (U_div x h k)]
 unfold fld
 have hd:=(U_div x h k).1
 obtain ⟨m,hm⟩:=Int.eq_ofNat_of_zero_le hd
 rw [hm]
 have:((m:Int) % 2 ^ n)=((m % 2 ^ n:Nat):Int):=by simp
 rw [this,Int.toNat_natCast,Int.toNat_natCast,Nat.testBit_mod_two_pow]

theorem bt_shl (y:Int) (h:U y) (k i:Nat):bt (IntKind.u64.wrap (y*2 ^ k)) i=(decide (k≤i)&&decide (i < 64)&&bt y (i - k)):=by
 rw [bt_nat _ (U_wrap _),bt_nat _ h]
 obtain ⟨n,rfl⟩:=Int.eq_ofNat_of_zero_le h.1
 rw [IntKind.wrap_u64]
 have e:((n:Int)*2 ^ k) % 18446744073709551616=((n*2 ^ k % 2 ^ 64:Nat):Int):=by simp
 rw [e,Int.toNat_natCast,Int.toNat_natCast,Nat.testBit_mod_two_pow,Nat.testBit_mul_two_pow]
 cases decide (i < 64)<;>cases decide (k≤i)<;>simp

def zeroF:Array Value:=#[.int .u64 0,.int .i64 0,.bool false,.int .u64 0,.int .u64 0]

theorem wrapU (x:Int):0≤IntKind.u64.wrap x∧IntKind.u64.wrap x < 18446744073709551616:=by
 rw [IntKind.wrap_u64];exact ⟨Int.emod_nonneg _ (by omega),Int.emod_lt_of_pos _ (by omega)⟩

theorem okB_at {n:Nat} {x s:Int} (h:okB n x s=true):2147483648≤x∧x - 2147483648+s≤n:=by
 unfold okB at h
 simp only [Bool.and_eq_true,decide_eq_true_eq] at h
 exact h.2

theorem fd_one (f:Fd):f.cells.all (·.oneCell')=true:=by simp [Fd.cells,Value.oneCell']

end Go.Proofs.YtbajeckeeekhnaaGreat
