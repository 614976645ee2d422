/- The table of the arithmetic, its functions by their numbers, and impl.Alu. -/
import Derived.Test.YtjkeiedjnefeaaaRAluC
namespace Go.Proofs.YtjkeiedjnefeaaaR
open Go.RowKit
set_option linter.unusedVariables false

def AF.fn : AF → Nat
  | .sum => 50 | .slt => 51 | .sltu => 52 | .xor => 53 | .or => 54 | .and => 55
  | .sl => 56 | .sr => 57 | .sra => 58 | .sub => 62 | .mul => 63
  | .mulh => 64 | .mulhsu => 65 | .high => 19 | .div => 66 | .divu => 67
  | .rem => 68 | .remu => 69

def SD.fn : SD → Nat
  | .low => 59 | .sgn => 61 | .five => 60

theorem AF.calls (f : AF) (a b : Int) (a0 : 0 ≤ a) (a1 : a < 18446744073709551616) (b0 : 0 ≤ b) (b1 : b < 18446744073709551616) (w : World) :
    Calls Try.prog f.fn #[.int .u64 a, .int .u64 b] w fun e w' => e = .returned (.int .u64 (f.v a b)) ∧ ∃ m, w' = w.drewN m := by
  cases f
  · exact quiet_same (sumOf_any a b w)
  · exact quiet_same (signedLess_any a b w)
  · exact quiet_same (wordLess_any a b w)
  · exact quiet_same (xorOf_any a b w)
  · exact quiet_same (orOf_any a b w)
  · exact quiet_same (andOf_any a b w)
  · exact quiet_drew (movedLeft_any a b b0 b1 w)
  · exact quiet_drew (movedRight_any a b b0 b1 w)
  · exact quiet_drew (movedRightSigned_any a b b0 b1 w)
  · exact quiet_same (differenceOf_any a b w)
  · exact quiet_same (productOf_any a b w)
  · exact quiet_same (highSigned_any a b a0 a1 b0 b1 w)
  · exact quiet_same (highSignedWord_any a b a0 a1 b0 b1 w)
  · exact quiet_same (implHigh_any a b a0 a1 b0 b1 w)
  · exact quiet_same (signedQuotient_any a b b0 b1 w)
  · exact quiet_same (wordQuotient_any a b w)
  · exact quiet_same (signedRest_any a b b0 b1 w)
  · exact quiet_same (wordRest_any a b w)

theorem SD.calls (s : SD) (x : Int) (h0 : 0 ≤ x) (h1 : x < 18446744073709551616) (w : World) :
    Calls Try.prog s.fn #[.int .u64 x] w fun e w' => e = .returned (.int .u64 (s.v x)) ∧ ∃ m, w' = w.drewN m := by
  cases s
  · exact quiet_same (lowHalf_any x h0 w)
  · exact quiet_same (signedLow_any x w)
  · exact quiet_drew (lowFive_any x h0 h1 w)

def fnV (n : Nat) : Value := .func (.func n) #[] #[]

def AO.cells : AO → List Value
  | .d f => [.func (.func f.fn) #[] #[], .nilFunc, .nilFunc]
  | .w f l r => [.func (.func f.fn) #[] #[], .func (.func l.fn) #[] #[], .func (.func r.fn) #[] #[]]

def aluCells : Array Value := (aos.flatMap AO.cells).toArray

def aluZero : Array Value := (List.replicate 123 Value.nilFunc).toArray

theorem aluZero_size : aluZero.size = 123 := by kernel_rfl

theorem aluCells_size : aluCells.size = 123 := by kernel_rfl

theorem aluZero_info : (Try.prog.info? 61).bind (·.zero) = some (.agg aluZero) := by kernel_rfl

theorem aluCells_one : aluCells.all (·.oneCell') = true := by kernel_rfl

theorem aluRows_size : (Try.prog.info? 61).map (·.size) = some 123 := by kernel_rfl

theorem aos_len : aos.length = 41 := by rfl

theorem aluCells_at (k : Nat) (h : k < 41) (j : Nat) (hj : j < 3) : aluCells[k * 3 + j]? = (aoAt k).cells[j]? := by
  have := flat_get AO.cells 3 aos (by intro x _; cases x <;> rfl) k (by rw [aos_len]; exact h) j hj
  have e : aos[k]'(by rw [aos_len]; exact h) = aoAt k := by
    simp [aoAt, List.getD, List.getElem?_eq_getElem (show k < aos.length by rw [aos_len]; exact h)]
  rw [e] at this
  rw [← this]
  simp [aluCells]

set_option maxRecDepth 100000 in
set_option maxHeartbeats 4000000 in
theorem aluRows_any (w : World) : Calls Try.prog 40 #[] w fun e w' => e = .returned (.agg aluCells) ∧ Below w.heap.size w w' := by
  go_enter Try.func40, Try.ntmps40
  apply wp_seq_k; intro K0 hK0
  apply wp_region_list
  refine wpList_allocZ rfl 61 rfl (some 0) rfl _ aluZero_info ?_
  apply wpList_nil
  refine hK0 _ _ ?_
  clear hK0 K0
  apply wp_seq_k; intro K0 hK0
  apply wp_region_lit
  refine wpList_buildsTo 42 0 42 (.pointer (some ⟨w.heap.size, 0, none⟩)) (.agg aluCells) (by kernel_rfl) ?_
  intro a' h0 h99 hd
  have hg : (w.alloc (.cells (Value.agg aluZero).cells 61)).heap[w.heap.size]? = some (.cells aluZero 61 (0, 0)) := heap_alloc_new _ _
  refine wpList_store_rowTo rfl 61 (.tmp 0) (.tmp 42) rfl rfl w.heap.size aluCells h0 h99 61 aluZero hg (by rw [aluRows_size, aluCells_size]) (by rw [aluZero_size, aluCells_size]) aluCells_one ?_
  apply wpList_nil
  refine hK0 _ _ ?_
  clear hK0 K0
  apply wp_ret
  refine bodyPost_ret (results_cell_row Try.results40 _ _ _ _ _ _ _ h0 (setRow_heap _ _ _ _ _ _ hg) Try.underlying61 rfl (by rw [aluRows_size, aluCells_size])) hd ⟨rfl, ?_⟩
  exact below_setRow ((Below.refl _ _).alloc (Nat.le_refl _) _) (Nat.le_refl _) _

theorem aluRows_T (w : World) : Calls Try.prog 40 #[] w fun e w' => ∃ T, e = .returned T ∧ Hid (T = .agg aluCells) ∧ Below w.heap.size w w' :=
  (aluRows_any w).mono fun e w' h => ⟨.agg aluCells, h.1, (rfl : Value.agg aluCells = .agg aluCells), h.2⟩

theorem AF.enters (f : AF) : (Try.prog.funcs[f.fn]?).map (fun fn => (fn.name == "runtime.NumGoroutine", fn.body.isSome)) = some (false, true) := by cases f <;> kernel_rfl

theorem SD.enters (s : SD) : (Try.prog.funcs[s.fn]?).map (fun fn => (fn.name == "runtime.NumGoroutine", fn.body.isSome)) = some (false, true) := by cases s <;> kernel_rfl

end Go.Proofs.YtjkeiedjnefeaaaR
