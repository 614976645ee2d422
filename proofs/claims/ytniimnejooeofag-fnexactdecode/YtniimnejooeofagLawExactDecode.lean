/- The walk of laws.FnExactDecode: at every word both say the same, so the law returns true. -/
import Derived.Test.YtniimnejooeofagDecE
namespace Go.Proofs.Ytniimnejooeofag.fnExactDecode
open Go.RowKit
set_option linter.unusedVariables false

theorem decV_parts (x : Int) : ∃ (a b c d e : Int) (t : Bool), decV x = .tuple #[.agg #[.int .i64 a, .int .i64 b, .int .i64 c, .int .i64 d, .int .i64 e], .bool t] := by
  unfold decV
  cases dec x with
  | none => exact ⟨_, _, _, _, _, _, rfl⟩
  | some i => exact ⟨_, _, _, _, _, _, rfl⟩

set_option maxHeartbeats 400000 in
theorem eqInst_same (a b c d e : Int) (w : World) :
    Calls Try.prog 10 #[.agg #[.int .i64 a, .int .i64 b, .int .i64 c, .int .i64 d, .int .i64 e], .agg #[.int .i64 a, .int .i64 b, .int .i64 c, .int .i64 d, .int .i64 e]] w fun r w' => r = .returned (.bool true) ∧ Below w.heap.size w w' := by
  have d1 : (a != a) = false := by simp
  have d2 : (b != b) = false := by simp
  have d3 : (c != c) = false := by simp
  have d4 : (d != d) = false := by simp
  have d5 : (e != e) = false := by simp
  go_enter Try.func10, Try.ntmps10
  go_wp2_with fail
  go_ret
  exact ⟨rfl, ((Below.refl _ _).alloc (Nat.le_refl _) _).alloc (by simp) _⟩

set_option maxHeartbeats 400000 in
theorem walk (a0 : Int) (w0 : (Lit.int .u64 a0).wf = true) (w : World) :
    Calls Try.prog 3 #[.int .u64 a0] w fun e w' => e = .returned (.bool true) ∧ Below w.heap.size w w' := by
  have hx := u64_bd w0
  obtain ⟨a, b, c, d, i, t, hV⟩ := decV_parts a0
  have SD := specDecode_any a0 hx.1 (by omega)
  have ID := implDecode_any a0 hx.1 (by omega)
  rw [hV] at SD ID
  clear hV
  have ht : (t != t) = false := by simp
  go_enter Try.func3, Try.ntmps3
  go_wp2_with fail
  refine (SD w).mono ?_
  rintro e w1 ⟨rfl, hb1⟩
  go_wp2_with fail
  refine (ID _).mono ?_
  rintro e w2 ⟨rfl, hb2⟩
  have hA : ∀ j, w2.cell? ⟨w1.heap.size, j, none⟩ = (w1.alloc (.cells #[.int .i64 a, .int .i64 b, .int .i64 c, .int .i64 d, .int .i64 i] 24)).cell? ⟨w1.heap.size, j, none⟩ := fun j => hb2.cell (by simp)
  have hR : ∀ j, (w1.alloc (.cells #[.int .i64 a, .int .i64 b, .int .i64 c, .int .i64 d, .int .i64 i] 24)).cell? ⟨w1.heap.size, j, none⟩ = (#[.int .i64 a, .int .i64 b, .int .i64 c, .int .i64 d, .int .i64 i] : Array Value)[j]? := fun j => cell_of_row _ _ j _ _ _ (heap_alloc_new _ _)
  have hlt : w1.heap.size < w2.heap.size := by have := hb2.size; simp at this; omega
  have B2 : ∀ o j, (w2.alloc o).cell? ⟨w1.heap.size, j, none⟩ = w2.cell? ⟨w1.heap.size, j, none⟩ := fun o j => ((Below.refl w2.heap.size w2).alloc (Nat.le_refl _) o).cell (p := ⟨w1.heap.size, j, none⟩) hlt
  have c0 : ∀ o, (w2.alloc o).cell? ⟨w1.heap.size, 0, none⟩ = some (.int .i64 a) := fun o => (B2 o 0).trans ((hA 0).trans (hR 0))
  have c1 : ∀ o, (w2.alloc o).cell? ⟨w1.heap.size, 1, none⟩ = some (.int .i64 b) := fun o => (B2 o 1).trans ((hA 1).trans (hR 1))
  have c2 : ∀ o, (w2.alloc o).cell? ⟨w1.heap.size, 2, none⟩ = some (.int .i64 c) := fun o => (B2 o 2).trans ((hA 2).trans (hR 2))
  have c3 : ∀ o, (w2.alloc o).cell? ⟨w1.heap.size, 3, none⟩ = some (.int .i64 d) := fun o => (B2 o 3).trans ((hA 3).trans (hR 3))
  have c4 : ∀ o, (w2.alloc o).cell? ⟨w1.heap.size, 4, none⟩ = some (.int .i64 i) := fun o => (B2 o 4).trans ((hA 4).trans (hR 4))
  have hb12 : Below w.heap.size w w2 := hb1.trans ((((Below.refl w1.heap.size w1).alloc (Nat.le_refl _) _).trans (hb2.mono (by simp))).mono hb1.size)
  clear hA hR B2 SD ID hb1 hb2
  go_wp2_with fail
  refine (eqInst_same a b c d i _).mono ?_
  rintro e w3 ⟨rfl, hb3⟩
  go_wp2_with fail
  go_ret
  exact ⟨rfl, (hb12.alloc hb12.size _).trans (hb3.mono (by have := hb12.size; simp; omega))⟩

end Go.Proofs.Ytniimnejooeofag.fnExactDecode
