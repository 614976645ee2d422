/- The walk of laws.FnExactShow: both show an instruction alike. -/
import Derived.Test.YtjoaccdbiomdjaaDoorRShoI
namespace Go.Proofs.YtjoaccdbiomdjaaDoorR.fnExactShow
open Go.RowKit
set_option linter.unusedVariables false

set_option maxHeartbeats 800000 in
theorem walk (op rd a b imm : Int) (h : IW ⟨op, rd, a, b, imm⟩) (w : World) (hT : Tp w) :
    Calls Tryd.prog 3 #[.agg #[.int .i64 op, .int .i64 rd, .int .i64 a, .int .i64 b, .int .i64 imm]] w fun e w' => e = .returned (.bool true) ∧ Below w.heap.size w w' := by
  obtain ⟨T, hT0⟩ : ∃ T : ByteArray, T = ⟨(showL ⟨op, rd, a, b, imm⟩).toArray⟩ := ⟨_, rfl⟩
  have HS : Hid (∀ W : World, Calls Tryd.prog 7 #[.agg #[.int .i64 op, .int .i64 rd, .int .i64 a, .int .i64 b, .int .i64 imm]] W fun e w' => e = .returned (.string T) ∧ Below W.heap.size W w') := fun W => by rw [hT0]; exact specShow_any ⟨op, rd, a, b, imm⟩ h W
  have HI : Hid (∀ W : World, Tp W → Calls Tryd.prog 9 #[.agg #[.int .i64 op, .int .i64 rd, .int .i64 a, .int .i64 b, .int .i64 imm]] W fun e w' => e = .returned (.string T) ∧ Below W.heap.size W w') := fun W hW => by rw [hT0]; exact implShow_any ⟨op, rd, a, b, imm⟩ h W hW
  have htt : (T.toList != T.toList) = false := by simp
  have HP : Hid (Tp w) := hT
  clear hT0 hT h
  go_enter Tryd.func3, Tryd.ntmps3
  go_wp2_with fail
  refine (fnExactEncode.toInst_any op rd a b imm _).mono ?_
  rintro e w2 ⟨rfl, hb2⟩
  have A2 : Hid (Below w.heap.size w w2) := below_trans ((Below.refl _ _).alloc (Nat.le_refl _) _) hb2
  have R2 : Hid (w2.heap[w.heap.size]? = some (.cells #[.int .i64 op, .int .i64 rd, .int .i64 a, .int .i64 b, .int .i64 imm] 23 (0, 0))) := row_keep (heap_alloc_new _ _) hb2
  clear hb2
  go_wp2_with fail
  refine (HS.out _).mono ?_
  rintro e w3 ⟨rfl, hb3⟩
  have A3 : Hid (Below w.heap.size w w3) := below_trans A2.out hb3
  have K3 := row_keep R2.out hb3
  have q0 : w3.cell? ⟨w.heap.size, 0, none⟩ = some (.int .i64 op) := (cell_of_row _ _ _ _ _ _ K3).trans rfl
  have q1 : w3.cell? ⟨w.heap.size, 1, none⟩ = some (.int .i64 rd) := (cell_of_row _ _ _ _ _ _ K3).trans rfl
  have q2 : w3.cell? ⟨w.heap.size, 2, none⟩ = some (.int .i64 a) := (cell_of_row _ _ _ _ _ _ K3).trans rfl
  have q3 : w3.cell? ⟨w.heap.size, 3, none⟩ = some (.int .i64 b) := (cell_of_row _ _ _ _ _ _ K3).trans rfl
  have q4 : w3.cell? ⟨w.heap.size, 4, none⟩ = some (.int .i64 imm) := (cell_of_row _ _ _ _ _ _ K3).trans rfl
  clear hb3 K3
  go_wp2_with fail
  refine (fnExactEncode.toInst_any op rd a b imm _).mono ?_
  rintro e w4 ⟨rfl, hb4⟩
  have A4 : Hid (Below w.heap.size w w4) := below_trans A3.out hb4
  clear hb4
  go_wp2_with fail
  refine (HI.out _ (HP.out.below A4.out)).mono ?_
  rintro e w5 ⟨rfl, hb5⟩
  have A5 : Hid (Below w.heap.size w w5) := below_trans A4.out hb5
  clear hb5
  go_wp2_with fail
  go_ret
  exact ⟨rfl, A5.out⟩

end Go.Proofs.YtjoaccdbiomdjaaDoorR.fnExactShow
