/- The walk of laws.FnExactNewCsrs: it returns true, and writes nothing that was there. -/
import Derived.Test.YtiefjllidnjbdahCsrE
import Derived.Test.YtiefjllidnjbdahCsrY
namespace Go.Proofs.Ytiefjllidnjbdah.fnExactNewCsrs
open Go.RowKit
set_option linter.unusedVariables false

set_option maxHeartbeats 1000000 in
theorem walk (w : World) : Calls Try.prog 7 #[] w fun e w' => e = .returned (.bool true) ∧ Below w.heap.size w w' := by
  obtain ⟨zs, hzs⟩ : ∃ zs, List.replicate 22 (0 : Int) = zs := ⟨_, rfl⟩
  have HZ : Hid (zs.length = 22) := by show zs.length = 22; rw [← hzs]; rfl
  have tz : decide (zs = zs) = true := by simp
  have hS := specNewCsrs_any
  have hI := implNewCsrs_any
  rw [hzs] at hS hI
  have HS : Hid (∀ w : World, Calls Try.prog 19 #[] w fun e w' => e = .returned (.slice (some ⟨w.heap.size, 0, none⟩) 22 22) ∧ w'.ownsRow w.heap.size 22 1 (.slice (some ⟨w.heap.size, 0, none⟩) 22 22) 22 (zs.map (Value.int .u64)) ∧ Below w.heap.size w w') := hS
  have HI : Hid (∀ w : World, Calls Try.prog 20 #[] w fun e w' => e = .returned (.slice (some ⟨w.heap.size, 0, none⟩) 22 22) ∧ w'.ownsRow w.heap.size 22 1 (.slice (some ⟨w.heap.size, 0, none⟩) 22 22) 22 (zs.map (Value.int .u64)) ∧ Below w.heap.size w w') := hI
  clear hS hI hzs
  go_enter Try.func7, Try.ntmps7
  go_wp2_with fail
  refine (HS.out _).mono ?_
  rintro e w1 ⟨rfl, ow1, hb1⟩
  go_wp2_with fail
  refine (HI.out _).mono ?_
  rintro e w2 ⟨rfl, og2, hb2⟩
  have B2 := below_trans hb1 hb2
  have ow2 := ownsRow_below ow1 hb2
  have lg : w.heap.size < w1.heap.size := own_lt ow1
  go_wp2_with fail
  refine (eqUint64S_any _ _ 22 22 _ _ zs zs w2 HZ.out HZ.out (by omega) (by omega) (own_sl og2) (own_sl ow2)).mono ?_
  rintro e w3 ⟨rfl, hb3⟩
  have B3 := below_trans B2 hb3
  have ow3 := ownsRow_below ow2 hb3
  have og3 := ownsRow_below og2 hb3
  go_wp2_with fail
  refine (markUint64S_any _ 22 22 _ 1 zs w3 (by omega) (by omega) (by omega) og3).mono ?_
  rintro e w4 ⟨rfl, og4, gr4⟩
  have B4 : Below w.heap.size w w4 := B3.grown gr4 B3.size (by intro k hk; simp [Value.ownBlock] at hk; omega)
  have ow4 := kept_of ow3 gr4 (by intro k hk h; simp [Value.ownBlock] at hk h; omega)
  go_wp2_with fail
  refine (heldUint64S_any _ 22 22 1 w4 (by omega) (by omega) (by omega) (own_sl og4)).mono ?_
  rintro e w5 ⟨rfl, hw5⟩
  subst hw5
  go_wp2_with fail
  refine (HI.out _).mono ?_
  rintro e w6 ⟨rfl, oh6, hb6⟩
  have B6 := below_trans B4 hb6
  have ow6 := ownsRow_below ow4 hb6
  have og6 := ownsRow_below og4 hb6
  go_wp2_with fail
  refine (eqUint64S_any _ _ 22 22 _ _ zs zs w6 HZ.out HZ.out (by omega) (by omega) (own_sl oh6) (own_sl ow6)).mono ?_
  rintro e w7 ⟨rfl, hb7⟩
  have B7 := below_trans B6 hb7
  have og7 := ownsRow_below og6 hb7
  go_wp2_with fail
  refine (heldUint64S_any _ 22 22 1 w7 (by omega) (by omega) (by omega) (own_sl og7)).mono ?_
  rintro e w8 ⟨rfl, hw8⟩
  subst hw8
  go_wp2_with fail
  go_ret
  exact ⟨rfl, B7⟩

end Go.Proofs.Ytiefjllidnjbdah.fnExactNewCsrs
