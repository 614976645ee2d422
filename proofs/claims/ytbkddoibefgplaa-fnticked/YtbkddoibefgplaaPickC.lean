/- The laws' pick: a number below n out of a code. -/
import Derived.Test.YtbkddoibefgplaaMemC
namespace Go.Proofs.Ytbkddoibefgplaa
open Go.RowKit
set_option linter.unusedVariables false

set_option maxHeartbeats 1600000 in
theorem pick_any (a : Option Addr) (n cap : Nat) (zs : List Int) (m : Int) (w : World) (hz : zs.length = n) (hn : n ≤ 4097) (hs : Sl .u8 w a zs) (hw : ∀ y ∈ zs, (Lit.int .u8 y).wf = true) (hm : 0 < m) (hm2 : m ≤ 1099511627776) :
    Calls Try.prog 16 #[.slice a n cap, .int .i64 m] w fun e w' => ∃ x : Int, e = .returned (.int .i64 x) ∧ (0 ≤ x ∧ x < m) ∧ w' = w := by
  have HS : Hid (Sl .u8 w a zs) := hs
  have HW : Hid (∀ y ∈ zs, (Lit.int .u8 y).wf = true) := hw
  have HZ : Hid (zs.length = n) := hz
  clear hs hw hz
  go_enter Try.func16, Try.ntmps16
  go_wp2_with fail
  go_loopw [5, 6] (fun k i wr => ∃ (x : Int) (j : Nat), k = .int .i64 x ∧ i = .int .i64 j ∧ j ≤ n ∧ (0 ≤ x ∧ x ≤ 1000003) ∧ Hid (wr = w)) (fun _ i _ => n - (intOf i).toNat)
  case atStart => exact ⟨n, 0, rfl, rfl, by omega, by omega, rfl⟩
  case round =>
    obtain ⟨x, j, rfl, rfl, hj, ⟨hx0, hx1⟩, hwr⟩ := hrel
    by_cases hlt : j < n
    · obtain ⟨b, off, rfl, hb, hc⟩ := HS.out j (by have := HZ.out; omega)
      have hy : 0 ≤ zs.getD j 0 ∧ zs.getD j 0 ≤ 255 := by
        have hmem : zs.getD j 0 ∈ zs := by
          rw [List.getD_eq_getElem?_getD, List.getElem?_eq_getElem (by have := HZ.out; omega)]
          exact List.getElem_mem _
        simpa [Lit.wf, IntKind.min, IntKind.max, IntKind.signed, IntKind.bits] using HW.out _ hmem
      have hcw : wr.cell? ⟨b, off + j, none⟩ = some (.int .u8 (zs.getD j 0)) := by rw [hwr.out]; exact hc
      generalize zs.getD j 0 = y at *
      have e1 : wrap64 (x * 61) = x * 61 := by unfold wrap64; omega
      have e2 : wrap64 (x * 61 + y) = x * 61 + y := by unfold wrap64; omega
      have e3 : (x * 61 + y).tmod 1000003 = (x * 61 + y) % 1000003 := Int.tmod_eq_emod_of_nonneg (by omega)
      have e4 : IntKind.i64.wrap y = y := by rw [IntKind.wrap_i64]; omega
      have d1 : decide ((j : Int) < (n : Int)) = true := by simp; omega
      obtain ⟨q, hq, hq0, hq1⟩ : ∃ q, (x * 61 + y) % 1000003 = q ∧ 0 ≤ q ∧ q ≤ 1000003 := ⟨_, rfl, by omega, by omega⟩
      clear hc
      go_wp2_with fail
      go_roundw
      case rel => exact ⟨_, j + 1, rfl, by go_num, by omega, by first | exact ⟨hq0, hq1⟩ | (constructor <;> omega), hwr⟩
      case measure => simp [intOf]; omega
    · have hjn : j = n := by omega
      subst hjn
      have d1 : decide ((j : Int) < (j : Int)) = false := by simp
      have e3 : x.tmod m = x % m := Int.tmod_eq_emod_of_nonneg hx0
      have h5 : 0 ≤ x % m ∧ x % m < m := ⟨Int.emod_nonneg _ (by omega), Int.emod_lt_of_pos _ hm⟩
      have hm0 : (m == 0) = false := by simp; omega
      have H5 : Hid (0 ≤ x % m ∧ x % m < m) := h5
      clear h5
      go_wp2_with fail
      go_ret
      exact ⟨_, rfl, H5.out, hwr.out⟩

end Go.Proofs.Ytbkddoibefgplaa
