/- What is drawn fits its kind: words, Ops. -/
import Derived.Test.YtbkddoibefgplaaCurC
import Derived.OwnWalk
namespace Go.Proofs.Ytbkddoibefgplaa
open Go.RowKit
set_option linter.unusedVariables false

theorem wf64 {x : Int} (h0 : -9223372036854775808 ≤ x) (h1 : x ≤ 9223372036854775807) : (Lit.int .i64 x).wf = true := by
  have hmin : IntKind.i64.min = -9223372036854775808 := rfl
  have hmax : IntKind.i64.max = 9223372036854775807 := rfl
  simp only [Lit.wf, Bool.and_eq_true, decide_eq_true_eq]
  omega

/-- A block that is not the cursor's stays behind a callee of the cursor. -/
theorem Cs.keep {w0 w w' : World} {g : Nat} {a : Option Addr} {n cap : Nat} (h : Cs w0 g a n cap w w') {k : Nat} {o : Obj} (hk : w.heap[k]? = some o) (hne : k ≠ g) : w'.heap[k]? = some o := by
  by_cases hl : k < w.heap.size
  · rw [h.2.block k hl (by simp [hne])]; exact hk
  · rw [Array.getElem?_eq_none (by omega)] at hk; cases hk

theorem Cur.lt {w0 w : World} {g : Nat} {a : Option Addr} {n cap : Nat} (h : Cur w0 w g a n cap) : g < w.heap.size := by
  obtain ⟨i, x, _, hrow⟩ := h.row
  by_cases hl : g < w.heap.size
  · exact hl
  · rw [Array.getElem?_eq_none (by omega)] at hrow; cases hrow

set_option maxHeartbeats 3200000 in
theorem l1DrawWord_c {w0 : World} {g : Nat} {a : Option Addr} {n cap : Nat} {zs : List Int} (hcd : Code w0 a n zs) (w : World) (hc : Cur w0 w g a n cap) :
    Calls Try.prog 33 #[.pointer (some ⟨g, 0, none⟩)] w fun e w' => ∃ x : Int, e = .returned (.int .u64 x) ∧ (0 ≤ x ∧ x < 18446744073709551616) ∧ Hid (Cs w0 g a n cap w w') := by
  have HD : Hid (Code w0 a n zs) := hcd
  have HC : Hid (Cur w0 w g a n cap) := hc
  clear hcd hc
  go_enter Try.func33, Try.ntmps33
  go_wp2_with fail
  go_loopw [3, 4] (fun h i wr => ∃ (k : Nat) (x : Int), k ≤ 8 ∧ h = .int .u64 x ∧ i = .int .i64 k ∧ (0 ≤ x ∧ x < 18446744073709551616) ∧ Hid (Cs w0 g a n cap w wr))
    (fun _ i _ => 8 - (intOf i).toNat)
  case atStart => exact ⟨0, 0, Nat.zero_le _, rfl, rfl, by omega, Cs.refl HC.out⟩
  case round =>
    obtain ⟨k, x, hk, rfl, rfl, ⟨hx0, hx1⟩, hs⟩ := hrel
    by_cases hlt : k < 8
    · go_wp2_with fail
      refine (l1Byte_c HD.out _ hs.out.1).mono ?_
      rintro e w1 ⟨y, rfl, ⟨hy0, hy1⟩, hs1⟩
      obtain ⟨z, hz⟩ : ∃ z, z = IntKind.u64.wrap (IntKind.u64.wrap (x * 256) + y) := ⟨_, rfl⟩
      go_wp2_with fail
      go_roundw
      case rel =>
        refine ⟨k + 1, _, by omega, rfl, by go_num, ?_, hs.out.trans hs1.out⟩
        rw [IntKind.wrap_u64]; omega
      case measure => simp [intOf]; omega
    · go_wp2_with fail
      refine (l1Below_c HD.out 5 (by omega) _ hs.out.1).mono ?_
      rintro e w1 ⟨y, rfl, ⟨hy0, hy1⟩, hs1⟩
      have HS1 : Hid (Cs w0 g a n cap w w1) := hs.out.trans hs1.out
      have hm : 0 ≤ x % 100 ∧ x % 100 < 18446744073709551616 := by omega
      have hsh : 0 ≤ IntKind.u64.wrap (wrap64 x / 1099511627776) ∧ IntKind.u64.wrap (wrap64 x / 1099511627776) < 18446744073709551616 := by rw [IntKind.wrap_u64]; omega
      obtain ⟨k, rfl⟩ := Int.eq_ofNat_of_zero_le hy0
      match k, hy1 with
      | 0, _ =>
        go_wp2_with fail
        have HA : Hid (Cur w0 (w1.alloc (.cells #[.int .u64 0, .int .u64 1, .int .u64 18446744073709551615, .int .u64 9223372036854775808, .int .u64 9223372036854775807, .int .u64 2147483648, .int .u64 2147483647, .int .u64 18446744071562067968, .int .u64 4294967295, .int .u64 64] 24)) g a n cap) := hs1.out.1.grown (grown_alloc _ _ _)
        refine (l1Below_c HD.out 10 (by omega) _ HA.out).mono ?_
        rintro e w2 ⟨y, rfl, ⟨hx0, hx1⟩, hs2⟩
        obtain ⟨k, rfl⟩ := Int.eq_ofNat_of_zero_le hx0
        have hrow : w2.heap[w1.heap.size]? = some (.cells #[.int .u64 0, .int .u64 1, .int .u64 18446744073709551615, .int .u64 9223372036854775808, .int .u64 9223372036854775807, .int .u64 2147483648, .int .u64 2147483647, .int .u64 18446744071562067968, .int .u64 4294967295, .int .u64 64] 24 (0, 0)) := hs2.out.keep (heap_alloc_new _ _) (Nat.ne_of_gt hs1.out.1.lt)
        obtain ⟨v, hv, hcell⟩ : ∃ v : Int, (0 ≤ v ∧ v < 18446744073709551616) ∧ w2.cell? ⟨w1.heap.size, k, none⟩ = some (.int .u64 v) := by
          have ec := cell_of_row w2 w1.heap.size k _ _ _ hrow
          match k, hx1 with
          | 0, _ => exact ⟨_, by omega, ec⟩
          | 1, _ => exact ⟨_, by omega, ec⟩
          | 2, _ => exact ⟨_, by omega, ec⟩
          | 3, _ => exact ⟨_, by omega, ec⟩
          | 4, _ => exact ⟨_, by omega, ec⟩
          | 5, _ => exact ⟨_, by omega, ec⟩
          | 6, _ => exact ⟨_, by omega, ec⟩
          | 7, _ => exact ⟨_, by omega, ec⟩
          | 8, _ => exact ⟨_, by omega, ec⟩
          | 9, _ => exact ⟨_, by omega, ec⟩
          | k + 10, h => exact absurd h (by omega)
        have HV : Hid (0 ≤ v ∧ v < 18446744073709551616) := hv
        have HS : Hid (Cs w0 g a n cap w w2) := ⟨hs2.out.1, grown_trans HS1.out.2 (grown_trans (grown_alloc _ _ _) hs2.out.2)⟩
        clear hrow hv hs hs1 hs2 HA HC HS1
        go_wp2_with fail
        go_ret
        exact ⟨_, rfl, HV.out, HS⟩
      | 1, _ =>
        go_wp2_with fail
        go_ret
        exact ⟨_, rfl, hm, HS1⟩
      | 2, _ =>
        go_wp2_with fail
        go_ret
        exact ⟨_, rfl, hsh, HS1⟩
      | 3, _ =>
        go_wp2_with fail
        go_ret
        exact ⟨_, rfl, ⟨hx0, hx1⟩, HS1⟩
      | 4, _ =>
        go_wp2_with fail
        go_ret
        exact ⟨_, rfl, ⟨hx0, hx1⟩, HS1⟩
      | k + 5, h => exact absurd h (by omega)

end Go.Proofs.Ytbkddoibefgplaa
