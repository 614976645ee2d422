/- Contracts of the functions that find a place in memory: the sizes, what lies inside, impl.ramPlace and spec.l1Inside. -/
import Derived.Test.YtembleeoilbeaafBase
namespace Go.Proofs.Ytembleeoilbeaaf
open Go.RowKit
set_option linter.unusedVariables false

theorem size_cases (s : Int) : (s = 1 ∨ s = 2 ∨ s = 4 ∨ s = 8) ∨ ((s == 1) = false ∧ (s == 2) = false ∧ (s == 4) = false ∧ (s == 8) = false) := by
  by_cases h1 : s = 1
  · exact .inl (.inl h1)
  · by_cases h2 : s = 2
    · exact .inl (.inr (.inl h2))
    · by_cases h3 : s = 4
      · exact .inl (.inr (.inr (.inl h3)))
      · by_cases h4 : s = 8
        · exact .inl (.inr (.inr (.inr h4)))
        · exact .inr (by simp [h1, h2, h3, h4])

theorem sizeB_no {s : Int} (h : (s == 1) = false ∧ (s == 2) = false ∧ (s == 4) = false ∧ (s == 8) = false) : sizeB s = false := by
  simp at h; simp [sizeB, h]

theorem specSize_any (s : Int) (w : World) : Calls Try.prog 22 #[.int .i64 s] w fun e w' => e = .returned (.bool (sizeB s)) ∧ w' = w := by
  rcases size_cases s with (rfl | rfl | rfl | rfl) | h
  · go_enter Try.func22, Try.ntmps22
    go_wp2
    go_ret
    exact ⟨rfl, rfl⟩
  · go_enter Try.func22, Try.ntmps22
    go_wp2
    go_ret
    exact ⟨rfl, rfl⟩
  · go_enter Try.func22, Try.ntmps22
    go_wp2
    go_ret
    exact ⟨rfl, rfl⟩
  · go_enter Try.func22, Try.ntmps22
    go_wp2
    go_ret
    exact ⟨rfl, rfl⟩
  · have F : Hid (sizeB s = false) := sizeB_no h
    obtain ⟨h1, h2, h3, h4⟩ := h
    go_enter Try.func22, Try.ntmps22
    go_wp2
    go_ret
    exact ⟨by rw [F.out]; rfl, rfl⟩

theorem implSize_any (s : Int) (w : World) : Calls Try.prog 31 #[.int .i64 s] w fun e w' => e = .returned (.bool (sizeB s)) ∧ w' = w := by
  rcases size_cases s with (rfl | rfl | rfl | rfl) | h
  · go_enter Try.func31, Try.ntmps31
    go_wp2
    go_ret
    exact ⟨rfl, rfl⟩
  · go_enter Try.func31, Try.ntmps31
    go_wp2
    go_ret
    exact ⟨rfl, rfl⟩
  · go_enter Try.func31, Try.ntmps31
    go_wp2
    go_ret
    exact ⟨rfl, rfl⟩
  · go_enter Try.func31, Try.ntmps31
    go_wp2
    go_ret
    exact ⟨rfl, rfl⟩
  · have F : Hid (sizeB s = false) := sizeB_no h
    obtain ⟨h1, h2, h3, h4⟩ := h
    go_enter Try.func31, Try.ntmps31
    go_wp2
    go_ret
    exact ⟨by rw [F.out]; rfl, rfl⟩

/-- What impl.ramPlace answers. -/
def placeB (n : Nat) (addr size : Int) : Int := if okB n addr size then addr - 2147483648 else 0

set_option maxHeartbeats 400000 in
theorem place_any (a : Option Addr) (n cap : Nat) (addr size : Int) (w : World) (hn : n ≤ 1048576) (ha : 0 ≤ addr) (ha2 : addr ≤ 18446744073709551615) :
    Calls Try.prog 25 #[.slice a n cap, .int .u64 addr, .int .i64 size] w fun e w' => e = .returned (.tuple #[.int .i64 (placeB n addr size), .bool (okB n addr size)]) ∧ w' = w := by
  cases hr : ramOkB n
  · have F1 : Hid (okB n addr size = false) := by show okB n addr size = false; simp [okB, hr]
    have F2 : Hid (placeB n addr size = 0) := by show placeB n addr size = 0; simp [placeB, F1.out]
    go_enter Try.func25, Try.ntmps25
    go_wp2_with (go_at_call 10; refine (implRamOk_any _ _ _ _ hn).mono ?_; rintro e w' ⟨rfl, rfl⟩)
    go_ret2
    exact ⟨by rw [F1.out, F2.out]; rfl, rfl⟩
  · have hb := ramOkB_bd hr
    cases hsz : sizeB size
    · have F1 : Hid (okB n addr size = false) := by show okB n addr size = false; simp [okB, hsz]
      have F2 : Hid (placeB n addr size = 0) := by show placeB n addr size = 0; simp [placeB, F1.out]
      go_enter Try.func25, Try.ntmps25
      go_wp2_with (first | (go_at_call 10; refine (implRamOk_any _ _ _ _ hn).mono ?_; rintro e w' ⟨rfl, rfl⟩) | (go_at_call 31; refine (implSize_any _ _).mono ?_; rintro e w' ⟨rfl, rfl⟩))
      go_ret2
      exact ⟨by rw [F1.out, F2.out]; rfl, rfl⟩
    · have hs5 : size = 1 ∨ size = 2 ∨ size = 4 ∨ size = 8 := of_decide_eq_true hsz
      have hs1 : 1 ≤ size := by omega
      have hs2 : size ≤ 8 := by omega
      clear hs5
      by_cases hlow : addr < 2147483648
      · have F1 : Hid (okB n addr size = false) := by show okB n addr size = false; simp [okB]; omega
        have F2 : Hid (placeB n addr size = 0) := by show placeB n addr size = 0; simp [placeB, F1.out]
        have d1 : decide (addr < 2147483648) = true := by simpa using hlow
        go_enter Try.func25, Try.ntmps25
        go_wp2_with (first | (go_at_call 10; refine (implRamOk_any _ _ _ _ hn).mono ?_; rintro e w' ⟨rfl, rfl⟩) | (go_at_call 31; refine (implSize_any _ _).mono ?_; rintro e w' ⟨rfl, rfl⟩))
        go_ret2
        exact ⟨by rw [F1.out, F2.out]; rfl, rfl⟩
      · have d1 : decide (addr < 2147483648) = false := by simpa using hlow
        by_cases hin : addr - 2147483648 + size ≤ n
        · have F1 : Hid (okB n addr size = true) := by show okB n addr size = true; simp [okB, hr, hsz]; omega
          have F2 : Hid (placeB n addr size = addr - 2147483648) := by show placeB n addr size = _; simp [placeB, F1.out]
          have d2 : decide ((n : Int) - size < addr - 2147483648) = false := by simp; omega
          go_enter Try.func25, Try.ntmps25
          go_wp2_with (first | (go_at_call 10; refine (implRamOk_any _ _ _ _ hn).mono ?_; rintro e w' ⟨rfl, rfl⟩) | (go_at_call 31; refine (implSize_any _ _).mono ?_; rintro e w' ⟨rfl, rfl⟩))
          go_ret2
          exact ⟨by rw [F1.out, F2.out]; rfl, rfl⟩
        · have F1 : Hid (okB n addr size = false) := by show okB n addr size = false; simp [okB]; omega
          have F2 : Hid (placeB n addr size = 0) := by show placeB n addr size = 0; simp [placeB, F1.out]
          have d2 : decide ((n : Int) - size < addr - 2147483648) = true := by simp; omega
          go_enter Try.func25, Try.ntmps25
          go_wp2_with (first | (go_at_call 10; refine (implRamOk_any _ _ _ _ hn).mono ?_; rintro e w' ⟨rfl, rfl⟩) | (go_at_call 31; refine (implSize_any _ _).mono ?_; rintro e w' ⟨rfl, rfl⟩))
          go_ret2
          exact ⟨by rw [F1.out, F2.out]; rfl, rfl⟩

set_option maxHeartbeats 400000 in
theorem inside_any (a : Option Addr) (n cap : Nat) (addr size : Int) (w : World) (hr : ramOkB n = true) (hsz : sizeB size = true) (ha : 0 ≤ addr) (ha2 : addr ≤ 18446744073709551615) :
    Calls Try.prog 23 #[.slice a n cap, .int .u64 addr, .int .i64 size] w fun e w' => e = .returned (.bool (okB n addr size)) ∧ w' = w := by
  have hb := ramOkB_bd hr
  have hs5 : size = 1 ∨ size = 2 ∨ size = 4 ∨ size = 8 := of_decide_eq_true hsz
  have hs1 : 1 ≤ size := by omega
  have hs2 : size ≤ 8 := by omega
  clear hs5
  by_cases hlow : 2147483648 ≤ addr
  · by_cases hlt : addr - 2147483648 < n
    · by_cases hin : size ≤ n - (addr - 2147483648)
      · have F1 : Hid (okB n addr size = true) := by show okB n addr size = true; simp [okB, hr, hsz]; omega
        have d1 : decide (2147483648 ≤ addr) = true := by simpa using hlow
        have d2 : decide (addr - 2147483648 < (n : Int)) = true := by simpa using hlt
        have d3 : decide (size ≤ (n : Int) - (addr - 2147483648)) = true := by simpa using hin
        go_enter Try.func23, Try.ntmps23
        go_wp2
        go_ret
        exact ⟨by rw [F1.out]; rfl, rfl⟩
      · have F1 : Hid (okB n addr size = false) := by show okB n addr size = false; simp [okB]; omega
        have d1 : decide (2147483648 ≤ addr) = true := by simpa using hlow
        have d2 : decide (addr - 2147483648 < (n : Int)) = true := by simpa using hlt
        have d3 : decide (size ≤ (n : Int) - (addr - 2147483648)) = false := by simpa using hin
        go_enter Try.func23, Try.ntmps23
        go_wp2
        go_ret
        exact ⟨by rw [F1.out]; rfl, rfl⟩
    · have F1 : Hid (okB n addr size = false) := by show okB n addr size = false; simp [okB]; omega
      have d1 : decide (2147483648 ≤ addr) = true := by simpa using hlow
      have d2 : decide (addr - 2147483648 < (n : Int)) = false := by simpa using hlt
      go_enter Try.func23, Try.ntmps23
      go_wp2
      go_ret
      exact ⟨by rw [F1.out]; rfl, rfl⟩
  · have F1 : Hid (okB n addr size = false) := by show okB n addr size = false; simp [okB]; omega
    have d1 : decide (2147483648 ≤ addr) = false := by simpa using hlow
    go_enter Try.func23, Try.ntmps23
    go_wp2
    go_ret
    exact ⟨by rw [F1.out]; rfl, rfl⟩

end Go.Proofs.Ytembleeoilbeaaf
