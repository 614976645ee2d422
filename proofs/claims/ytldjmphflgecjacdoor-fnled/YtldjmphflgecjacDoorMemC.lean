/- Contracts over memory: the laws' helpers, and chapter 1's functions, the program's and the model's. -/
import Derived.Test.YtldjmphflgecjacDoorProg
import Derived.Test.YtldjmphflgecjacDoorMem
namespace Go.Proofs.YtldjmphflgecjacDoor
open Go.RowKit
set_option linter.unusedVariables false

theorem Tryd.info5 : (Tryd.prog.info? 5).map (fun i => (i.zero, i.size, i.bytes)) = some (some (.int .u8 0), 1, 1) := by kernel_rfl

theorem specRamOk_any (a : Option Addr) (n cap : Nat) (w : World) (hn : n ≤ 1048576) :
    Calls Tryd.prog 39 #[.slice a n cap] w fun e w' => e = .returned (.bool (ramOkB n)) ∧ w' = w := by
  by_cases h1 : 4096 ≤ n
  · by_cases h2 : n ≤ 65536
    · have d2 : decide ((n : Int) ≤ 65536) = true := by simp; omega
      by_cases h3 : n % 4096 = 0
      · have F : Hid (ramOkB n = true) := by show ramOkB n = true; simp [ramOkB, h1, h2, h3]
        have d3 : ((n : Int) % 4096 == 0) = true := by simp; omega
        go_enter Tryd.func39, Tryd.ntmps39
        go_wp2
        go_ret
        exact ⟨by rw [F.out]; rfl, rfl⟩
      · have F : Hid (ramOkB n = false) := by show ramOkB n = false; simp [ramOkB, h3]
        have d3 : ((n : Int) % 4096 == 0) = false := by simp; omega
        go_enter Tryd.func39, Tryd.ntmps39
        go_wp2
        go_ret
        exact ⟨by rw [F.out]; rfl, rfl⟩
    · have F : Hid (ramOkB n = false) := by show ramOkB n = false; simp [ramOkB, h2]
      have d2 : decide ((n : Int) ≤ 65536) = false := by simp; omega
      go_enter Tryd.func39, Tryd.ntmps39
      go_wp2
      go_ret
      exact ⟨by rw [F.out]; rfl, rfl⟩
  · have F : Hid (ramOkB n = false) := by show ramOkB n = false; simp [ramOkB, h1]
    have d1 : decide ((4096 : Int) ≤ n) = false := by simp; omega
    go_enter Tryd.func39, Tryd.ntmps39
    go_wp2
    go_ret
    exact ⟨by rw [F.out]; rfl, rfl⟩

theorem implRamOk_any (a : Option Addr) (n cap : Nat) (w : World) (hn : n ≤ 1048576) :
    Calls Tryd.prog 44 #[.slice a n cap] w fun e w' => e = .returned (.bool (ramOkB n)) ∧ w' = w := by
  by_cases h1 : 4096 ≤ n
  · by_cases h2 : n ≤ 65536
    · have d2 : decide ((n : Int) ≤ 65536) = true := by simp; omega
      by_cases h3 : n % 4096 = 0
      · have F : Hid (ramOkB n = true) := by show ramOkB n = true; simp [ramOkB, h1, h2, h3]
        have d3 : ((n : Int) % 4096 == 0) = true := by simp; omega
        go_enter Tryd.func44, Tryd.ntmps44
        go_wp2
        go_ret
        exact ⟨by rw [F.out]; rfl, rfl⟩
      · have F : Hid (ramOkB n = false) := by show ramOkB n = false; simp [ramOkB, h3]
        have d3 : ((n : Int) % 4096 == 0) = false := by simp; omega
        go_enter Tryd.func44, Tryd.ntmps44
        go_wp2
        go_ret
        exact ⟨by rw [F.out]; rfl, rfl⟩
    · have F : Hid (ramOkB n = false) := by show ramOkB n = false; simp [ramOkB, h2]
      have d2 : decide ((n : Int) ≤ 65536) = false := by simp; omega
      go_enter Tryd.func44, Tryd.ntmps44
      go_wp2
      go_ret
      exact ⟨by rw [F.out]; rfl, rfl⟩
  · have F : Hid (ramOkB n = false) := by show ramOkB n = false; simp [ramOkB, h1]
    have d1 : decide ((4096 : Int) ≤ n) = false := by simp; omega
    go_enter Tryd.func44, Tryd.ntmps44
    go_wp2
    go_ret
    exact ⟨by rw [F.out]; rfl, rfl⟩

theorem specSize_any (s : Int) (w : World) : Calls Tryd.prog 31 #[.int .i64 s] w fun e w' => e = .returned (.bool (sizeB s)) ∧ w' = w := by
  rcases size_cases s with (rfl | rfl | rfl | rfl) | h
  · go_enter Tryd.func31, Tryd.ntmps31
    go_wp2
    go_ret
    exact ⟨rfl, rfl⟩
  · go_enter Tryd.func31, Tryd.ntmps31
    go_wp2
    go_ret
    exact ⟨rfl, rfl⟩
  · go_enter Tryd.func31, Tryd.ntmps31
    go_wp2
    go_ret
    exact ⟨rfl, rfl⟩
  · go_enter Tryd.func31, Tryd.ntmps31
    go_wp2
    go_ret
    exact ⟨rfl, rfl⟩
  · have F : Hid (sizeB s = false) := sizeB_no h
    obtain ⟨h1, h2, h3, h4⟩ := h
    go_enter Tryd.func31, Tryd.ntmps31
    go_wp2
    go_ret
    exact ⟨by rw [F.out]; rfl, rfl⟩

theorem implSize_any (s : Int) (w : World) : Calls Tryd.prog 25 #[.int .i64 s] w fun e w' => e = .returned (.bool (sizeB s)) ∧ w' = w := by
  rcases size_cases s with (rfl | rfl | rfl | rfl) | h
  · go_enter Tryd.func25, Tryd.ntmps25
    go_wp2
    go_ret
    exact ⟨rfl, rfl⟩
  · go_enter Tryd.func25, Tryd.ntmps25
    go_wp2
    go_ret
    exact ⟨rfl, rfl⟩
  · go_enter Tryd.func25, Tryd.ntmps25
    go_wp2
    go_ret
    exact ⟨rfl, rfl⟩
  · go_enter Tryd.func25, Tryd.ntmps25
    go_wp2
    go_ret
    exact ⟨rfl, rfl⟩
  · have F : Hid (sizeB s = false) := sizeB_no h
    obtain ⟨h1, h2, h3, h4⟩ := h
    go_enter Tryd.func25, Tryd.ntmps25
    go_wp2
    go_ret
    exact ⟨by rw [F.out]; rfl, rfl⟩

/-- What impl.ramPlace answers. -/
def placeB (n : Nat) (addr size : Int) : Int := if okB n addr size then addr - 2147483648 else 0

set_option maxHeartbeats 400000 in
theorem place_any (a : Option Addr) (n cap : Nat) (addr size : Int) (w : World) (hn : n ≤ 1048576) (ha : 0 ≤ addr) (ha2 : addr ≤ 18446744073709551615) :
    Calls Tryd.prog 53 #[.slice a n cap, .int .u64 addr, .int .i64 size] w fun e w' => e = .returned (.tuple #[.int .i64 (placeB n addr size), .bool (okB n addr size)]) ∧ w' = w := by
  cases hr : ramOkB n
  · have F1 : Hid (okB n addr size = false) := by show okB n addr size = false; simp [okB, hr]
    have F2 : Hid (placeB n addr size = 0) := by show placeB n addr size = 0; simp [placeB, F1.out]
    go_enter Tryd.func53, Tryd.ntmps53
    go_wp2_with (go_at_call 44; refine (implRamOk_any _ _ _ _ hn).mono ?_; rintro e w' ⟨rfl, rfl⟩)
    go_ret2
    exact ⟨by rw [F1.out, F2.out]; rfl, rfl⟩
  · have hb := ramOkB_bd hr
    cases hsz : sizeB size
    · have F1 : Hid (okB n addr size = false) := by show okB n addr size = false; simp [okB, hsz]
      have F2 : Hid (placeB n addr size = 0) := by show placeB n addr size = 0; simp [placeB, F1.out]
      go_enter Tryd.func53, Tryd.ntmps53
      go_wp2_with (first | (go_at_call 44; refine (implRamOk_any _ _ _ _ hn).mono ?_; rintro e w' ⟨rfl, rfl⟩) | (go_at_call 25; refine (implSize_any _ _).mono ?_; rintro e w' ⟨rfl, rfl⟩))
      go_ret2
      exact ⟨by rw [F1.out, F2.out]; rfl, rfl⟩
    · have hs5 : size = 1 ∨ size = 2 ∨ size = 4 ∨ size = 8 := of_decide_eq_true hsz
      have hs1 : 1 ≤ size := by omega
      have hs2 : size ≤ 8 := by omega
      clear hs5
      by_cases hlow : addr < 2147483648
      · have F1 : Hid (okB n addr size = false) := by show okB n addr size = false; simp [okB]; omega
        have F2 : Hid (placeB n addr size = 0) := by show placeB n addr size = 0; simp [placeB, F1.out]
        have d1 : decide (addr < 2147483648) = true := by simpa using hlow
        go_enter Tryd.func53, Tryd.ntmps53
        go_wp2_with (first | (go_at_call 44; refine (implRamOk_any _ _ _ _ hn).mono ?_; rintro e w' ⟨rfl, rfl⟩) | (go_at_call 25; refine (implSize_any _ _).mono ?_; rintro e w' ⟨rfl, rfl⟩))
        go_ret2
        exact ⟨by rw [F1.out, F2.out]; rfl, rfl⟩
      · have d1 : decide (addr < 2147483648) = false := by simpa using hlow
        by_cases hin : addr - 2147483648 + size ≤ n
        · have F1 : Hid (okB n addr size = true) := by show okB n addr size = true; simp [okB, hr, hsz]; omega
          have F2 : Hid (placeB n addr size = addr - 2147483648) := by show placeB n addr size = _; simp [placeB, F1.out]
          have d2 : decide ((n : Int) - size < addr - 2147483648) = false := by simp; omega
          go_enter Tryd.func53, Tryd.ntmps53
          go_wp2_with (first | (go_at_call 44; refine (implRamOk_any _ _ _ _ hn).mono ?_; rintro e w' ⟨rfl, rfl⟩) | (go_at_call 25; refine (implSize_any _ _).mono ?_; rintro e w' ⟨rfl, rfl⟩))
          go_ret2
          exact ⟨by rw [F1.out, F2.out]; rfl, rfl⟩
        · have F1 : Hid (okB n addr size = false) := by show okB n addr size = false; simp [okB]; omega
          have F2 : Hid (placeB n addr size = 0) := by show placeB n addr size = 0; simp [placeB, F1.out]
          have d2 : decide ((n : Int) - size < addr - 2147483648) = true := by simp; omega
          go_enter Tryd.func53, Tryd.ntmps53
          go_wp2_with (first | (go_at_call 44; refine (implRamOk_any _ _ _ _ hn).mono ?_; rintro e w' ⟨rfl, rfl⟩) | (go_at_call 25; refine (implSize_any _ _).mono ?_; rintro e w' ⟨rfl, rfl⟩))
          go_ret2
          exact ⟨by rw [F1.out, F2.out]; rfl, rfl⟩

set_option maxHeartbeats 400000 in
theorem inside_any (a : Option Addr) (n cap : Nat) (addr size : Int) (w : World) (hr : ramOkB n = true) (hsz : sizeB size = true) (ha : 0 ≤ addr) (ha2 : addr ≤ 18446744073709551615) :
    Calls Tryd.prog 76 #[.slice a n cap, .int .u64 addr, .int .i64 size] w fun e w' => e = .returned (.bool (okB n addr size)) ∧ w' = w := by
  have hb := ramOkB_bd hr
  have hs5 : size = 1 ∨ size = 2 ∨ size = 4 ∨ size = 8 := of_decide_eq_true hsz
  have hs1 : 1 ≤ size := by omega
  have hs2 : size ≤ 8 := by omega
  clear hs5
  by_cases hlow : 2147483648 ≤ addr
  · by_cases hlt : addr - 2147483648 < n
    · by_cases hin : size ≤ n - (addr - 2147483648)
      · have F1 : Hid (okB n addr size = true) := by show okB n addr size = true; simp [okB, hr, hsz]; omega
        have d1 : decide (2147483648 ≤ addr) = true := by simpa using hlow
        have d2 : decide (addr - 2147483648 < (n : Int)) = true := by simpa using hlt
        have d3 : decide (size ≤ (n : Int) - (addr - 2147483648)) = true := by simpa using hin
        go_enter Tryd.func76, Tryd.ntmps76
        go_wp2
        go_ret
        exact ⟨by rw [F1.out]; rfl, rfl⟩
      · have F1 : Hid (okB n addr size = false) := by show okB n addr size = false; simp [okB]; omega
        have d1 : decide (2147483648 ≤ addr) = true := by simpa using hlow
        have d2 : decide (addr - 2147483648 < (n : Int)) = true := by simpa using hlt
        have d3 : decide (size ≤ (n : Int) - (addr - 2147483648)) = false := by simpa using hin
        go_enter Tryd.func76, Tryd.ntmps76
        go_wp2
        go_ret
        exact ⟨by rw [F1.out]; rfl, rfl⟩
    · have F1 : Hid (okB n addr size = false) := by show okB n addr size = false; simp [okB]; omega
      have d1 : decide (2147483648 ≤ addr) = true := by simpa using hlow
      have d2 : decide (addr - 2147483648 < (n : Int)) = false := by simpa using hlt
      go_enter Tryd.func76, Tryd.ntmps76
      go_wp2
      go_ret
      exact ⟨by rw [F1.out]; rfl, rfl⟩
  · have F1 : Hid (okB n addr size = false) := by show okB n addr size = false; simp [okB]; omega
    have d1 : decide (2147483648 ≤ addr) = false := by simpa using hlow
    go_enter Tryd.func76, Tryd.ntmps76
    go_wp2
    go_ret
    exact ⟨by rw [F1.out]; rfl, rfl⟩

set_option maxHeartbeats 400000 in
theorem l1Load_any (a : Option Addr) (n cap f m : Nat) (zs : List Int) (w : World) (hz : zs.length = n) (hn : n ≤ 1048576) (hs : Sl .u8 w a zs) (hw : ∀ y ∈ zs, (Lit.int .u8 y).wf = true)
    (hm1 : 1 ≤ m) (hm : m ≤ 8) (hf : f + m ≤ n) :
    Calls Tryd.prog 77 #[.slice a n cap, .int .u64 (2147483648 + (f : Int)), .int .i64 (m : Int)] w fun e w' => e = .returned (.int .u64 (le zs f m)) ∧ w' = w := by
  have HZ : Hid (zs.length = n) := hz
  have HW : Hid (∀ y ∈ zs, (Lit.int .u8 y).wf = true) := hw
  clear hz hw
  go_enter Tryd.func77, Tryd.ntmps77
  go_wp2
  go_loop [8, 9] (fun x i => ∃ j : Nat, j ≤ m ∧ i = .int .i64 ((j : Int) - 1) ∧ x = .int .u64 (le zs (f + j) (m - j))) (fun _ i => (intOf i + 1).toNat)
  case atStart => exact ⟨m, Nat.le_refl _, rfl, by simp [le]⟩
  case round =>
    obtain ⟨j, hj, rfl, rfl⟩ := hrel
    by_cases hlt : 1 ≤ j
    · obtain ⟨k, rfl⟩ : ∃ k, j = k + 1 := ⟨j - 1, by omega⟩
      obtain ⟨b, off, rfl, hb, hc⟩ := hs (f + k) (by have := HZ.out; omega)
      have hx := byte_bd HW.out (f + k)
      obtain ⟨x, hxx⟩ : ∃ x, x = zs.getD (f + k) 0 := ⟨_, rfl⟩
      obtain ⟨y, hyy⟩ : ∃ y, y = le zs (f + (k + 1)) (m - (k + 1)) := ⟨_, rfl⟩
      rw [← hxx] at hc hx
      rw [← hyy]
      have hy := le_bd7 zs (byte_bd HW.out) (m - (k + 1)) (f + (k + 1)) (by omega)
      rw [← hyy] at hy
      have S : Hid (bits .or .u64 (y * 256) x = le zs (f + k) (m - k)) := by
        show bits .or .u64 (y * 256) x = le zs (f + k) (m - k)
        rw [or_low y x hy.1 hy.2 hx.1 hx.2, show m - k = (m - (k + 1)) + 1 from by omega, le, hxx, hyy]
        rfl
      clear hxx hyy
      go_wp2
      go_round
      case rel => exact ⟨k, by omega, by go_num, by rw [← S.out]⟩
      case measure => simp [intOf]
    · have h0 : j = 0 := by omega
      subst h0
      go_wp2
      go_ret
      exact ⟨rfl, rfl⟩

theorem idx8_0 (b0 b1 b2 b3 b4 b5 b6 b7 : Int) (w : World) : (Instr.index 118 (.agg #[.int .u8 b0, .int .u8 b1, .int .u8 b2, .int .u8 b3, .int .u8 b4, .int .u8 b5, .int .u8 b6, .int .u8 b7]) (.int .i64 0)).run Tryd.prog w = .ok (.int .u8 b0) w := by kernel_rfl
theorem idx8_1 (b0 b1 b2 b3 b4 b5 b6 b7 : Int) (w : World) : (Instr.index 118 (.agg #[.int .u8 b0, .int .u8 b1, .int .u8 b2, .int .u8 b3, .int .u8 b4, .int .u8 b5, .int .u8 b6, .int .u8 b7]) (.int .i64 1)).run Tryd.prog w = .ok (.int .u8 b1) w := by kernel_rfl
theorem idx8_2 (b0 b1 b2 b3 b4 b5 b6 b7 : Int) (w : World) : (Instr.index 118 (.agg #[.int .u8 b0, .int .u8 b1, .int .u8 b2, .int .u8 b3, .int .u8 b4, .int .u8 b5, .int .u8 b6, .int .u8 b7]) (.int .i64 2)).run Tryd.prog w = .ok (.int .u8 b2) w := by kernel_rfl
theorem idx8_3 (b0 b1 b2 b3 b4 b5 b6 b7 : Int) (w : World) : (Instr.index 118 (.agg #[.int .u8 b0, .int .u8 b1, .int .u8 b2, .int .u8 b3, .int .u8 b4, .int .u8 b5, .int .u8 b6, .int .u8 b7]) (.int .i64 3)).run Tryd.prog w = .ok (.int .u8 b3) w := by kernel_rfl
theorem idx8_4 (b0 b1 b2 b3 b4 b5 b6 b7 : Int) (w : World) : (Instr.index 118 (.agg #[.int .u8 b0, .int .u8 b1, .int .u8 b2, .int .u8 b3, .int .u8 b4, .int .u8 b5, .int .u8 b6, .int .u8 b7]) (.int .i64 4)).run Tryd.prog w = .ok (.int .u8 b4) w := by kernel_rfl
theorem idx8_5 (b0 b1 b2 b3 b4 b5 b6 b7 : Int) (w : World) : (Instr.index 118 (.agg #[.int .u8 b0, .int .u8 b1, .int .u8 b2, .int .u8 b3, .int .u8 b4, .int .u8 b5, .int .u8 b6, .int .u8 b7]) (.int .i64 5)).run Tryd.prog w = .ok (.int .u8 b5) w := by kernel_rfl
theorem idx8_6 (b0 b1 b2 b3 b4 b5 b6 b7 : Int) (w : World) : (Instr.index 118 (.agg #[.int .u8 b0, .int .u8 b1, .int .u8 b2, .int .u8 b3, .int .u8 b4, .int .u8 b5, .int .u8 b6, .int .u8 b7]) (.int .i64 6)).run Tryd.prog w = .ok (.int .u8 b6) w := by kernel_rfl
theorem idx8_7 (b0 b1 b2 b3 b4 b5 b6 b7 : Int) (w : World) : (Instr.index 118 (.agg #[.int .u8 b0, .int .u8 b1, .int .u8 b2, .int .u8 b3, .int .u8 b4, .int .u8 b5, .int .u8 b6, .int .u8 b7]) (.int .i64 7)).run Tryd.prog w = .ok (.int .u8 b7) w := by kernel_rfl
theorem idx8 (b0 b1 b2 b3 b4 b5 b6 b7 : Int) (w : World) (k : Nat) (hk : k < 8) :
    (Instr.index 118 (.agg #[.int .u8 b0, .int .u8 b1, .int .u8 b2, .int .u8 b3, .int .u8 b4, .int .u8 b5, .int .u8 b6, .int .u8 b7]) (.int .i64 (k : Int))).run Tryd.prog w = .ok (.int .u8 ([b0, b1, b2, b3, b4, b5, b6, b7].getD k 0)) w := by
  match k, hk with
  | 0, _ => exact idx8_0 b0 b1 b2 b3 b4 b5 b6 b7 w
  | 1, _ => exact idx8_1 b0 b1 b2 b3 b4 b5 b6 b7 w
  | 2, _ => exact idx8_2 b0 b1 b2 b3 b4 b5 b6 b7 w
  | 3, _ => exact idx8_3 b0 b1 b2 b3 b4 b5 b6 b7 w
  | 4, _ => exact idx8_4 b0 b1 b2 b3 b4 b5 b6 b7 w
  | 5, _ => exact idx8_5 b0 b1 b2 b3 b4 b5 b6 b7 w
  | 6, _ => exact idx8_6 b0 b1 b2 b3 b4 b5 b6 b7 w
  | 7, _ => exact idx8_7 b0 b1 b2 b3 b4 b5 b6 b7 w

set_option maxHeartbeats 400000 in
theorem wordOf_any (bs : List Int) (b0 b1 b2 b3 b4 b5 b6 b7 : Int) (w : World) (hb : bs = [b0, b1, b2, b3, b4, b5, b6, b7]) (hw : ∀ i, 0 ≤ bs.getD i 0 ∧ bs.getD i 0 ≤ 255) :
    Calls Tryd.prog 95 #[.agg #[.int .u8 b0, .int .u8 b1, .int .u8 b2, .int .u8 b3, .int .u8 b4, .int .u8 b5, .int .u8 b6, .int .u8 b7]] w fun e w' => e = .returned (.int .u64 (le bs 0 8)) ∧ Below w.heap.size w w' := by
  have HB : Hid (bs = [b0, b1, b2, b3, b4, b5, b6, b7]) := hb
  have HW : Hid (∀ i, 0 ≤ bs.getD i 0 ∧ bs.getD i 0 ≤ 255) := hw
  clear hb hw
  go_enter Tryd.func95, Tryd.ntmps95
  go_wp2
  go_loop [3, 7] (fun x i => ∃ k : Nat, k ≤ 8 ∧ i = .int .i64 (k : Int) ∧ x = .int .u64 (le bs 0 k)) (fun _ i => 8 - (intOf i).toNat)
  case atStart => exact ⟨0, by omega, rfl, rfl⟩
  case round =>
    obtain ⟨k, hk, rfl, rfl⟩ := hrel
    by_cases hlt : k < 8
    · obtain ⟨x, hxx⟩ : ∃ x, x = bs.getD k 0 := ⟨_, rfl⟩
      obtain ⟨y, hyy⟩ : ∃ y, y = le bs 0 k := ⟨_, rfl⟩
      have hx := HW.out k
      have hy := le_bd bs HW.out k 0
      rw [← hxx] at hx
      rw [← hyy] at hy ⊢
      have hix : ∀ w, (Instr.index 118 (.agg #[.int .u8 b0, .int .u8 b1, .int .u8 b2, .int .u8 b3, .int .u8 b4, .int .u8 b5, .int .u8 b6, .int .u8 b7]) (.int .i64 (k : Int))).run Tryd.prog w = .ok (.int .u8 x) w := by
        intro w
        rw [hxx, HB.out]
        exact idx8 b0 b1 b2 b3 b4 b5 b6 b7 w k hlt
      have S : Hid (bits .or .u64 y (IntKind.u64.wrap (x * 2 ^ (8 * k))) = le bs 0 (k + 1)) := by
        show bits .or .u64 y (IntKind.u64.wrap (x * 2 ^ (8 * k))) = le bs 0 (k + 1)
        have := word_step bs HW.out 0 k hlt
        rw [Nat.zero_add] at this
        rw [hxx, hyy]; exact this
      clear hxx hyy
      go_wp2
      go_round
      case rel => exact ⟨k + 1, by omega, by go_num, by rw [S.out]⟩
      case measure => simp [intOf]; omega
    · have h0 : k = 8 := by omega
      subst h0
      go_wp2
      go_ret
      exact ⟨rfl, (Below.refl _ _).alloc (Nat.le_refl _) _⟩

theorem lowBytes_any (x : Int) (m : Nat) (w : World) (h1 : 1 ≤ m) (hm : m ≤ 8) (h0 : 0 ≤ x) (hx : x < 18446744073709551616) :
    Calls Tryd.prog 96 #[.int .u64 x, .int .i64 (m : Int)] w fun e w' => e = .returned (.int .u64 (x % 256 ^ m)) ∧ w' = w := by
  have F : Hid (IntKind.u64.wrap (x * 2 ^ (64 - 8 * m)) / 2 ^ (64 - 8 * m) = x % 256 ^ m) := low_bytes x m h1 hm h0
  go_enter Tryd.func96, Tryd.ntmps96
  go_wp2
  go_ret
  exact ⟨by rw [← F.out]; rfl, rfl⟩

/-- What Load answers. -/
def loadB (zs : List Int) (n : Nat) (addr size : Int) : Int := if okB n addr size then le zs (addr - 2147483648).toNat size.toNat else 0

/-- Eight bytes of a memory, a name each, and the number that they are. -/
theorem eight (g p n : Nat) (zs : List Int) (w : World) (hz : zs.length = n) (hp : p + 8 ≤ n) (hs : Sl .u8 w (some ⟨g, 0, none⟩) zs) (hw : ∀ y ∈ zs, (Lit.int .u8 y).wf = true) :
    ∃ b0 b1 b2 b3 b4 b5 b6 b7 : Int, ∃ B : { bs : List Int // bs = [b0, b1, b2, b3, b4, b5, b6, b7] },
      w.cell? ⟨g, p, none⟩ = some (.int .u8 b0) ∧ w.cell? ⟨g, p + 1, none⟩ = some (.int .u8 b1) ∧ w.cell? ⟨g, p + 2, none⟩ = some (.int .u8 b2) ∧ w.cell? ⟨g, p + 3, none⟩ = some (.int .u8 b3) ∧
      w.cell? ⟨g, p + 4, none⟩ = some (.int .u8 b4) ∧ w.cell? ⟨g, p + 5, none⟩ = some (.int .u8 b5) ∧ w.cell? ⟨g, p + 6, none⟩ = some (.int .u8 b6) ∧ w.cell? ⟨g, p + 7, none⟩ = some (.int .u8 b7) ∧
      Hid (∀ i, 0 ≤ B.1.getD i 0 ∧ B.1.getD i 0 ≤ 255) ∧ Hid (le B.1 0 8 = le zs p 8) := by
  have c : ∀ i, i < 8 → w.cell? ⟨g, p + i, none⟩ = some (.int .u8 (zs.getD (p + i) 0)) := by
    intro i hi
    obtain ⟨b, off, e, _, hc⟩ := hs (p + i) (by omega)
    simp only [Option.some.injEq, Addr.mk.injEq, and_true] at e
    obtain ⟨rfl, rfl⟩ := e
    rw [Nat.zero_add] at hc
    exact hc
  have bd := byte_bd hw
  refine ⟨_, _, _, _, _, _, _, _, ⟨[zs.getD p 0, zs.getD (p + 1) 0, zs.getD (p + 2) 0, zs.getD (p + 3) 0, zs.getD (p + 4) 0, zs.getD (p + 5) 0, zs.getD (p + 6) 0, zs.getD (p + 7) 0], rfl⟩, c 0 (by omega), c 1 (by omega), c 2 (by omega), c 3 (by omega), c 4 (by omega), c 5 (by omega), c 6 (by omega), c 7 (by omega), ?_, ?_⟩
  · intro i
    match i with
    | 0 => exact bd p
    | 1 => exact bd (p + 1)
    | 2 => exact bd (p + 2)
    | 3 => exact bd (p + 3)
    | 4 => exact bd (p + 4)
    | 5 => exact bd (p + 5)
    | 6 => exact bd (p + 6)
    | 7 => exact bd (p + 7)
    | i + 8 => simp
  · show le [zs.getD p 0, zs.getD (p + 1) 0, zs.getD (p + 2) 0, zs.getD (p + 3) 0, zs.getD (p + 4) 0, zs.getD (p + 5) 0, zs.getD (p + 6) 0, zs.getD (p + 7) 0] 0 8 = le zs p 8
    rfl

set_option maxHeartbeats 400000 in
theorem implLoad_any (g n cap : Nat) (zs : List Int) (addr size : Int) (w : World) (hz : zs.length = n) (hn : n ≤ 1048576) (hs : Sl .u8 w (some ⟨g, 0, none⟩) zs) (hw : ∀ y ∈ zs, (Lit.int .u8 y).wf = true) (hcap : n ≤ cap) (hcap2 : cap ≤ 9223372036854775807)
    (ha : 0 ≤ addr) (ha2 : addr ≤ 18446744073709551615) :
    Calls Tryd.prog 86 #[.slice (some ⟨g, 0, none⟩) n cap, .int .u64 addr, .int .i64 size] w fun e w' => e = .returned (.tuple #[.int .u64 (loadB zs n addr size), .bool (okB n addr size)]) ∧ Below w.heap.size w w' := by
  have HZ : Hid (zs.length = n) := hz
  have HW : Hid (∀ y ∈ zs, (Lit.int .u8 y).wf = true) := hw
  clear hz hw
  cases hok : okB n addr size
  · have F2 : Hid (loadB zs n addr size = 0) := by show loadB zs n addr size = 0; simp [loadB, hok]
    go_enter Tryd.func86, Tryd.ntmps86
    go_wp2_with (go_at_call 53; refine (place_any _ _ _ _ _ _ hn ha ha2).mono ?_; rintro e w' ⟨rfl, rfl⟩)
    go_ret2
    exact ⟨by rw [F2.out]; rfl, Below.refl _ _⟩
  · obtain ⟨_, _, hb1, hb2, hs1, hs2, hn1, hn2⟩ := okB_true hok
    obtain ⟨f, hf⟩ : ∃ f : Nat, addr = 2147483648 + (f : Int) := ⟨(addr - 2147483648).toNat, by omega⟩
    obtain ⟨m, hm⟩ : ∃ m : Nat, size = (m : Int) := ⟨size.toNat, by omega⟩
    subst hf hm
    have F2 : Hid (loadB zs n (2147483648 + (f : Int)) (m : Int) = le zs f m) := by
      show loadB zs n (2147483648 + (f : Int)) (m : Int) = le zs f m
      simp only [loadB, hok, if_true]
      rw [show (2147483648 + (f : Int) - 2147483648).toNat = f from by omega, Int.toNat_natCast]
    have P2 : Hid (placeB n (2147483648 + (f : Int)) (m : Int) = f) := by
      show placeB n (2147483648 + (f : Int)) (m : Int) = f
      simp only [placeB, hok, if_true]
      omega
    by_cases hle : f ≤ n - 8
    · have hat : ∀ w, (Instr.arrayAt 118 (.slice (some ⟨g, f, none⟩) 8 (cap - f))).run Tryd.prog w = .ok (.pointer (some ⟨g, f, none⟩)) w := fun w => run_arrayAt w 118 _ 8 _ 8 (cap - f) Tryd.underlying118 (by omega)
      obtain ⟨b0, b1, b2, b3, b4, b5, b6, b7, B, c0, c1, c2, c3, c4, c5, c6, c7, hbs, L⟩ := eight g f n zs w HZ.out (by omega) hs HW.out
      go_enter Tryd.func86, Tryd.ntmps86
      go_wp2_with (first | (go_at_call 53; refine (place_any _ _ _ _ _ _ hn ha ha2).mono ?_; rw [P2.out]; rintro e w' ⟨rfl, rfl⟩) | (go_at_call 95; refine (wordOf_any B.1 b0 b1 b2 b3 b4 b5 b6 b7 _ B.2 hbs.out).mono ?_; rw [L.out]; rintro e w1 ⟨rfl, hw1⟩))
      have R : Hid (le zs f 8 % 256 ^ m = le zs f m) := by
        have := le_mod zs (byte_bd HW.out) f m (8 - m)
        rw [show m + (8 - m) = 8 from by omega] at this
        exact this
      have bd := le_bd8 zs (byte_bd HW.out) 8 f (by omega)
      refine (lowBytes_any (le zs f 8) m _ (by omega) (by omega) bd.1 bd.2).mono ?_
      rw [R.out]
      rintro e w2 ⟨rfl, rfl⟩
      go_wp2_with fail
      go_ret2
      exact ⟨by rw [F2.out]; rfl, hw1⟩
    · obtain ⟨p, hp⟩ : ∃ p, n = p + 8 := ⟨n - 8, by omega⟩
      obtain ⟨d, hd⟩ : ∃ d, f = p + d := ⟨f - p, by omega⟩
      subst hp hd
      have hat : ∀ w, (Instr.arrayAt 118 (.slice (some ⟨g, p, none⟩) 8 (cap - p))).run Tryd.prog w = .ok (.pointer (some ⟨g, p, none⟩)) w := fun w => run_arrayAt w 118 _ 8 _ 8 (cap - p) Tryd.underlying118 (by omega)
      obtain ⟨b0, b1, b2, b3, b4, b5, b6, b7, B, c0, c1, c2, c3, c4, c5, c6, c7, hbs, L⟩ := eight g p (p + 8) zs w HZ.out (by omega) hs HW.out
      have hok' : okB (p + 8) (2147483648 + ((p : Int) + (d : Int))) (m : Int) = true := by rw [← Int.natCast_add]; exact hok
      have D : Hid (le zs p 8 / 2 ^ (8 * d) = le zs (p + d) (8 - d)) := by
        show le zs p 8 / 2 ^ (8 * d) = le zs (p + d) (8 - d)
        have := le_div zs (byte_bd HW.out) p d (8 - d)
        rw [show d + (8 - d) = 8 from by omega] at this
        rw [pow_8]; exact this
      have R : Hid (le zs (p + d) (8 - d) % 256 ^ m = le zs (p + d) m) := by
        have := le_mod zs (byte_bd HW.out) (p + d) m (8 - d - m)
        rw [show m + (8 - d - m) = 8 - d from by omega] at this
        exact this
      have BD : Hid (0 ≤ le zs (p + d) (8 - d) ∧ le zs (p + d) (8 - d) < 18446744073709551616) := le_bd8 zs (byte_bd HW.out) (8 - d) (p + d) (by omega)
      go_enter Tryd.func86, Tryd.ntmps86
      go_wp2_with (first | (go_at_call 53; refine (place_any _ _ _ _ _ _ hn ha ha2).mono ?_; rw [P2.out]; rintro e w' ⟨rfl, rfl⟩) | (go_at_call 95; refine (wordOf_any B.1 b0 b1 b2 b3 b4 b5 b6 b7 _ B.2 hbs.out).mono ?_; rw [L.out]; rintro e w1 ⟨rfl, hw1⟩))
      rw [D.out]
      refine (lowBytes_any (le zs (p + d) (8 - d)) m _ (by omega) (by omega) BD.out.1 BD.out.2).mono ?_
      rw [R.out]
      rintro e w2 ⟨rfl, rfl⟩
      go_wp2_with fail
      go_ret2
      exact ⟨by rw [F2.out]; rfl, hw1⟩

set_option maxHeartbeats 400000 in
theorem l1Put_any (g n cap f m base : Nat) (zs : List Int) (x : Int) (w : World) (hn : n ≤ 1048576) (hm : m ≤ 8) (hf : f + m ≤ n) (hx0 : 0 ≤ x) (hx1 : x ≤ 18446744073709551615)
    (hown : w.ownsRow base 5 1 (.slice (some ⟨g, 0, none⟩) n cap) n (zs.map (Value.int .u8))) :
    Calls Tryd.prog 52 #[.slice (some ⟨g, 0, none⟩) n cap, .int .u64 (2147483648 + (f : Int)), .int .i64 (m : Int), .int .u64 x] w fun e w' => e = .returned (.tuple #[]) ∧
      w'.ownsRow base 5 1 (.slice (some ⟨g, 0, none⟩) n cap) n ((put zs f x m).map (Value.int .u8)) ∧ w.grownBy w' (some g) := by
  have HX : Hid (zs.length = n) := by show zs.length = n; have := hown.1; simpa using this
  go_enter Tryd.func52, Tryd.ntmps52
  go_wp2
  go_loopw [3, 9] (fun y i wr => ∃ j : Nat, j ≤ m ∧ i = .int .i64 (j : Int) ∧ y = .int .u64 (x / 256 ^ j) ∧ wr.ownsRow base 5 1 (.slice (some ⟨g, 0, none⟩) n cap) n ((put zs f x j).map (Value.int .u8)) ∧ w.grownBy wr (some g))
    (fun _ i _ => m - (intOf i).toNat)
  case atStart => exact ⟨0, Nat.zero_le _, rfl, by simp, hown, grown_refl _ _⟩
  case round =>
    obtain ⟨j, hj, rfl, rfl, hown1, hgr⟩ := hrel
    clear hown
    by_cases hlt : j < m
    · have hfr : wr.frozen? ⟨g, f + j, none⟩ = false := hown1.frozenAt (f + j)
      have hst := hown1.stored (f + j) (.int .u8 (x / 256 ^ j % 256))
      obtain ⟨v3, hv3⟩ : ∃ v, wr.cell? ⟨g, f + j, none⟩ = some v := by
        rw [hown1.cellAt (f + j) (by omega)]
        exact ⟨_, List.getElem?_eq_getElem (by rw [List.length_map, put_len, HX.out]; omega)⟩
      rw [map_set_u8] at hst
      have hst1 : (wr.setCell ⟨g, f + j, none⟩ (.int .u8 (x / 256 ^ j % 256))).ownsRow base 5 1 (.slice (some ⟨g, 0, none⟩) n cap) n ((put zs f x (j + 1)).map (Value.int .u8)) := hst.1
      have hgr2 := grown_trans hgr hst.2
      have N : Hid (x / 256 ^ (j + 1) = x / 256 ^ j / 256) := by
        show x / 256 ^ (j + 1) = x / 256 ^ j / 256
        rw [Int.pow_succ, Int.ediv_ediv_of_nonneg (Int.le_of_lt (Int.pow_pos (by omega)))]
      have hy0 : 0 ≤ x / 256 ^ j := Int.ediv_nonneg hx0 (Int.le_of_lt (Int.pow_pos (by omega)))
      have hy1 : x / 256 ^ j ≤ 18446744073709551615 := Int.le_trans (Int.ediv_le_self _ hx0) hx1
      obtain ⟨y, hyy⟩ : ∃ y, y = x / 256 ^ j := ⟨_, rfl⟩
      rw [← hyy] at hst1 hgr2 hy0 hy1 N ⊢
      clear hst hown1 hyy
      go_wp2
      go_roundw
      case rel => exact ⟨j + 1, by omega, by go_num, by rw [N.out], hst1, hgr2⟩
      case measure => simp [intOf]; omega
    · have : j = m := by omega
      subst this
      go_wp2
      go_end0
      exact ⟨rfl, hown1, hgr⟩

/-- A slice of no bytes whose block is new. -/
theorem own_empty (w : World) (o : Obj) (ho : o = .cells #[] 5 (0, 0)) : (w.alloc o).ownsRow w.heap.size 5 1 (.slice (some ⟨w.heap.size, 0, none⟩) 0 0) 0 (([] : List Int).map (Value.int .u8)) := by
  subst ho
  exact World.ownsRow_lit w #[] 0 (Nat.le_refl _) (by unfold maxLen; omega) rfl

def storeLen (zs : List Int) (n : Nat) (addr size x : Int) : Nat := (storeB zs n addr size x).length

theorem byte_of (x : Int) (k : Nat) : IntKind.u8.wrap (x / 2 ^ (8 * k)) = x / 256 ^ k % 256 := by
  rw [pow_8, IntKind.wrap_u8']

theorem own_nil (w : World) (base : Nat) : w.ownsRow base 5 1 (.slice none 0 0) 0 (([] : List Int).map (Value.int .u8)) := World.ownsRow_nil w base 5 1

set_option maxHeartbeats 400000 in
theorem implStore_any (a : Option Addr) (n cap : Nat) (zs : List Int) (addr size x : Int) (w : World) (hz : zs.length = n) (hn : n ≤ 1048576) (hs : Sl .u8 w a zs)
    (ha : 0 ≤ addr) (ha2 : addr ≤ 18446744073709551615) (hx0 : 0 ≤ x) (hx1 : x ≤ 18446744073709551615) :
    Calls Tryd.prog 17 #[.slice a n cap, .int .u64 addr, .int .i64 size, .int .u64 x] w fun e w' => ∃ (a' : Option Addr) (c : Nat), e = .returned (.tuple #[.slice a' (storeLen zs n addr size x) c, .bool (okB n addr size)]) ∧
      w'.ownsRow w.heap.size 5 1 (.slice a' (storeLen zs n addr size x) c) (storeLen zs n addr size x) ((storeB zs n addr size x).map (Value.int .u8)) ∧ Below w.heap.size w w' := by
  have HZ : Hid (zs.length = n) := hz
  clear hz
  cases hok : okB n addr size
  · have F2 : Hid (storeB zs n addr size x = []) := by show storeB zs n addr size x = []; simp [storeB, hok]
    have F3 : Hid (storeLen zs n addr size x = 0) := by show storeLen zs n addr size x = 0; simp [storeLen, F2.out]
    go_enter Tryd.func17, Tryd.ntmps17
    go_wp2_with (go_at_call 53; refine (place_any _ _ _ _ _ _ hn ha ha2).mono ?_; rintro e w' ⟨rfl, rfl⟩)
    go_ret2
    rw [F2.out, F3.out]
    exact ⟨_, _, rfl, own_nil _ _, Below.refl _ _⟩
  · obtain ⟨hr, hsz, hb1, hb2, hs1, hs2, hn1, hn2⟩ := okB_true hok
    obtain ⟨f, hf⟩ : ∃ f : Nat, addr = 2147483648 + (f : Int) := ⟨(addr - 2147483648).toNat, by omega⟩
    obtain ⟨m, hm⟩ : ∃ m : Nat, size = (m : Int) := ⟨size.toNat, by omega⟩
    subst hf hm
    have F2 : Hid (storeB zs n (2147483648 + (f : Int)) (m : Int) x = put zs f x m) := by
      show storeB zs n (2147483648 + (f : Int)) (m : Int) x = put zs f x m
      simp only [storeB, hok, if_true]
      rw [show (2147483648 + (f : Int) - 2147483648).toNat = f from by omega, Int.toNat_natCast]
    have F3 : Hid (storeLen zs n (2147483648 + (f : Int)) (m : Int) x = n) := by
      show storeLen zs n (2147483648 + (f : Int)) (m : Int) x = n
      rw [storeLen, F2.out, put_len, HZ.out]
    have P2 : Hid (placeB n (2147483648 + (f : Int)) (m : Int) = f) := by
      show placeB n (2147483648 + (f : Int)) (m : Int) = f
      simp only [placeB, hok, if_true]
      omega
    obtain ⟨b, off, rfl, hblt, hc0⟩ := hs 0 (by have := HZ.out; omega)
    clear hc0
    obtain ⟨i0, hi, hz0, hz1, hz2⟩ := info_parts Tryd.info5
    have hsz5 : (Tryd.prog.info? 5).map (·.size) = some 1 := by rw [hi]; simp [hz1]
    have hb2' : i0.bytes * n ≤ 281474976710656 := by rw [hz2]; omega
    have hb3 : n ≤ maxLen := by unfold maxLen; omega
    go_enter Tryd.func17, Tryd.ntmps17
    go_wp2_with (first | (go_at_call 53; refine (place_any _ _ _ _ _ _ hn ha ha2).mono ?_; rw [P2.out]; rintro e w' ⟨rfl, hw'⟩; have hw2 := hw'.symm; subst hw2) | (at_make; refine wpList_make_full _ rfl (.tmp 24) (.tmp 24) 22 rfl w.heap.size 5 i0 (.int .u8 0) 1 Tryd.underlying22 hi hz0 hz1 .i64 .i64 _ _ n rfl rfl rfl rfl hb2' hb3 (Nat.le_refl _) ?_; intro w1 hown hgrow) | (refine wpList_copy_full rfl (.tmp 26) (.tmp 27) 22 rfl 5 Tryd.underlying22 hsz5 .u8 w.heap.size w.heap.size n n b off cap zs _ rfl rfl hown (hs.below ((Below.refl _ _).grown hgrow (Nat.le_refl _) (by intro k h; cases h))) HZ.out ?_; intro w2 hown2 hgrow2))
    have hbel2 : Below w.heap.size w w2 := Below.grown ((Below.refl _ _).grown hgrow (Nat.le_refl _) (by intro k h; cases h)) hgrow2 hgrow.size (by intro k h; cases h; exact Nat.le_refl _)
    clear hown hgrow hgrow2 hs
    go_loopw [30] (fun i wr => ∃ j : Nat, j ≤ m ∧ i = .int .i64 (j : Int) ∧ wr.ownsRow w.heap.size 5 1 (.slice (some ⟨w.heap.size, 0, none⟩) n n) n ((put zs f x j).map (Value.int .u8)) ∧ Below w.heap.size w wr)
      (fun i _ => m - (intOf i).toNat)
    case atStart => exact ⟨0, Nat.zero_le _, rfl, hown2, hbel2⟩
    case round =>
      obtain ⟨j, hj, rfl, hown1, hbel⟩ := hrel
      clear hown2 hbel2
      by_cases hlt : j < m
      · have hfr : wr.frozen? ⟨w.heap.size, f + j, none⟩ = false := hown1.frozenAt (f + j)
        have hst := (hown1.stored (f + j) (.int .u8 (x / 256 ^ j % 256))).1
        obtain ⟨v3, hv3⟩ : ∃ v, wr.cell? ⟨w.heap.size, f + j, none⟩ = some v := by
          rw [hown1.cellAt (f + j) (by omega)]
          exact ⟨_, List.getElem?_eq_getElem (by rw [List.length_map, put_len, HZ.out]; omega)⟩
        rw [map_set_u8] at hst
        have hst1 : (wr.setCell ⟨w.heap.size, f + j, none⟩ (.int .u8 (x / 256 ^ j % 256))).ownsRow w.heap.size 5 1 (.slice (some ⟨w.heap.size, 0, none⟩) n n) n ((put zs f x (j + 1)).map (Value.int .u8)) := hst
        have hst2 : Below w.heap.size w (wr.setCell ⟨w.heap.size, f + j, none⟩ (.int .u8 (x / 256 ^ j % 256))) := hbel.setCell (Nat.le_refl _) _
        have hy0 : 0 ≤ x / 256 ^ j := Int.ediv_nonneg hx0 (Int.le_of_lt (Int.pow_pos (by omega)))
        clear hst hown1
        rw [← pow_8] at hst1 hst2 hy0
        go_wp2
        go_roundw
        case rel => exact ⟨j + 1, by omega, by go_num, hst1, hst2⟩
        case measure => simp [intOf]; omega
      · have : j = m := by omega
        subst this
        go_wp2
        go_ret2
        rw [F3.out, F2.out]
        exact ⟨_, _, rfl, hown1, hbel⟩

def dg (zs : List Int) : Int := zs.foldl (fun h b => (h * 257 + b + 1) % 1000000007) 0

theorem dg_acc (zs : List Int) : ∀ h : Int, 0 ≤ h → h < 1000000007 → 0 ≤ zs.foldl (fun h b => (h * 257 + b + 1) % 1000000007) h ∧ zs.foldl (fun h b => (h * 257 + b + 1) % 1000000007) h < 1000000007 := by
  induction zs with
  | nil => intro h h0 h1; exact ⟨h0, h1⟩
  | cons z zs ih => intro h h0 h1; rw [List.foldl_cons]; exact ih _ (by omega) (by omega)

theorem dg_bd (zs : List Int) : 0 ≤ dg zs ∧ dg zs < 1000000007 := dg_acc zs 0 (by omega) (by omega)

theorem dg_take (zs : List Int) (k : Nat) (hk : k < zs.length) : dg (zs.take (k + 1)) = (dg (zs.take k) * 257 + zs.getD k 0 + 1) % 1000000007 := by
  have e : zs.getD k 0 = zs[k] := by simp [List.getD, List.getElem?_eq_getElem hk]
  unfold dg
  rw [List.take_succ_eq_append_getElem hk, List.foldl_append, e]
  rfl

def digB (n : Nat) (zs : List Int) : Int := if ramOkB n then dg zs else 0

end Go.Proofs.YtldjmphflgecjacDoor
