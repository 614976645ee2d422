/- Contracts over memory: the laws' helpers, and chapter 1's functions, the program's and the model's. -/
import Derived.Test.YtjjpklalihaanaaDoorProg
import Derived.Test.YtjjpklalihaanaaDoorMem
namespace Go.Proofs.YtjjpklalihaanaaDoor
open Go.RowKit
set_option linter.unusedVariables false

theorem Tryd.info5 : (Tryd.prog.info? 5).map (fun i => (i.zero, i.size, i.bytes)) = some (some (.int .u8 0), 1, 1) := by kernel_rfl

theorem implRamOk_any (a : Option Addr) (n cap : Nat) (w : World) (hn : n ≤ 1048576) :
    Calls Tryd.prog 32 #[.slice a n cap] w fun e w' => e = .returned (.bool (ramOkB n)) ∧ w' = w := by
  by_cases h1 : 4096 ≤ n
  · by_cases h2 : n ≤ 65536
    · have d2 : decide ((n : Int) ≤ 65536) = true := by simp; omega
      by_cases h3 : n % 4096 = 0
      · have F : Hid (ramOkB n = true) := by show ramOkB n = true; simp [ramOkB, h1, h2, h3]
        have d3 : ((n : Int) % 4096 == 0) = true := by simp; omega
        go_enter Tryd.func32, Tryd.ntmps32
        go_wp2
        go_ret
        exact ⟨by rw [F.out]; rfl, rfl⟩
      · have F : Hid (ramOkB n = false) := by show ramOkB n = false; simp [ramOkB, h3]
        have d3 : ((n : Int) % 4096 == 0) = false := by simp; omega
        go_enter Tryd.func32, Tryd.ntmps32
        go_wp2
        go_ret
        exact ⟨by rw [F.out]; rfl, rfl⟩
    · have F : Hid (ramOkB n = false) := by show ramOkB n = false; simp [ramOkB, h2]
      have d2 : decide ((n : Int) ≤ 65536) = false := by simp; omega
      go_enter Tryd.func32, Tryd.ntmps32
      go_wp2
      go_ret
      exact ⟨by rw [F.out]; rfl, rfl⟩
  · have F : Hid (ramOkB n = false) := by show ramOkB n = false; simp [ramOkB, h1]
    have d1 : decide ((4096 : Int) ≤ n) = false := by simp; omega
    go_enter Tryd.func32, Tryd.ntmps32
    go_wp2
    go_ret
    exact ⟨by rw [F.out]; rfl, rfl⟩

theorem implSize_any (s : Int) (w : World) : Calls Tryd.prog 60 #[.int .i64 s] w fun e w' => e = .returned (.bool (sizeB s)) ∧ w' = w := by
  rcases size_cases s with (rfl | rfl | rfl | rfl) | h
  · go_enter Tryd.func60, Tryd.ntmps60
    go_wp2
    go_ret
    exact ⟨rfl, rfl⟩
  · go_enter Tryd.func60, Tryd.ntmps60
    go_wp2
    go_ret
    exact ⟨rfl, rfl⟩
  · go_enter Tryd.func60, Tryd.ntmps60
    go_wp2
    go_ret
    exact ⟨rfl, rfl⟩
  · go_enter Tryd.func60, Tryd.ntmps60
    go_wp2
    go_ret
    exact ⟨rfl, rfl⟩
  · have F : Hid (sizeB s = false) := sizeB_no h
    obtain ⟨h1, h2, h3, h4⟩ := h
    go_enter Tryd.func60, Tryd.ntmps60
    go_wp2
    go_ret
    exact ⟨by rw [F.out]; rfl, rfl⟩

/-- What impl.ramPlace answers. -/
def placeB (n : Nat) (addr size : Int) : Int := if okB n addr size then addr - 2147483648 else 0

set_option maxHeartbeats 400000 in
theorem place_any (a : Option Addr) (n cap : Nat) (addr size : Int) (w : World) (hn : n ≤ 1048576) (ha : 0 ≤ addr) (ha2 : addr ≤ 18446744073709551615) :
    Calls Tryd.prog 33 #[.slice a n cap, .int .u64 addr, .int .i64 size] w fun e w' => e = .returned (.tuple #[.int .i64 (placeB n addr size), .bool (okB n addr size)]) ∧ w' = w := by
  cases hr : ramOkB n
  · have F1 : Hid (okB n addr size = false) := by show okB n addr size = false; simp [okB, hr]
    have F2 : Hid (placeB n addr size = 0) := by show placeB n addr size = 0; simp [placeB, F1.out]
    go_enter Tryd.func33, Tryd.ntmps33
    go_wp2_with (go_at_call 32; refine (implRamOk_any _ _ _ _ hn).mono ?_; rintro e w' ⟨rfl, rfl⟩)
    go_ret2
    exact ⟨by rw [F1.out, F2.out]; rfl, rfl⟩
  · have hb := ramOkB_bd hr
    cases hsz : sizeB size
    · have F1 : Hid (okB n addr size = false) := by show okB n addr size = false; simp [okB, hsz]
      have F2 : Hid (placeB n addr size = 0) := by show placeB n addr size = 0; simp [placeB, F1.out]
      go_enter Tryd.func33, Tryd.ntmps33
      go_wp2_with (first | (go_at_call 32; refine (implRamOk_any _ _ _ _ hn).mono ?_; rintro e w' ⟨rfl, rfl⟩) | (go_at_call 60; refine (implSize_any _ _).mono ?_; rintro e w' ⟨rfl, rfl⟩))
      go_ret2
      exact ⟨by rw [F1.out, F2.out]; rfl, rfl⟩
    · have hs5 : size = 1 ∨ size = 2 ∨ size = 4 ∨ size = 8 := of_decide_eq_true hsz
      have hs1 : 1 ≤ size := by omega
      have hs2 : size ≤ 8 := by omega
      clear hs5
      by_cases hlow : addr < 2147483648
      · have F1 : Hid (okB n addr size = false) := by show okB n addr size = false; simp [okB]; omega
        have F2 : Hid (placeB n addr size = 0) := by show placeB n addr size = 0; simp [placeB, F1.out]
        have d1 : decide (addr < 2147483648) = true := by simpa using hlow
        go_enter Tryd.func33, Tryd.ntmps33
        go_wp2_with (first | (go_at_call 32; refine (implRamOk_any _ _ _ _ hn).mono ?_; rintro e w' ⟨rfl, rfl⟩) | (go_at_call 60; refine (implSize_any _ _).mono ?_; rintro e w' ⟨rfl, rfl⟩))
        go_ret2
        exact ⟨by rw [F1.out, F2.out]; rfl, rfl⟩
      · have d1 : decide (addr < 2147483648) = false := by simpa using hlow
        by_cases hin : addr - 2147483648 + size ≤ n
        · have F1 : Hid (okB n addr size = true) := by show okB n addr size = true; simp [okB, hr, hsz]; omega
          have F2 : Hid (placeB n addr size = addr - 2147483648) := by show placeB n addr size = _; simp [placeB, F1.out]
          have d2 : decide ((n : Int) - size < addr - 2147483648) = false := by simp; omega
          go_enter Tryd.func33, Tryd.ntmps33
          go_wp2_with (first | (go_at_call 32; refine (implRamOk_any _ _ _ _ hn).mono ?_; rintro e w' ⟨rfl, rfl⟩) | (go_at_call 60; refine (implSize_any _ _).mono ?_; rintro e w' ⟨rfl, rfl⟩))
          go_ret2
          exact ⟨by rw [F1.out, F2.out]; rfl, rfl⟩
        · have F1 : Hid (okB n addr size = false) := by show okB n addr size = false; simp [okB]; omega
          have F2 : Hid (placeB n addr size = 0) := by show placeB n addr size = 0; simp [placeB, F1.out]
          have d2 : decide ((n : Int) - size < addr - 2147483648) = true := by simp; omega
          go_enter Tryd.func33, Tryd.ntmps33
          go_wp2_with (first | (go_at_call 32; refine (implRamOk_any _ _ _ _ hn).mono ?_; rintro e w' ⟨rfl, rfl⟩) | (go_at_call 60; refine (implSize_any _ _).mono ?_; rintro e w' ⟨rfl, rfl⟩))
          go_ret2
          exact ⟨by rw [F1.out, F2.out]; rfl, rfl⟩

theorem idx8_0 (b0 b1 b2 b3 b4 b5 b6 b7 : Int) (w : World) : (Instr.index 66 (.agg #[.int .u8 b0, .int .u8 b1, .int .u8 b2, .int .u8 b3, .int .u8 b4, .int .u8 b5, .int .u8 b6, .int .u8 b7]) (.int .i64 0)).run Tryd.prog w = .ok (.int .u8 b0) w := by kernel_rfl
theorem idx8_1 (b0 b1 b2 b3 b4 b5 b6 b7 : Int) (w : World) : (Instr.index 66 (.agg #[.int .u8 b0, .int .u8 b1, .int .u8 b2, .int .u8 b3, .int .u8 b4, .int .u8 b5, .int .u8 b6, .int .u8 b7]) (.int .i64 1)).run Tryd.prog w = .ok (.int .u8 b1) w := by kernel_rfl
theorem idx8_2 (b0 b1 b2 b3 b4 b5 b6 b7 : Int) (w : World) : (Instr.index 66 (.agg #[.int .u8 b0, .int .u8 b1, .int .u8 b2, .int .u8 b3, .int .u8 b4, .int .u8 b5, .int .u8 b6, .int .u8 b7]) (.int .i64 2)).run Tryd.prog w = .ok (.int .u8 b2) w := by kernel_rfl
theorem idx8_3 (b0 b1 b2 b3 b4 b5 b6 b7 : Int) (w : World) : (Instr.index 66 (.agg #[.int .u8 b0, .int .u8 b1, .int .u8 b2, .int .u8 b3, .int .u8 b4, .int .u8 b5, .int .u8 b6, .int .u8 b7]) (.int .i64 3)).run Tryd.prog w = .ok (.int .u8 b3) w := by kernel_rfl
theorem idx8_4 (b0 b1 b2 b3 b4 b5 b6 b7 : Int) (w : World) : (Instr.index 66 (.agg #[.int .u8 b0, .int .u8 b1, .int .u8 b2, .int .u8 b3, .int .u8 b4, .int .u8 b5, .int .u8 b6, .int .u8 b7]) (.int .i64 4)).run Tryd.prog w = .ok (.int .u8 b4) w := by kernel_rfl
theorem idx8_5 (b0 b1 b2 b3 b4 b5 b6 b7 : Int) (w : World) : (Instr.index 66 (.agg #[.int .u8 b0, .int .u8 b1, .int .u8 b2, .int .u8 b3, .int .u8 b4, .int .u8 b5, .int .u8 b6, .int .u8 b7]) (.int .i64 5)).run Tryd.prog w = .ok (.int .u8 b5) w := by kernel_rfl
theorem idx8_6 (b0 b1 b2 b3 b4 b5 b6 b7 : Int) (w : World) : (Instr.index 66 (.agg #[.int .u8 b0, .int .u8 b1, .int .u8 b2, .int .u8 b3, .int .u8 b4, .int .u8 b5, .int .u8 b6, .int .u8 b7]) (.int .i64 6)).run Tryd.prog w = .ok (.int .u8 b6) w := by kernel_rfl
theorem idx8_7 (b0 b1 b2 b3 b4 b5 b6 b7 : Int) (w : World) : (Instr.index 66 (.agg #[.int .u8 b0, .int .u8 b1, .int .u8 b2, .int .u8 b3, .int .u8 b4, .int .u8 b5, .int .u8 b6, .int .u8 b7]) (.int .i64 7)).run Tryd.prog w = .ok (.int .u8 b7) w := by kernel_rfl
theorem idx8 (b0 b1 b2 b3 b4 b5 b6 b7 : Int) (w : World) (k : Nat) (hk : k < 8) :
    (Instr.index 66 (.agg #[.int .u8 b0, .int .u8 b1, .int .u8 b2, .int .u8 b3, .int .u8 b4, .int .u8 b5, .int .u8 b6, .int .u8 b7]) (.int .i64 (k : Int))).run Tryd.prog w = .ok (.int .u8 ([b0, b1, b2, b3, b4, b5, b6, b7].getD k 0)) w := by
  match k, hk with
  | 0, _ => exact idx8_0 b0 b1 b2 b3 b4 b5 b6 b7 w
  | 1, _ => exact idx8_1 b0 b1 b2 b3 b4 b5 b6 b7 w
  | 2, _ => exact idx8_2 b0 b1 b2 b3 b4 b5 b6 b7 w
  | 3, _ => exact idx8_3 b0 b1 b2 b3 b4 b5 b6 b7 w
  | 4, _ => exact idx8_4 b0 b1 b2 b3 b4 b5 b6 b7 w
  | 5, _ => exact idx8_5 b0 b1 b2 b3 b4 b5 b6 b7 w
  | 6, _ => exact idx8_6 b0 b1 b2 b3 b4 b5 b6 b7 w
  | 7, _ => exact idx8_7 b0 b1 b2 b3 b4 b5 b6 b7 w

set_option maxHeartbeats 400000 in
theorem wordOf_any (bs : List Int) (b0 b1 b2 b3 b4 b5 b6 b7 : Int) (w : World) (hb : bs = [b0, b1, b2, b3, b4, b5, b6, b7]) (hw : ∀ i, 0 ≤ bs.getD i 0 ∧ bs.getD i 0 ≤ 255) :
    Calls Tryd.prog 34 #[.agg #[.int .u8 b0, .int .u8 b1, .int .u8 b2, .int .u8 b3, .int .u8 b4, .int .u8 b5, .int .u8 b6, .int .u8 b7]] w fun e w' => e = .returned (.int .u64 (le bs 0 8)) ∧ Below w.heap.size w w' := by
  have HB : Hid (bs = [b0, b1, b2, b3, b4, b5, b6, b7]) := hb
  have HW : Hid (∀ i, 0 ≤ bs.getD i 0 ∧ bs.getD i 0 ≤ 255) := hw
  clear hb hw
  go_enter Tryd.func34, Tryd.ntmps34
  go_wp2
  go_loop [3, 7] (fun x i => ∃ k : Nat, k ≤ 8 ∧ i = .int .i64 (k : Int) ∧ x = .int .u64 (le bs 0 k)) (fun _ i => 8 - (intOf i).toNat)
  case atStart => exact ⟨0, by omega, rfl, rfl⟩
  case round =>
    obtain ⟨k, hk, rfl, rfl⟩ := hrel
    by_cases hlt : k < 8
    · obtain ⟨x, hxx⟩ : ∃ x, x = bs.getD k 0 := ⟨_, rfl⟩
      obtain ⟨y, hyy⟩ : ∃ y, y = le bs 0 k := ⟨_, rfl⟩
      have hx := HW.out k
      have hy := le_bd bs HW.out k 0
      rw [← hxx] at hx
      rw [← hyy] at hy ⊢
      have hix : ∀ w, (Instr.index 66 (.agg #[.int .u8 b0, .int .u8 b1, .int .u8 b2, .int .u8 b3, .int .u8 b4, .int .u8 b5, .int .u8 b6, .int .u8 b7]) (.int .i64 (k : Int))).run Tryd.prog w = .ok (.int .u8 x) w := by
        intro w
        rw [hxx, HB.out]
        exact idx8 b0 b1 b2 b3 b4 b5 b6 b7 w k hlt
      have S : Hid (bits .or .u64 y (IntKind.u64.wrap (x * 2 ^ (8 * k))) = le bs 0 (k + 1)) := by
        show bits .or .u64 y (IntKind.u64.wrap (x * 2 ^ (8 * k))) = le bs 0 (k + 1)
        have := word_step bs HW.out 0 k hlt
        rw [Nat.zero_add] at this
        rw [hxx, hyy]; exact this
      clear hxx hyy
      go_wp2
      go_round
      case rel => exact ⟨k + 1, by omega, by go_num, by rw [S.out]⟩
      case measure => simp [intOf]; omega
    · have h0 : k = 8 := by omega
      subst h0
      go_wp2
      go_ret
      exact ⟨rfl, (Below.refl _ _).alloc (Nat.le_refl _) _⟩

theorem lowBytes_any (x : Int) (m : Nat) (w : World) (h1 : 1 ≤ m) (hm : m ≤ 8) (h0 : 0 ≤ x) (hx : x < 18446744073709551616) :
    Calls Tryd.prog 35 #[.int .u64 x, .int .i64 (m : Int)] w fun e w' => e = .returned (.int .u64 (x % 256 ^ m)) ∧ w' = w := by
  have F : Hid (IntKind.u64.wrap (x * 2 ^ (64 - 8 * m)) / 2 ^ (64 - 8 * m) = x % 256 ^ m) := low_bytes x m h1 hm h0
  go_enter Tryd.func35, Tryd.ntmps35
  go_wp2
  go_ret
  exact ⟨by rw [← F.out]; rfl, rfl⟩

/-- What Load answers. -/
def loadB (zs : List Int) (n : Nat) (addr size : Int) : Int := if okB n addr size then le zs (addr - 2147483648).toNat size.toNat else 0

/-- Eight bytes of a memory, a name each, and the number that they are. -/
theorem eight (g p n : Nat) (zs : List Int) (w : World) (hz : zs.length = n) (hp : p + 8 ≤ n) (hs : Sl .u8 w (some ⟨g, 0, none⟩) zs) (hw : ∀ y ∈ zs, (Lit.int .u8 y).wf = true) :
    ∃ b0 b1 b2 b3 b4 b5 b6 b7 : Int, ∃ B : { bs : List Int // bs = [b0, b1, b2, b3, b4, b5, b6, b7] },
      w.cell? ⟨g, p, none⟩ = some (.int .u8 b0) ∧ w.cell? ⟨g, p + 1, none⟩ = some (.int .u8 b1) ∧ w.cell? ⟨g, p + 2, none⟩ = some (.int .u8 b2) ∧ w.cell? ⟨g, p + 3, none⟩ = some (.int .u8 b3) ∧
      w.cell? ⟨g, p + 4, none⟩ = some (.int .u8 b4) ∧ w.cell? ⟨g, p + 5, none⟩ = some (.int .u8 b5) ∧ w.cell? ⟨g, p + 6, none⟩ = some (.int .u8 b6) ∧ w.cell? ⟨g, p + 7, none⟩ = some (.int .u8 b7) ∧
      Hid (∀ i, 0 ≤ B.1.getD i 0 ∧ B.1.getD i 0 ≤ 255) ∧ Hid (le B.1 0 8 = le zs p 8) := by
  have c : ∀ i, i < 8 → w.cell? ⟨g, p + i, none⟩ = some (.int .u8 (zs.getD (p + i) 0)) := by
    intro i hi
    obtain ⟨b, off, e, _, hc⟩ := hs (p + i) (by omega)
    simp only [Option.some.injEq, Addr.mk.injEq, and_true] at e
    obtain ⟨rfl, rfl⟩ := e
    rw [Nat.zero_add] at hc
    exact hc
  have bd := byte_bd hw
  refine ⟨_, _, _, _, _, _, _, _, ⟨[zs.getD p 0, zs.getD (p + 1) 0, zs.getD (p + 2) 0, zs.getD (p + 3) 0, zs.getD (p + 4) 0, zs.getD (p + 5) 0, zs.getD (p + 6) 0, zs.getD (p + 7) 0], rfl⟩, c 0 (by omega), c 1 (by omega), c 2 (by omega), c 3 (by omega), c 4 (by omega), c 5 (by omega), c 6 (by omega), c 7 (by omega), ?_, ?_⟩
  · intro i
    match i with
    | 0 => exact bd p
    | 1 => exact bd (p + 1)
    | 2 => exact bd (p + 2)
    | 3 => exact bd (p + 3)
    | 4 => exact bd (p + 4)
    | 5 => exact bd (p + 5)
    | 6 => exact bd (p + 6)
    | 7 => exact bd (p + 7)
    | i + 8 => simp
  · show le [zs.getD p 0, zs.getD (p + 1) 0, zs.getD (p + 2) 0, zs.getD (p + 3) 0, zs.getD (p + 4) 0, zs.getD (p + 5) 0, zs.getD (p + 6) 0, zs.getD (p + 7) 0] 0 8 = le zs p 8
    rfl

set_option maxHeartbeats 400000 in
theorem implLoad_any (g n cap : Nat) (zs : List Int) (addr size : Int) (w : World) (hz : zs.length = n) (hn : n ≤ 1048576) (hs : Sl .u8 w (some ⟨g, 0, none⟩) zs) (hw : ∀ y ∈ zs, (Lit.int .u8 y).wf = true) (hcap : n ≤ cap) (hcap2 : cap ≤ 9223372036854775807)
    (ha : 0 ≤ addr) (ha2 : addr ≤ 18446744073709551615) :
    Calls Tryd.prog 12 #[.slice (some ⟨g, 0, none⟩) n cap, .int .u64 addr, .int .i64 size] w fun e w' => e = .returned (.tuple #[.int .u64 (loadB zs n addr size), .bool (okB n addr size)]) ∧ Below w.heap.size w w' := by
  have HZ : Hid (zs.length = n) := hz
  have HW : Hid (∀ y ∈ zs, (Lit.int .u8 y).wf = true) := hw
  clear hz hw
  cases hok : okB n addr size
  · have F2 : Hid (loadB zs n addr size = 0) := by show loadB zs n addr size = 0; simp [loadB, hok]
    go_enter Tryd.func12, Tryd.ntmps12
    go_wp2_with (go_at_call 33; refine (place_any _ _ _ _ _ _ hn ha ha2).mono ?_; rintro e w' ⟨rfl, rfl⟩)
    go_ret2
    exact ⟨by rw [F2.out]; rfl, Below.refl _ _⟩
  · obtain ⟨_, _, hb1, hb2, hs1, hs2, hn1, hn2⟩ := okB_true hok
    obtain ⟨f, hf⟩ : ∃ f : Nat, addr = 2147483648 + (f : Int) := ⟨(addr - 2147483648).toNat, by omega⟩
    obtain ⟨m, hm⟩ : ∃ m : Nat, size = (m : Int) := ⟨size.toNat, by omega⟩
    subst hf hm
    have F2 : Hid (loadB zs n (2147483648 + (f : Int)) (m : Int) = le zs f m) := by
      show loadB zs n (2147483648 + (f : Int)) (m : Int) = le zs f m
      simp only [loadB, hok, if_true]
      rw [show (2147483648 + (f : Int) - 2147483648).toNat = f from by omega, Int.toNat_natCast]
    have P2 : Hid (placeB n (2147483648 + (f : Int)) (m : Int) = f) := by
      show placeB n (2147483648 + (f : Int)) (m : Int) = f
      simp only [placeB, hok, if_true]
      omega
    by_cases hle : f ≤ n - 8
    · have hat : ∀ w, (Instr.arrayAt 66 (.slice (some ⟨g, f, none⟩) 8 (cap - f))).run Tryd.prog w = .ok (.pointer (some ⟨g, f, none⟩)) w := fun w => run_arrayAt w 66 _ 8 _ 8 (cap - f) Tryd.underlying66 (by omega)
      obtain ⟨b0, b1, b2, b3, b4, b5, b6, b7, B, c0, c1, c2, c3, c4, c5, c6, c7, hbs, L⟩ := eight g f n zs w HZ.out (by omega) hs HW.out
      go_enter Tryd.func12, Tryd.ntmps12
      go_wp2_with (first | (go_at_call 33; refine (place_any _ _ _ _ _ _ hn ha ha2).mono ?_; rw [P2.out]; rintro e w' ⟨rfl, rfl⟩) | (go_at_call 34; refine (wordOf_any B.1 b0 b1 b2 b3 b4 b5 b6 b7 _ B.2 hbs.out).mono ?_; rw [L.out]; rintro e w1 ⟨rfl, hw1⟩))
      have R : Hid (le zs f 8 % 256 ^ m = le zs f m) := by
        have := le_mod zs (byte_bd HW.out) f m (8 - m)
        rw [show m + (8 - m) = 8 from by omega] at this
        exact this
      have bd := le_bd8 zs (byte_bd HW.out) 8 f (by omega)
      refine (lowBytes_any (le zs f 8) m _ (by omega) (by omega) bd.1 bd.2).mono ?_
      rw [R.out]
      rintro e w2 ⟨rfl, rfl⟩
      go_wp2_with fail
      go_ret2
      exact ⟨by rw [F2.out]; rfl, hw1⟩
    · obtain ⟨p, hp⟩ : ∃ p, n = p + 8 := ⟨n - 8, by omega⟩
      obtain ⟨d, hd⟩ : ∃ d, f = p + d := ⟨f - p, by omega⟩
      subst hp hd
      have hat : ∀ w, (Instr.arrayAt 66 (.slice (some ⟨g, p, none⟩) 8 (cap - p))).run Tryd.prog w = .ok (.pointer (some ⟨g, p, none⟩)) w := fun w => run_arrayAt w 66 _ 8 _ 8 (cap - p) Tryd.underlying66 (by omega)
      obtain ⟨b0, b1, b2, b3, b4, b5, b6, b7, B, c0, c1, c2, c3, c4, c5, c6, c7, hbs, L⟩ := eight g p (p + 8) zs w HZ.out (by omega) hs HW.out
      have hok' : okB (p + 8) (2147483648 + ((p : Int) + (d : Int))) (m : Int) = true := by rw [← Int.natCast_add]; exact hok
      have D : Hid (le zs p 8 / 2 ^ (8 * d) = le zs (p + d) (8 - d)) := by
        show le zs p 8 / 2 ^ (8 * d) = le zs (p + d) (8 - d)
        have := le_div zs (byte_bd HW.out) p d (8 - d)
        rw [show d + (8 - d) = 8 from by omega] at this
        rw [pow_8]; exact this
      have R : Hid (le zs (p + d) (8 - d) % 256 ^ m = le zs (p + d) m) := by
        have := le_mod zs (byte_bd HW.out) (p + d) m (8 - d - m)
        rw [show m + (8 - d - m) = 8 - d from by omega] at this
        exact this
      have BD : Hid (0 ≤ le zs (p + d) (8 - d) ∧ le zs (p + d) (8 - d) < 18446744073709551616) := le_bd8 zs (byte_bd HW.out) (8 - d) (p + d) (by omega)
      go_enter Tryd.func12, Tryd.ntmps12
      go_wp2_with (first | (go_at_call 33; refine (place_any _ _ _ _ _ _ hn ha ha2).mono ?_; rw [P2.out]; rintro e w' ⟨rfl, rfl⟩) | (go_at_call 34; refine (wordOf_any B.1 b0 b1 b2 b3 b4 b5 b6 b7 _ B.2 hbs.out).mono ?_; rw [L.out]; rintro e w1 ⟨rfl, hw1⟩))
      rw [D.out]
      refine (lowBytes_any (le zs (p + d) (8 - d)) m _ (by omega) (by omega) BD.out.1 BD.out.2).mono ?_
      rw [R.out]
      rintro e w2 ⟨rfl, rfl⟩
      go_wp2_with fail
      go_ret2
      exact ⟨by rw [F2.out]; rfl, hw1⟩

/-- A slice of no bytes whose block is new. -/
theorem own_empty (w : World) (o : Obj) (ho : o = .cells #[] 5 (0, 0)) : (w.alloc o).ownsRow w.heap.size 5 1 (.slice (some ⟨w.heap.size, 0, none⟩) 0 0) 0 (([] : List Int).map (Value.int .u8)) := by
  subst ho
  exact World.ownsRow_lit w #[] 0 (Nat.le_refl _) (by unfold maxLen; omega) rfl

def storeLen (zs : List Int) (n : Nat) (addr size x : Int) : Nat := (storeB zs n addr size x).length

theorem byte_of (x : Int) (k : Nat) : IntKind.u8.wrap (x / 2 ^ (8 * k)) = x / 256 ^ k % 256 := by
  rw [pow_8, IntKind.wrap_u8']

theorem own_nil (w : World) (base : Nat) : w.ownsRow base 5 1 (.slice none 0 0) 0 (([] : List Int).map (Value.int .u8)) := World.ownsRow_nil w base 5 1

def dg (zs : List Int) : Int := zs.foldl (fun h b => (h * 257 + b + 1) % 1000000007) 0

theorem dg_acc (zs : List Int) : ∀ h : Int, 0 ≤ h → h < 1000000007 → 0 ≤ zs.foldl (fun h b => (h * 257 + b + 1) % 1000000007) h ∧ zs.foldl (fun h b => (h * 257 + b + 1) % 1000000007) h < 1000000007 := by
  induction zs with
  | nil => intro h h0 h1; exact ⟨h0, h1⟩
  | cons z zs ih => intro h h0 h1; rw [List.foldl_cons]; exact ih _ (by omega) (by omega)

theorem dg_bd (zs : List Int) : 0 ≤ dg zs ∧ dg zs < 1000000007 := dg_acc zs 0 (by omega) (by omega)

theorem dg_take (zs : List Int) (k : Nat) (hk : k < zs.length) : dg (zs.take (k + 1)) = (dg (zs.take k) * 257 + zs.getD k 0 + 1) % 1000000007 := by
  have e : zs.getD k 0 = zs[k] := by simp [List.getD, List.getElem?_eq_getElem hk]
  unfold dg
  rw [List.take_succ_eq_append_getElem hk, List.foldl_append, e]
  rfl

def digB (n : Nat) (zs : List Int) : Int := if ramOkB n then dg zs else 0

end Go.Proofs.YtjjpklalihaanaaDoor
