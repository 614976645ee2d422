/- Own lemmas. -/
import Derived.Test.YtjjpklalihaanaaDoorK01
import Derived.Test.YtjjpklalihaanaaDoorK14
import Derived.Test.YtjjpklalihaanaaDoorProg
import Derived.BigQuiet
import Derived.OwnWalk
namespace Go.Proofs.YtjjpklalihaanaaDoor
open Go.RowKit
set_option linter.unusedVariables false

theorem Tryd.info5 : (Tryd.prog.info? 5).map (fun i => (i.zero, i.size, i.bytes)) = some (some (.int .u8 0), 1, 1) := by kernel_rfl

theorem implRamOk_any (a : Option Addr) (n cap : Nat) (w : World) (hn : n ≤ 1048576) :
    Calls Tryd.prog 32 #[.slice a n cap] w fun e w' => e = .returned (.bool (ramOkB n)) ∧ w' = w := by
  by_cases h1 : 4096 ≤ n
  · by_cases h2 : n ≤ 65536
    · have d2 : decide ((n : Int) ≤ 65536) = true := by simp; omega
      by_cases h3 : n % 4096 = 0
      · have F : Hid (ramOkB n = true) := by show ramOkB n = true; simp [ramOkB, h1, h2, h3]
        have d3 : ((n : Int) % 4096 == 0) = true := by simp; omega
        go_enter Tryd.func32, Tryd.ntmps32
        go_wp2
        go_ret
        exact ⟨by rw [F.out]; rfl, rfl⟩
      · have F : Hid (ramOkB n = false) := by show ramOkB n = false; simp [ramOkB, h3]
        have d3 : ((n : Int) % 4096 == 0) = false := by simp; omega
        go_enter Tryd.func32, Tryd.ntmps32
        go_wp2
        go_ret
        exact ⟨by rw [F.out]; rfl, rfl⟩
    · have F : Hid (ramOkB n = false) := by show ramOkB n = false; simp [ramOkB, h2]
      have d2 : decide ((n : Int) ≤ 65536) = false := by simp; omega
      go_enter Tryd.func32, Tryd.ntmps32
      go_wp2
      go_ret
      exact ⟨by rw [F.out]; rfl, rfl⟩
  · have F : Hid (ramOkB n = false) := by show ramOkB n = false; simp [ramOkB, h1]
    have d1 : decide ((4096 : Int) ≤ n) = false := by simp; omega
    go_enter Tryd.func32, Tryd.ntmps32
    go_wp2
    go_ret
    exact ⟨by rw [F.out]; rfl, rfl⟩

theorem implSize_any (s : Int) (w : World) : Calls Tryd.prog 60 #[.int .i64 s] w fun e w' => e = .returned (.bool (sizeB s)) ∧ w' = w := by
  rcases size_cases s with (rfl | rfl | rfl | rfl) | h
  · go_enter Tryd.func60, Tryd.ntmps60
    go_wp2
    go_ret
    exact ⟨rfl, rfl⟩
  · go_enter Tryd.func60, Tryd.ntmps60
    go_wp2
    go_ret
    exact ⟨rfl, rfl⟩
  · go_enter Tryd.func60, Tryd.ntmps60
    go_wp2
    go_ret
    exact ⟨rfl, rfl⟩
  · go_enter Tryd.func60, Tryd.ntmps60
    go_wp2
    go_ret
    exact ⟨rfl, rfl⟩
  · have F : Hid (sizeB s = false) := sizeB_no h
    obtain ⟨h1, h2, h3, h4⟩ := h
    go_enter Tryd.func60, Tryd.ntmps60
    go_wp2
    go_ret
    exact ⟨by rw [F.out]; rfl, rfl⟩

def placeB (n : Nat) (addr size : Int) : Int := if okB n addr size then addr - 2147483648 else 0

set_option maxHeartbeats 400000 in
theorem place_any (a : Option Addr) (n cap : Nat) (addr size : Int) (w : World) (hn : n ≤ 1048576) (ha : 0 ≤ addr) (ha2 : addr ≤ 18446744073709551615) :
    Calls Tryd.prog 33 #[.slice a n cap, .int .u64 addr, .int .i64 size] w fun e w' => e = .returned (.tuple #[.int .i64 (placeB n addr size), .bool (okB n addr size)]) ∧ w' = w := by
  cases hr : ramOkB n
  · have F1 : Hid (okB n addr size = false) := by show okB n addr size = false; simp [okB, hr]
    have F2 : Hid (placeB n addr size = 0) := by show placeB n addr size = 0; simp [placeB, F1.out]
    go_enter Tryd.func33, Tryd.ntmps33
    go_wp2_with (go_at_call 32; refine (implRamOk_any _ _ _ _ hn).mono ?_; rintro e w' ⟨rfl, rfl⟩)
    go_ret2
    exact ⟨by rw [F1.out, F2.out]; rfl, rfl⟩
  · have hb := ramOkB_bd hr
    cases hsz : sizeB size
    · have F1 : Hid (okB n addr size = false) := by show okB n addr size = false; simp [okB, hsz]
      have F2 : Hid (placeB n addr size = 0) := by show placeB n addr size = 0; simp [placeB, F1.out]
      go_enter Tryd.func33, Tryd.ntmps33
      go_wp2_with (first | (go_at_call 32; refine (implRamOk_any _ _ _ _ hn).mono ?_; rintro e w' ⟨rfl, rfl⟩) | (go_at_call 60; refine (implSize_any _ _).mono ?_; rintro e w' ⟨rfl, rfl⟩))
      go_ret2
      exact ⟨by rw [F1.out, F2.out]; rfl, rfl⟩
    · have hs5 : size = 1 ∨ size = 2 ∨ size = 4 ∨ size = 8 := of_decide_eq_true hsz
      have hs1 : 1 ≤ size := by omega
      have hs2 : size ≤ 8 := by omega
      clear hs5
      by_cases hlow : addr < 2147483648
      · have F1 : Hid (okB n addr size = false) := by show okB n addr size = false; simp [okB]; omega
        have F2 : Hid (placeB n addr size = 0) := by show placeB n addr size = 0; simp [placeB, F1.out]
        have d1 : decide (addr < 2147483648) = true := by simpa using hlow
        go_enter Tryd.func33, Tryd.ntmps33
        go_wp2_with (first | (go_at_call 32; refine (implRamOk_any _ _ _ _ hn).mono ?_; rintro e w' ⟨rfl, rfl⟩) | (go_at_call 60; refine (implSize_any _ _).mono ?_; rintro e w' ⟨rfl, rfl⟩))
        go_ret2
        exact ⟨by rw [F1.out, F2.out]; rfl, rfl⟩
      · have d1 : decide (addr < 2147483648) = false := by simpa using hlow
        by_cases hin : addr - 2147483648 + size ≤ n
        · have F1 : Hid (okB n addr size = true) := by show okB n addr size = true; simp [okB, hr, hsz]; omega
          have F2 : Hid (placeB n addr size = addr - 2147483648) := by show placeB n addr size = _; simp [placeB, F1.out]
          have d2 : decide ((n : Int) - size < addr - 2147483648) = false := by simp; omega
          go_enter Tryd.func33, Tryd.ntmps33
          go_wp2_with (first | (go_at_call 32; refine (implRamOk_any _ _ _ _ hn).mono ?_; rintro e w' ⟨rfl, rfl⟩) | (go_at_call 60; refine (implSize_any _ _).mono ?_; rintro e w' ⟨rfl, rfl⟩))
          go_ret2
          exact ⟨by rw [F1.out, F2.out]; rfl, rfl⟩
        · have F1 : Hid (okB n addr size = false) := by show okB n addr size = false; simp [okB]; omega
          have F2 : Hid (placeB n addr size = 0) := by show placeB n addr size = 0; simp [placeB, F1.out]
          have d2 : decide ((n : Int) - size < addr - 2147483648) = true := by simp; omega
          go_enter Tryd.func33, Tryd.ntmps33
          go_wp2_with (first | (go_at_call 32; refine (implRamOk_any _ _ _ _ hn).mono ?_; rintro e w' ⟨rfl, rfl⟩) | (go_at_call 60; refine (implSize_any _ _).mono ?_; rintro e w' ⟨rfl, rfl⟩))
          go_ret2
          exact ⟨by rw [F1.out, F2.out]; rfl, rfl⟩

theorem idx8_0 (b0 b1 b2 b3 b4 b5 b6 b7 : Int) (w : World) : (Instr.index 66 (.agg #[.int .u8 b0, .int .u8 b1, .int .u8 b2, .int .u8 b3, .int .u8 b4, .int .u8 b5, .int .u8 b6, .int .u8 b7]) (.int .i64 0)).run Tryd.prog w = .ok (.int .u8 b0) w := by kernel_rfl
theorem idx8_1 (b0 b1 b2 b3 b4 b5 b6 b7 : Int) (w : World) : (Instr.index 66 (.agg #[.int .u8 b0, .int .u8 b1, .int .u8 b2, .int .u8 b3, .int .u8 b4, .int .u8 b5, .int .u8 b6, .int .u8 b7]) (.int .i64 1)).run Tryd.prog w = .ok (.int .u8 b1) w := by kernel_rfl
theorem idx8_2 (b0 b1 b2 b3 b4 b5 b6 b7 : Int) (w : World) : (Instr.index 66 (.agg #[.int .u8 b0, .int .u8 b1, .int .u8 b2, .int .u8 b3, .int .u8 b4, .int .u8 b5, .int .u8 b6, .int .u8 b7]) (.int .i64 2)).run Tryd.prog w = .ok (.int .u8 b2) w := by kernel_rfl
theorem idx8_3 (b0 b1 b2 b3 b4 b5 b6 b7 : Int) (w : World) : (Instr.index 66 (.agg #[.int .u8 b0, .int .u8 b1, .int .u8 b2, .int .u8 b3, .int .u8 b4, .int .u8 b5, .int .u8 b6, .int .u8 b7]) (.int .i64 3)).run Tryd.prog w = .ok (.int .u8 b3) w := by kernel_rfl
theorem idx8_4 (b0 b1 b2 b3 b4 b5 b6 b7 : Int) (w : World) : (Instr.index 66 (.agg #[.int .u8 b0, .int .u8 b1, .int .u8 b2, .int .u8 b3, .int .u8 b4, .int .u8 b5, .int .u8 b6, .int .u8 b7]) (.int .i64 4)).run Tryd.prog w = .ok (.int .u8 b4) w := by kernel_rfl
theorem idx8_5 (b0 b1 b2 b3 b4 b5 b6 b7 : Int) (w : World) : (Instr.index 66 (.agg #[.int .u8 b0, .int .u8 b1, .int .u8 b2, .int .u8 b3, .int .u8 b4, .int .u8 b5, .int .u8 b6, .int .u8 b7]) (.int .i64 5)).run Tryd.prog w = .ok (.int .u8 b5) w := by kernel_rfl
theorem idx8_6 (b0 b1 b2 b3 b4 b5 b6 b7 : Int) (w : World) : (Instr.index 66 (.agg #[.int .u8 b0, .int .u8 b1, .int .u8 b2, .int .u8 b3, .int .u8 b4, .int .u8 b5, .int .u8 b6, .int .u8 b7]) (.int .i64 6)).run Tryd.prog w = .ok (.int .u8 b6) w := by kernel_rfl
theorem idx8_7 (b0 b1 b2 b3 b4 b5 b6 b7 : Int) (w : World) : (Instr.index 66 (.agg #[.int .u8 b0, .int .u8 b1, .int .u8 b2, .int .u8 b3, .int .u8 b4, .int .u8 b5, .int .u8 b6, .int .u8 b7]) (.int .i64 7)).run Tryd.prog w = .ok (.int .u8 b7) w := by kernel_rfl
theorem idx8 (b0 b1 b2 b3 b4 b5 b6 b7 : Int) (w : World) (k : Nat) (hk : k < 8) :
    (Instr.index 66 (.agg #[.int .u8 b0, .int .u8 b1, .int .u8 b2, .int .u8 b3, .int .u8 b4, .int .u8 b5, .int .u8 b6, .int .u8 b7]) (.int .i64 (k : Int))).run Tryd.prog w = .ok (.int .u8 ([b0, b1, b2, b3, b4, b5, b6, b7].getD k 0)) w := by
  match k, hk with
  | 0, _ => exact idx8_0 b0 b1 b2 b3 b4 b5 b6 b7 w
  | 1, _ => exact idx8_1 b0 b1 b2 b3 b4 b5 b6 b7 w
  | 2, _ => exact idx8_2 b0 b1 b2 b3 b4 b5 b6 b7 w
  | 3, _ => exact idx8_3 b0 b1 b2 b3 b4 b5 b6 b7 w
  | 4, _ => exact idx8_4 b0 b1 b2 b3 b4 b5 b6 b7 w
  | 5, _ => exact idx8_5 b0 b1 b2 b3 b4 b5 b6 b7 w
  | 6, _ => exact idx8_6 b0 b1 b2 b3 b4 b5 b6 b7 w
  | 7, _ => exact idx8_7 b0 b1 b2 b3 b4 b5 b6 b7 w

set_option maxHeartbeats 400000 in
theorem wordOf_any (bs : List Int) (b0 b1 b2 b3 b4 b5 b6 b7 : Int) (w : World) (hb : bs = [b0, b1, b2, b3, b4, b5, b6, b7]) (hw : ∀ i, 0 ≤ bs.getD i 0 ∧ bs.getD i 0 ≤ 255) :
    Calls Tryd.prog 34 #[.agg #[.int .u8 b0, .int .u8 b1, .int .u8 b2, .int .u8 b3, .int .u8 b4, .int .u8 b5, .int .u8 b6, .int .u8 b7]] w fun e w' => e = .returned (.int .u64 (le bs 0 8)) ∧ Below w.heap.size w w' := by
  have HB : Hid (bs = [b0, b1, b2, b3, b4, b5, b6, b7]) := hb
  have HW : Hid (∀ i, 0 ≤ bs.getD i 0 ∧ bs.getD i 0 ≤ 255) := hw
  clear hb hw
  go_enter Tryd.func34, Tryd.ntmps34
  go_wp2
  go_loop [3, 7] (fun x i => ∃ k : Nat, k ≤ 8 ∧ i = .int .i64 (k : Int) ∧ x = .int .u64 (le bs 0 k)) (fun _ i => 8 - (intOf i).toNat)
  case atStart => exact ⟨0, by omega, rfl, rfl⟩
  case round =>
    obtain ⟨k, hk, rfl, rfl⟩ := hrel
    by_cases hlt : k < 8
    · obtain ⟨x, hxx⟩ : ∃ x, x = bs.getD k 0 := ⟨_, rfl⟩
      obtain ⟨y, hyy⟩ : ∃ y, y = le bs 0 k := ⟨_, rfl⟩
      have hx := HW.out k
      have hy := le_bd bs HW.out k 0
      rw [← hxx] at hx
      rw [← hyy] at hy ⊢
      have hix : ∀ w, (Instr.index 66 (.agg #[.int .u8 b0, .int .u8 b1, .int .u8 b2, .int .u8 b3, .int .u8 b4, .int .u8 b5, .int .u8 b6, .int .u8 b7]) (.int .i64 (k : Int))).run Tryd.prog w = .ok (.int .u8 x) w := by
        intro w
        rw [hxx, HB.out]
        exact idx8 b0 b1 b2 b3 b4 b5 b6 b7 w k hlt
      have S : Hid (bits .or .u64 y (IntKind.u64.wrap (x * 2 ^ (8 * k))) = le bs 0 (k + 1)) := by
        show bits .or .u64 y (IntKind.u64.wrap (x * 2 ^ (8 * k))) = le bs 0 (k + 1)
        have := word_step bs HW.out 0 k hlt
        rw [Nat.zero_add] at this
        rw [hxx, hyy]; exact this
      clear hxx hyy
      go_wp2
      go_round
      case rel => exact ⟨k + 1, by omega, by go_num, by rw [S.out]⟩
      case measure => simp [intOf]; omega
    · have h0 : k = 8 := by omega
      subst h0
      go_wp2
      go_ret
      exact ⟨rfl, (Below.refl _ _).alloc (Nat.le_refl _) _⟩

theorem lowBytes_any (x : Int) (m : Nat) (w : World) (h1 : 1 ≤ m) (hm : m ≤ 8) (h0 : 0 ≤ x) (hx : x < 18446744073709551616) :
    Calls Tryd.prog 35 #[.int .u64 x, .int .i64 (m : Int)] w fun e w' => e = .returned (.int .u64 (x % 256 ^ m)) ∧ w' = w := by
  have F : Hid (IntKind.u64.wrap (x * 2 ^ (64 - 8 * m)) / 2 ^ (64 - 8 * m) = x % 256 ^ m) := low_bytes x m h1 hm h0
  go_enter Tryd.func35, Tryd.ntmps35
  go_wp2
  go_ret
  exact ⟨by rw [← F.out]; rfl, rfl⟩

def loadB (zs : List Int) (n : Nat) (addr size : Int) : Int := if okB n addr size then le zs (addr - 2147483648).toNat size.toNat else 0

theorem eight (g p n : Nat) (zs : List Int) (w : World) (hz : zs.length = n) (hp : p + 8 ≤ n) (hs : Sl .u8 w (some ⟨g, 0, none⟩) zs) (hw : ∀ y ∈ zs, (Lit.int .u8 y).wf = true) :
    ∃ b0 b1 b2 b3 b4 b5 b6 b7 : Int, ∃ B : { bs : List Int // bs = [b0, b1, b2, b3, b4, b5, b6, b7] },
      w.cell? ⟨g, p, none⟩ = some (.int .u8 b0) ∧ w.cell? ⟨g, p + 1, none⟩ = some (.int .u8 b1) ∧ w.cell? ⟨g, p + 2, none⟩ = some (.int .u8 b2) ∧ w.cell? ⟨g, p + 3, none⟩ = some (.int .u8 b3) ∧
      w.cell? ⟨g, p + 4, none⟩ = some (.int .u8 b4) ∧ w.cell? ⟨g, p + 5, none⟩ = some (.int .u8 b5) ∧ w.cell? ⟨g, p + 6, none⟩ = some (.int .u8 b6) ∧ w.cell? ⟨g, p + 7, none⟩ = some (.int .u8 b7) ∧
      Hid (∀ i, 0 ≤ B.1.getD i 0 ∧ B.1.getD i 0 ≤ 255) ∧ Hid (le B.1 0 8 = le zs p 8) := by
  have c : ∀ i, i < 8 → w.cell? ⟨g, p + i, none⟩ = some (.int .u8 (zs.getD (p + i) 0)) := by
    intro i hi
    obtain ⟨b, off, e, _, hc⟩ := hs (p + i) (by omega)
    simp only [Option.some.injEq, Addr.mk.injEq, and_true] at e
    obtain ⟨rfl, rfl⟩ := e
    rw [Nat.zero_add] at hc
    exact hc
  have bd := byte_bd hw
  refine ⟨_, _, _, _, _, _, _, _, ⟨[zs.getD p 0, zs.getD (p + 1) 0, zs.getD (p + 2) 0, zs.getD (p + 3) 0, zs.getD (p + 4) 0, zs.getD (p + 5) 0, zs.getD (p + 6) 0, zs.getD (p + 7) 0], rfl⟩, c 0 (by omega), c 1 (by omega), c 2 (by omega), c 3 (by omega), c 4 (by omega), c 5 (by omega), c 6 (by omega), c 7 (by omega), ?_, ?_⟩
  · intro i
    match i with
    | 0 => exact bd p
    | 1 => exact bd (p + 1)
    | 2 => exact bd (p + 2)
    | 3 => exact bd (p + 3)
    | 4 => exact bd (p + 4)
    | 5 => exact bd (p + 5)
    | 6 => exact bd (p + 6)
    | 7 => exact bd (p + 7)
    | i + 8 => simp
  · show le [zs.getD p 0, zs.getD (p + 1) 0, zs.getD (p + 2) 0, zs.getD (p + 3) 0, zs.getD (p + 4) 0, zs.getD (p + 5) 0, zs.getD (p + 6) 0, zs.getD (p + 7) 0] 0 8 = le zs p 8
    rfl

set_option maxHeartbeats 400000 in
theorem implLoad_any (g n cap : Nat) (zs : List Int) (addr size : Int) (w : World) (hz : zs.length = n) (hn : n ≤ 1048576) (hs : Sl .u8 w (some ⟨g, 0, none⟩) zs) (hw : ∀ y ∈ zs, (Lit.int .u8 y).wf = true) (hcap : n ≤ cap) (hcap2 : cap ≤ 9223372036854775807)
    (ha : 0 ≤ addr) (ha2 : addr ≤ 18446744073709551615) :
    Calls Tryd.prog 12 #[.slice (some ⟨g, 0, none⟩) n cap, .int .u64 addr, .int .i64 size] w fun e w' => e = .returned (.tuple #[.int .u64 (loadB zs n addr size), .bool (okB n addr size)]) ∧ Below w.heap.size w w' := by
  have HZ : Hid (zs.length = n) := hz
  have HW : Hid (∀ y ∈ zs, (Lit.int .u8 y).wf = true) := hw
  clear hz hw
  cases hok : okB n addr size
  · have F2 : Hid (loadB zs n addr size = 0) := by show loadB zs n addr size = 0; simp [loadB, hok]
    go_enter Tryd.func12, Tryd.ntmps12
    go_wp2_with (go_at_call 33; refine (place_any _ _ _ _ _ _ hn ha ha2).mono ?_; rintro e w' ⟨rfl, rfl⟩)
    go_ret2
    exact ⟨by rw [F2.out]; rfl, Below.refl _ _⟩
  · obtain ⟨_, _, hb1, hb2, hs1, hs2, hn1, hn2⟩ := okB_true hok
    obtain ⟨f, hf⟩ : ∃ f : Nat, addr = 2147483648 + (f : Int) := ⟨(addr - 2147483648).toNat, by omega⟩
    obtain ⟨m, hm⟩ : ∃ m : Nat, size = (m : Int) := ⟨size.toNat, by omega⟩
    subst hf hm
    have F2 : Hid (loadB zs n (2147483648 + (f : Int)) (m : Int) = le zs f m) := by
      show loadB zs n (2147483648 + (f : Int)) (m : Int) = le zs f m
      simp only [loadB, hok, if_true]
      rw [show (2147483648 + (f : Int) - 2147483648).toNat = f from by omega, Int.toNat_natCast]
    have P2 : Hid (placeB n (2147483648 + (f : Int)) (m : Int) = f) := by
      show placeB n (2147483648 + (f : Int)) (m : Int) = f
      simp only [placeB, hok, if_true]
      omega
    by_cases hle : f ≤ n - 8
    · have hat : ∀ w, (Instr.arrayAt 66 (.slice (some ⟨g, f, none⟩) 8 (cap - f))).run Tryd.prog w = .ok (.pointer (some ⟨g, f, none⟩)) w := fun w => run_arrayAt w 66 _ 8 _ 8 (cap - f) Tryd.underlying66 (by omega)
      obtain ⟨b0, b1, b2, b3, b4, b5, b6, b7, B, c0, c1, c2, c3, c4, c5, c6, c7, hbs, L⟩ := eight g f n zs w HZ.out (by omega) hs HW.out
      go_enter Tryd.func12, Tryd.ntmps12
      go_wp2_with (first | (go_at_call 33; refine (place_any _ _ _ _ _ _ hn ha ha2).mono ?_; rw [P2.out]; rintro e w' ⟨rfl, rfl⟩) | (go_at_call 34; refine (wordOf_any B.1 b0 b1 b2 b3 b4 b5 b6 b7 _ B.2 hbs.out).mono ?_; rw [L.out]; rintro e w1 ⟨rfl, hw1⟩))
      have R : Hid (le zs f 8 % 256 ^ m = le zs f m) := by
        have := le_mod zs (byte_bd HW.out) f m (8 - m)
        rw [show m + (8 - m) = 8 from by omega] at this
        exact this
      have bd := le_bd8 zs (byte_bd HW.out) 8 f (by omega)
      refine (lowBytes_any (le zs f 8) m _ (by omega) (by omega) bd.1 bd.2).mono ?_
      rw [R.out]
      rintro e w2 ⟨rfl, rfl⟩
      go_wp2_with fail
      go_ret2
      exact ⟨by rw [F2.out]; rfl, hw1⟩
    · obtain ⟨p, hp⟩ : ∃ p, n = p + 8 := ⟨n - 8, by omega⟩
      obtain ⟨d, hd⟩ : ∃ d, f = p + d := ⟨f - p, by omega⟩
      subst hp hd
      have hat : ∀ w, (Instr.arrayAt 66 (.slice (some ⟨g, p, none⟩) 8 (cap - p))).run Tryd.prog w = .ok (.pointer (some ⟨g, p, none⟩)) w := fun w => run_arrayAt w 66 _ 8 _ 8 (cap - p) Tryd.underlying66 (by omega)
      obtain ⟨b0, b1, b2, b3, b4, b5, b6, b7, B, c0, c1, c2, c3, c4, c5, c6, c7, hbs, L⟩ := eight g p (p + 8) zs w HZ.out (by omega) hs HW.out
      have hok' : okB (p + 8) (2147483648 + ((p : Int) + (d : Int))) (m : Int) = true := by rw [← Int.natCast_add]; exact hok
      have D : Hid (le zs p 8 / 2 ^ (8 * d) = le zs (p + d) (8 - d)) := by
        show le zs p 8 / 2 ^ (8 * d) = le zs (p + d) (8 - d)
        have := le_div zs (byte_bd HW.out) p d (8 - d)
        rw [show d + (8 - d) = 8 from by omega] at this
        rw [pow_8]; exact this
      have R : Hid (le zs (p + d) (8 - d) % 256 ^ m = le zs (p + d) m) := by
        have := le_mod zs (byte_bd HW.out) (p + d) m (8 - d - m)
        rw [show m + (8 - d - m) = 8 - d from by omega] at this
        exact this
      have BD : Hid (0 ≤ le zs (p + d) (8 - d) ∧ le zs (p + d) (8 - d) < 18446744073709551616) := le_bd8 zs (byte_bd HW.out) (8 - d) (p + d) (by omega)
      go_enter Tryd.func12, Tryd.ntmps12
      go_wp2_with (first | (go_at_call 33; refine (place_any _ _ _ _ _ _ hn ha ha2).mono ?_; rw [P2.out]; rintro e w' ⟨rfl, rfl⟩) | (go_at_call 34; refine (wordOf_any B.1 b0 b1 b2 b3 b4 b5 b6 b7 _ B.2 hbs.out).mono ?_; rw [L.out]; rintro e w1 ⟨rfl, hw1⟩))
      rw [D.out]
      refine (lowBytes_any (le zs (p + d) (8 - d)) m _ (by omega) (by omega) BD.out.1 BD.out.2).mono ?_
      rw [R.out]
      rintro e w2 ⟨rfl, rfl⟩
      go_wp2_with fail
      go_ret2
      exact ⟨by rw [F2.out]; rfl, hw1⟩

def imgPut : List Int → Nat → List Int → Option (List Int)
  | [], _, zs => some zs
  | x :: xs, k, zs => if 4294967296 ≤ x then none else imgPut xs (k + 1) (put zs (4 * k) x 4)

def imgOk (n : Nat) (size : Int) : Bool := decide (4096 ≤ size ∧ size ≤ 65536 ∧ size % 4096 = 0 ∧ (n : Int) ≤ size / 4)

def imgL (ws : List Int) (size : Int) : Option (List Int) := if imgOk ws.length size then imgPut ws 0 (List.replicate size.toNat 0) else none

def ImgPost (ws : List Int) (size : Int) (w : World) (e : Ending) (w' : World) : Prop :=
  ∃ v, e = .returned (.tuple #[v, .bool (imgL ws size).isSome]) ∧ Lst 5 w w' v ((imgL ws size).getD []).length (((imgL ws size).getD []).map (Value.int .u8))

theorem imgPut_len (ws : List Int) : ∀ (k : Nat) (zs ys : List Int), imgPut ws k zs = some ys → ys.length = zs.length := by
  induction ws with
  | nil => intro k zs ys h; rw [Option.some.inj h]
  | cons x xs ih =>
    intro k zs ys h
    rw [imgPut] at h
    split at h
    · cases h
    · rw [ih _ _ _ h, put_len]

theorem nil_lst8 {w wr : World} (h : Below w.heap.size w wr) : Lst 5 w wr (.slice none 0 0) 0 [] := ⟨⟨rfl, Or.inl ⟨rfl, rfl⟩⟩, h⟩

set_option maxRecDepth 20000 in
set_option maxHeartbeats 6400000 in
theorem implImage_any (a : Option Addr) (n cap : Nat) (ws : List Int) (size : Int) (w : World) (hz : ws.length = n) (hn : n ≤ 1048576) (hs : Sl .u64 w a ws) (hw : ∀ x ∈ ws, 0 ≤ x ∧ x ≤ 18446744073709551615) (hsz : (Lit.int .i64 size).wf = true) :
    Calls Tryd.prog 11 #[.slice a n cap, .int .i64 size] w (ImgPost ws size w) := by
  obtain ⟨i0, hi, hz0, hz1, hz2⟩ := info_parts Tryd.info5
  have HZ : Hid (ws.length = n) := hz
  have HW : Hid (∀ x ∈ ws, 0 ≤ x ∧ x ≤ 18446744073709551615) := hw
  have HS : Hid (Sl .u64 w a ws) := hs
  clear hz hw hs
  by_cases h1 : 0 ≤ size ∧ size ≤ 65536
  · obtain ⟨m, rfl⟩ : ∃ m : Nat, size = (m : Int) := ⟨size.toNat, by omega⟩
    have hb2 : i0.bytes * m ≤ 281474976710656 := by rw [hz2]; omega
    have hb3 : m ≤ maxLen := by unfold maxLen; omega
    have t1 : ¬ ((m : Int) < 0) := by omega
    have t1' : ¬ ((65536 : Int) < (m : Int)) := by omega
    have hm1 : m ≤ 65536 := by omega
    go_enter Tryd.func11, Tryd.ntmps11
    go_wp2_with (at_make; refine wpList_make_full _ rfl (.tmp 16) (.tmp 16) 22 rfl _ 5 i0 (.int .u8 0) 1 Tryd.underlying22 hi hz0 hz1 .i64 .i64 _ _ m rfl rfl rfl rfl hb2 hb3 (Nat.le_refl _) ?_; intro w2 hown hgrow)
    have HO0 : Hid (w2.ownsRow w.heap.size 5 1 (.slice (some ⟨w.heap.size, 0, none⟩) m m) m ((List.replicate m (0 : Int)).map (Value.int .u8))) := by
      show w2.ownsRow _ _ _ _ _ _
      rw [List.map_replicate, ← toList_madeCells_one]; simpa [Value.cells] using hown
    have HB0 : Hid (Below w.heap.size w w2) := (Below.refl _ _).grown hgrow (Nat.le_refl _) (by intro k h; cases h)
    clear hown hgrow t1 t1' h1 hsz
    refine (implRamOk_any _ m m _ (by omega)).mono ?_
    rintro e w3 ⟨rfl, hw3⟩
    have hw3' := hw3.symm
    subst hw3'
    cases hok : ramOkB m with
    | false =>
      have HR : Hid (imgL ws (m : Int) = none) := by
        show imgL ws (m : Int) = none
        unfold imgL imgOk
        unfold ramOkB at hok
        have hok2 := of_decide_eq_false hok
        rw [decide_eq_false (fun h => hok2 ⟨by omega, by omega, by omega⟩)]
        rfl
      clear hok
      go_wp2_with fail
      go_ret2
      exact ⟨.slice none 0 0, by rw [HR.out]; rfl, by rw [HR.out]; exact nil_lst8 HB0.out⟩
    | true =>
      have hok2 : 4096 ≤ m ∧ m ≤ 65536 ∧ m % 4096 = 0 := of_decide_eq_true hok
      by_cases h3 : (n : Int) ≤ (m : Int) / 4
      · have HOK : Hid (imgL ws (m : Int) = imgPut ws 0 (List.replicate m 0)) := by
          show imgL ws (m : Int) = _
          unfold imgL imgOk
          rw [HZ.out, decide_eq_true ⟨by omega, by omega, by omega, h3⟩]
          rfl
        have t3 : ¬ ((m : Int) / 4 < (n : Int)) := by omega
        have hn4 : 4 * n ≤ m := by omega
        clear hok hok2 h3
        go_wp2_with fail
        go_loopw [31] (fun kv wr => ∃ (k : Nat) (zs : List Int), kv = .int .i64 k ∧ k ≤ n ∧ Hid (wr.ownsRow w.heap.size 5 1 (.slice (some ⟨w.heap.size, 0, none⟩) m m) m (zs.map (Value.int .u8))) ∧ Hid (Below w.heap.size w wr) ∧ Hid (imgPut (ws.drop k) k zs = imgPut ws 0 (List.replicate m 0)))
          (fun kv _ => n - (intOf kv).toNat)
        case atStart => exact ⟨0, List.replicate m 0, rfl, by omega, HO0, HB0, (rfl : imgPut (ws.drop 0) 0 (List.replicate m 0) = imgPut ws 0 (List.replicate m 0))⟩
        case round =>
          obtain ⟨k, zs, rfl, hk, hO, hB, hI⟩ := hrel
          clear HO0 HB0 t3
          by_cases hlt : k < n
          · have hkl : k < ws.length := by rw [HZ.out]; exact hlt
            obtain ⟨b, off, rfl, hbl, hcell0⟩ := HS.out k hkl
            have hcell := (hB.out.cell (p := ⟨b, off + k, none⟩) hbl).trans hcell0
            obtain ⟨x, hx⟩ : ∃ x, x = ws.getD k 0 := ⟨_, rfl⟩
            rw [← hx] at hcell
            have hxe : ws[k] = x := by rw [hx]; simp [List.getD, List.getElem?_eq_getElem hkl]
            have hxb := HW.out x (by rw [← hxe]; exact List.getElem_mem hkl)
            have hI2 := hI.out
            rw [List.drop_eq_getElem_cons hkl, hxe, imgPut] at hI2
            clear hcell0 hbl hx hxe
            by_cases hbig : 4294967296 ≤ x
            · rw [if_pos hbig] at hI2
              have HR : Hid (imgL ws (m : Int) = none) := HOK.out.trans hI2.symm
              have t : (4294967295 < x) := by omega
              clear hI hI2 hkl hbig
              go_wp2_with fail
              go_ret2
              exact ⟨.slice none 0 0, by rw [HR.out]; rfl, by rw [HR.out]; exact nil_lst8 hB.out⟩
            · rw [if_neg hbig] at hI2
              have HI2 : Hid (imgPut (ws.drop (k + 1)) (k + 1) (put zs (4 * k) x 4) = imgPut ws 0 (List.replicate m 0)) := hI2
              have t : ¬ (4294967295 < x) := by omega
              have HZl : Hid (zs.length = m) := by have := hO.out.1; show zs.length = m; simpa using this
              clear hI hI2 hkl hbig
              go_wp2_with fail
              go_loopw [38] (fun bv wx => ∃ (b : Nat), bv = .int .i64 b ∧ b ≤ 4 ∧ Hid (wx.ownsRow w.heap.size 5 1 (.slice (some ⟨w.heap.size, 0, none⟩) m m) m ((put zs (4 * k) x b).map (Value.int .u8))) ∧ Hid (Below w.heap.size w wx))
                (fun bv _ => 4 - (intOf bv).toNat)
              case atStart => exact ⟨0, rfl, by omega, hO, hB⟩
              case round =>
                obtain ⟨b, rfl, hb, hO2, hB2⟩ := hrel
                clear hO hB
                by_cases hb4 : b < 4
                · have hb5 : b = 0 ∨ b = 1 ∨ b = 2 ∨ b = 3 := by omega
                  clear hb hb4
                  rcases hb5 with rfl | rfl | rfl | rfl
                  · have hfr : wr.frozen? ⟨w.heap.size, 4 * k, none⟩ = false := hO2.out.frozenAt (4 * k)
                    have hst := hO2.out.stored (4 * k) (.int .u8 (x % 256))
                    obtain ⟨v3, hv3⟩ : ∃ v, wr.cell? ⟨w.heap.size, 4 * k, none⟩ = some v := by
                      rw [hO2.out.cellAt (4 * k) (by omega)]
                      exact ⟨_, List.getElem?_eq_getElem (by rw [List.length_map, put_len, HZl.out]; omega)⟩
                    rw [map_set_u8] at hst
                    have HO3 : Hid ((wr.setCell ⟨w.heap.size, 4 * k, none⟩ (.int .u8 (x % 256))).ownsRow w.heap.size 5 1 (.slice (some ⟨w.heap.size, 0, none⟩) m m) m ((put zs (4 * k) x (0 + 1)).map (Value.int .u8))) := by
                      have e2 : put zs (4 * k) x (0 + 1) = (put zs (4 * k) x 0).set (4 * k) (x % 256) := by
                        show (put zs (4 * k) x 0).set (4 * k + 0) (x / 256 ^ 0 % 256) = _
                        rw [(by rw [Int.pow_zero, Int.ediv_one] : x / 256 ^ 0 % 256 = x % 256)]; rfl
                      show World.ownsRow _ _ _ _ _ _ _
                      rw [e2]; exact hst.1
                    have HB3 : Hid (Below w.heap.size w (wr.setCell ⟨w.heap.size, 4 * k, none⟩ (.int .u8 (x % 256)))) := hB2.out.setCell (Nat.le_refl _) _
                    clear hst hO2 hB2
                    go_wp2_with fail
                    go_roundw
                    case rel => exact ⟨0 + 1, by go_num, by omega, HO3, HB3⟩
                    case measure => simp [intOf]
                  · have hfr : wr.frozen? ⟨w.heap.size, 4 * k + 1, none⟩ = false := hO2.out.frozenAt (4 * k + 1)
                    have hst := hO2.out.stored (4 * k + 1) (.int .u8 (x / 256 % 256))
                    obtain ⟨v3, hv3⟩ : ∃ v, wr.cell? ⟨w.heap.size, 4 * k + 1, none⟩ = some v := by
                      rw [hO2.out.cellAt (4 * k + 1) (by omega)]
                      exact ⟨_, List.getElem?_eq_getElem (by rw [List.length_map, put_len, HZl.out]; omega)⟩
                    rw [map_set_u8] at hst
                    have HO3 : Hid ((wr.setCell ⟨w.heap.size, 4 * k + 1, none⟩ (.int .u8 (x / 256 % 256))).ownsRow w.heap.size 5 1 (.slice (some ⟨w.heap.size, 0, none⟩) m m) m ((put zs (4 * k) x (1 + 1)).map (Value.int .u8))) := by
                      have e2 : put zs (4 * k) x (1 + 1) = (put zs (4 * k) x 1).set (4 * k + 1) (x / 256 % 256) := by
                        show (put zs (4 * k) x 1).set (4 * k + 1) (x / 256 ^ 1 % 256) = _
                        rw [(by rfl : x / 256 ^ 1 % 256 = x / 256 % 256)]
                      show World.ownsRow _ _ _ _ _ _ _
                      rw [e2]; exact hst.1
                    have HB3 : Hid (Below w.heap.size w (wr.setCell ⟨w.heap.size, 4 * k + 1, none⟩ (.int .u8 (x / 256 % 256)))) := hB2.out.setCell (Nat.le_refl _) _
                    clear hst hO2 hB2
                    go_wp2_with fail
                    go_roundw
                    case rel => exact ⟨1 + 1, by go_num, by omega, HO3, HB3⟩
                    case measure => simp [intOf]
                  · have hfr : wr.frozen? ⟨w.heap.size, 4 * k + 2, none⟩ = false := hO2.out.frozenAt (4 * k + 2)
                    have hst := hO2.out.stored (4 * k + 2) (.int .u8 (x / 65536 % 256))
                    obtain ⟨v3, hv3⟩ : ∃ v, wr.cell? ⟨w.heap.size, 4 * k + 2, none⟩ = some v := by
                      rw [hO2.out.cellAt (4 * k + 2) (by omega)]
                      exact ⟨_, List.getElem?_eq_getElem (by rw [List.length_map, put_len, HZl.out]; omega)⟩
                    rw [map_set_u8] at hst
                    have HO3 : Hid ((wr.setCell ⟨w.heap.size, 4 * k + 2, none⟩ (.int .u8 (x / 65536 % 256))).ownsRow w.heap.size 5 1 (.slice (some ⟨w.heap.size, 0, none⟩) m m) m ((put zs (4 * k) x (2 + 1)).map (Value.int .u8))) := by
                      have e2 : put zs (4 * k) x (2 + 1) = (put zs (4 * k) x 2).set (4 * k + 2) (x / 65536 % 256) := by
                        show (put zs (4 * k) x 2).set (4 * k + 2) (x / 256 ^ 2 % 256) = _
                        rw [(by rfl : x / 256 ^ 2 % 256 = x / 65536 % 256)]
                      show World.ownsRow _ _ _ _ _ _ _
                      rw [e2]; exact hst.1
                    have HB3 : Hid (Below w.heap.size w (wr.setCell ⟨w.heap.size, 4 * k + 2, none⟩ (.int .u8 (x / 65536 % 256)))) := hB2.out.setCell (Nat.le_refl _) _
                    clear hst hO2 hB2
                    go_wp2_with fail
                    go_roundw
                    case rel => exact ⟨2 + 1, by go_num, by omega, HO3, HB3⟩
                    case measure => simp [intOf]
                  · have hfr : wr.frozen? ⟨w.heap.size, 4 * k + 3, none⟩ = false := hO2.out.frozenAt (4 * k + 3)
                    have hst := hO2.out.stored (4 * k + 3) (.int .u8 (x / 16777216))
                    obtain ⟨v3, hv3⟩ : ∃ v, wr.cell? ⟨w.heap.size, 4 * k + 3, none⟩ = some v := by
                      rw [hO2.out.cellAt (4 * k + 3) (by omega)]
                      exact ⟨_, List.getElem?_eq_getElem (by rw [List.length_map, put_len, HZl.out]; omega)⟩
                    rw [map_set_u8] at hst
                    have HO3 : Hid ((wr.setCell ⟨w.heap.size, 4 * k + 3, none⟩ (.int .u8 (x / 16777216))).ownsRow w.heap.size 5 1 (.slice (some ⟨w.heap.size, 0, none⟩) m m) m ((put zs (4 * k) x (3 + 1)).map (Value.int .u8))) := by
                      have e2 : put zs (4 * k) x (3 + 1) = (put zs (4 * k) x 3).set (4 * k + 3) (x / 16777216) := by
                        show (put zs (4 * k) x 3).set (4 * k + 3) (x / 256 ^ 3 % 256) = _
                        rw [(by show x / 16777216 % 256 = _; omega : x / 256 ^ 3 % 256 = x / 16777216)]
                      show World.ownsRow _ _ _ _ _ _ _
                      rw [e2]; exact hst.1
                    have HB3 : Hid (Below w.heap.size w (wr.setCell ⟨w.heap.size, 4 * k + 3, none⟩ (.int .u8 (x / 16777216)))) := hB2.out.setCell (Nat.le_refl _) _
                    clear hst hO2 hB2
                    go_wp2_with fail
                    go_roundw
                    case rel => exact ⟨3 + 1, by go_num, by omega, HO3, HB3⟩
                    case measure => simp [intOf]
                · have hbe : b = 4 := by omega
                  subst hbe
                  go_wp2_with fail
                  go_roundw
                  case rel => exact ⟨k + 1, put zs (4 * k) x 4, by go_num, by omega, hO2, hB2, HI2⟩
                  case measure => simp [intOf]; omega
          · have hke : k = ws.length := by rw [HZ.out]; omega
            have hI2 := hI.out
            rw [hke, List.drop_length, imgPut] at hI2
            have HR : Hid (imgL ws (m : Int) = some zs) := HOK.out.trans hI2.symm
            have HZl : Hid (zs.length = m) := by have := hO.out.1; show zs.length = m; simpa using this
            clear hI hI2 hke
            go_wp2_with fail
            go_ret2
            refine ⟨.slice (some ⟨w.heap.size, 0, none⟩) m m, ?_, ?_⟩
            · rw [HR.out]; rfl
            · rw [HR.out]
              show Lst _ _ _ _ zs.length (zs.map (Value.int .u8))
              rw [HZl.out]
              exact ⟨hO.out, hB.out⟩
      · have HR : Hid (imgL ws (m : Int) = none) := by
          show imgL ws (m : Int) = none
          unfold imgL imgOk
          rw [HZ.out, decide_eq_false (fun h => h3 h.2.2.2)]
          rfl
        have t3 : ((m : Int) / 4 < (n : Int)) := by omega
        clear hok hok2 h3
        go_wp2_with fail
        go_ret2
        exact ⟨.slice none 0 0, by rw [HR.out]; rfl, by rw [HR.out]; exact nil_lst8 HB0.out⟩
  · have HR : Hid (imgL ws size = none) := by
      show imgL ws size = none
      unfold imgL imgOk
      rw [decide_eq_false (fun h => h1 ⟨by omega, h.2.1⟩)]
      rfl
    by_cases h0 : size < 0
    · clear h1 hsz
      go_enter Tryd.func11, Tryd.ntmps11
      go_wp2_with fail
      go_ret2
      exact ⟨.slice none 0 0, by rw [HR.out]; rfl, by rw [HR.out]; exact nil_lst8 (Below.refl _ _)⟩
    · have h9 : 65536 < size := by omega
      clear h1 hsz
      go_enter Tryd.func11, Tryd.ntmps11
      go_wp2_with fail
      go_ret2
      exact ⟨.slice none 0 0, by rw [HR.out]; rfl, by rw [HR.out]; exact nil_lst8 (Below.refl _ _)⟩

theorem put_get (zs : List Int) (f : Nat) (x : Int) (j : Nat) : ∀ k, j < k → f + k ≤ zs.length → (put zs f x k).getD (f + j) 0 = x / 256 ^ j % 256 := by
  intro k
  induction k with
  | zero => intro h; omega
  | succ k ih =>
    intro hj hl
    rw [put]
    by_cases e : j = k
    · subst e
      have : f + j < (put zs f x j).length := by rw [put_len]; omega
      simp [List.getD, this]
    · have h1 : ((put zs f x k).set (f + k) (x / 256 ^ k % 256)).getD (f + j) 0 = (put zs f x k).getD (f + j) 0 := by
        have : f + k ≠ f + j := by omega
        simp only [List.getD, List.getElem?_set_ne this]
      rw [h1]; exact ih (by omega) (by omega)

theorem le_same (xs : List Int) (x : Int) : ∀ (m f d : Nat), (∀ j, j < m → xs.getD (f + j) 0 = x / 256 ^ (d + j) % 256) → le xs f m = x / 256 ^ d % 256 ^ m := by
  intro m
  induction m with
  | zero => intro f d _; simp [le, Int.emod_one]
  | succ m ih =>
    intro f d h
    rw [le, ih (f + 1) (d + 1) (fun j hj => by have := h (j + 1) (by omega); rw [show f + (j + 1) = f + 1 + j from by omega, show d + (j + 1) = d + 1 + j from by omega] at this; exact this)]
    have h0 := h 0 (by omega)
    rw [Nat.add_zero, Nat.add_zero] at h0
    rw [h0]
    have e1 : x / 256 ^ (d + 1) = x / 256 ^ d / 256 := by
      rw [Int.pow_succ, Int.ediv_ediv_of_nonneg (Int.le_of_lt (Int.pow_pos (by omega)))]
    have e2 : (256 : Int) ^ (m + 1) = 256 * 256 ^ m := by rw [Int.pow_succ, Int.mul_comm]
    rw [e1, e2]
    generalize x / 256 ^ d = y
    have hp : (0 : Int) < 256 ^ m := Int.pow_pos (by omega)
    generalize (256 : Int) ^ m = N at *
    have hq := Int.emod_add_mul_ediv (y / 256) N
    have hy := Int.emod_add_mul_ediv y 256
    have hb := Int.emod_nonneg (y / 256) (show N ≠ 0 by omega)
    have hb2 := Int.emod_lt_of_pos (y / 256) hp
    have e3 : y = (y % 256 + 256 * (y / 256 % N)) + (256 * N) * (y / 256 / N) := by
      have h1 : 256 * (y / 256) = 256 * (y / 256 % N) + 256 * (N * (y / 256 / N)) := by rw [← Int.mul_add, hq]
      rw [Int.mul_assoc]
      omega
    have h2 : 256 * (y / 256 % N) + 256 ≤ 256 * N := by omega
    have e5 : ∀ (A K M : Int), 0 ≤ A → A < M → (A + M * K) % M = A := fun A K M p q => by rw [Int.add_mul_emod_self_left, Int.emod_eq_of_lt p q]
    have e6 := e5 (y % 256 + 256 * (y / 256 % N)) (y / 256 / N) (256 * N) (by omega) (by omega)
    rw [← e3] at e6
    exact e6.symm

theorem le_put (zs : List Int) (f m : Nat) (x : Int) (h : f + m ≤ zs.length) : le (put zs f x m) f m = x % 256 ^ m := by
  have := le_same (put zs f x m) x m f 0 (fun j hj => by rw [Nat.zero_add]; exact put_get zs f x j m hj h)
  simpa using this

theorem put_off (zs : List Int) (f : Nat) (x : Int) (j : Nat) : ∀ k, (j < f ∨ f + k ≤ j) → (put zs f x k).getD j 0 = zs.getD j 0 := by
  intro k
  induction k with
  | zero => intro h; rfl
  | succ k ih =>
    intro h
    have e : (put zs f x (k + 1)).getD j 0 = (put zs f x k).getD j 0 := by
      show ((put zs f x k).set (f + k) (x / 256 ^ k % 256)).getD j 0 = _
      have hne : f + k ≠ j := by omega
      simp [List.getD, List.getElem?_set_ne hne]
    rw [e]
    exact ih (by omega)

theorem le_like (zs ys : List Int) : ∀ m g, (∀ j, j < m → ys.getD (g + j) 0 = zs.getD (g + j) 0) → le ys g m = le zs g m := by
  intro m
  induction m with
  | zero => intro g h; rfl
  | succ m ih =>
    intro g h
    show ys.getD g 0 + 256 * le ys (g + 1) m = zs.getD g 0 + 256 * le zs (g + 1) m
    have h0 := h 0 (by omega)
    rw [Nat.add_zero] at h0
    rw [h0, ih (g + 1) (fun j hj => by have := h (j + 1) (by omega); rw [show g + 1 + j = g + (j + 1) from by omega]; exact this)]

theorem le_put_off (zs : List Int) (f g m : Nat) (x : Int) (h : g + m ≤ f ∨ f + m ≤ g) : le (put zs f x m) g m = le zs g m :=
  le_like _ _ m g fun j hj => put_off zs f x (g + j) m (by omega)

theorem imgPut_some (ws : List Int) : ∀ (k : Nat) (zs : List Int), (∀ x ∈ ws, x < 4294967296) → (imgPut ws k zs).isSome = true := by
  induction ws with
  | nil => intro k zs _; rfl
  | cons x xs ih =>
    intro k zs h
    have := h x (by simp)
    rw [imgPut, if_neg (by omega)]
    exact ih _ _ (fun y hy => h y (by simp [hy]))

theorem imgPut_off (ws : List Int) : ∀ (k : Nat) (zs ys : List Int) (g : Nat), imgPut ws k zs = some ys → g + 4 ≤ 4 * k → le ys g 4 = le zs g 4 := by
  induction ws with
  | nil => intro k zs ys g h _; rw [Option.some.inj h]
  | cons x xs ih =>
    intro k zs ys g h hg
    rw [imgPut] at h
    split at h
    · cases h
    · rw [ih _ _ _ g h (by omega), le_put_off _ _ _ _ _ (.inl hg)]

theorem imgPut_le (ws : List Int) : ∀ (k : Nat) (zs ys : List Int) (i : Nat), imgPut ws k zs = some ys → i < ws.length → 4 * k + 4 * ws.length ≤ zs.length → (∀ x ∈ ws, 0 ≤ x) → le ys (4 * (k + i)) 4 = ws.getD i 0 := by
  induction ws with
  | nil => intro k zs ys i h hi; simp at hi
  | cons x xs ih =>
    intro k zs ys i h hi hl h0
    rw [imgPut] at h
    split at h
    · cases h
    · rename_i hx
      simp at hi hl
      cases i with
      | zero =>
        have h1 := h0 x (by simp)
        rw [imgPut_off _ _ _ _ _ h (by omega), Nat.add_zero, le_put _ _ _ _ (by omega)]
        simp
        omega
      | succ i =>
        have h2 := ih (k + 1) _ ys i h (by omega) (by rw [put_len]; omega) (fun y hy => h0 y (by simp [hy]))
        rw [show k + (i + 1) = k + 1 + i from by omega, h2]
        simp [List.getD]

theorem imgPut_byte (ws : List Int) : ∀ (k : Nat) (zs ys : List Int), imgPut ws k zs = some ys → (∀ y ∈ zs, 0 ≤ y ∧ y ≤ 255) → ∀ y ∈ ys, 0 ≤ y ∧ y ≤ 255 := by
  have hput : ∀ (m : Nat) (zs : List Int) (f : Nat) (x : Int), (∀ y ∈ zs, 0 ≤ y ∧ y ≤ 255) → ∀ y ∈ put zs f x m, 0 ≤ y ∧ y ≤ 255 := by
    intro m
    induction m with
    | zero => intro zs f x h; exact h
    | succ m ih =>
      intro zs f x h y hy
      rw [put] at hy
      rcases List.mem_or_eq_of_mem_set hy with hy | rfl
      · exact ih zs f x h y hy
      · omega
  induction ws with
  | nil => intro k zs ys h hz; rw [← Option.some.inj h]; exact hz
  | cons x xs ih =>
    intro k zs ys h hz
    rw [imgPut] at h
    split at h
    · cases h
    · exact ih _ _ _ h (hput _ _ _ _ hz)

theorem img_loads (ws : List Int) (h : ∀ x ∈ ws, 0 ≤ x ∧ x < 4294967296) : (imgL ws 4096).isSome = decide (ws.length ≤ 1024) ∧
    (∀ ys, imgL ws 4096 = some ys → ys.length = 4096 ∧ (∀ y ∈ ys, 0 ≤ y ∧ y ≤ 255) ∧ ∀ i, i < ws.length → loadB ys 4096 (2147483648 + 4 * (i : Int)) 4 = ws.getD i 0) := by
  have hok : imgOk ws.length 4096 = decide (ws.length ≤ 1024) := by
    unfold imgOk
    by_cases hc : ws.length ≤ 1024
    · rw [decide_eq_true hc, decide_eq_true_iff]; omega
    · rw [decide_eq_false hc, decide_eq_false_iff_not]; omega
  unfold imgL
  rw [hok]
  by_cases hc : ws.length ≤ 1024
  · rw [decide_eq_true hc, if_pos rfl]
    refine ⟨imgPut_some ws _ _ (fun x hx => (h x hx).2), fun ys hy => ?_⟩
    have hl : (List.replicate (4096 : Int).toNat (0 : Int)).length = 4096 := List.length_replicate
    have hyl : ys.length = 4096 := (imgPut_len ws _ _ _ hy).trans hl
    refine ⟨hyl, imgPut_byte ws _ _ _ hy (fun y hz => by rw [List.eq_of_mem_replicate hz]; omega), fun i hi => ?_⟩
    have h1 := imgPut_le ws 0 _ ys i hy hi (by rw [hl]; omega) (fun x hx => (h x hx).1)
    rw [Nat.zero_add] at h1
    unfold loadB
    rw [if_pos (by
      unfold okB ramOkB sizeB
      simp
      omega)]
    rw [show (2147483648 + 4 * (i : Int) - 2147483648).toNat = 4 * i from by omega]
    exact h1
  · rw [decide_eq_false hc]
    refine ⟨rfl, fun ys hy => ?_⟩
    cases hy

theorem and_i64 (z : Int) (m : Nat) (hm : m < 9223372036854775808) : 0 ≤ bits .and .i64 z (m : Int) ∧ bits .and .i64 z (m : Int) ≤ m := by
  have e : bits .and .i64 z (m : Int) = wrap64 (((BitVec.ofInt 64 z).toNat &&& m : Nat) : Int) := by
    show IntKind.i64.wrap ((BitVec.ofInt 64 z &&& BitVec.ofInt 64 (m : Int)).toNat : Int) = _
    rw [BitVec.toNat_and, BitVec.ofInt_natCast, BitVec.toNat_ofNat, Nat.mod_eq_of_lt (show m < 2 ^ 64 by omega)]
    rw [IntKind.wrap_i64]; unfold wrap64; rfl
  have h : (BitVec.ofInt 64 z).toNat &&& m ≤ m := Nat.and_le_right
  rw [e]
  unfold wrap64
  omega

structure Code (w0 : World) (a : Option Addr) (n : Nat) (zs : List Int) : Prop where
  len : zs.length = n
  few : n ≤ 4096
  sl : Sl .u8 w0 a zs
  bd : ∀ y ∈ zs, (Lit.int .u8 y).wf = true

structure Cur (w0 w : World) (g : Nat) (a : Option Addr) (n cap : Nat) : Prop where
  new : w0.heap.size ≤ g
  below : Below w0.heap.size w0 w
  row : ∃ (i : Nat) (h : Int), i ≤ n ∧ w.heap[g]? = some (.cells #[.slice a n cap, .int .i64 (i : Int), .int .i64 h] 69 (0, 0))

theorem grown_set (w : World) (g i : Nat) (v : Value) : w.grownBy (w.setCell ⟨g, i, none⟩ v) (some g) :=
  ⟨rfl, rfl, rfl, by simp, fun k _ hk => heap_setCell_other _ _ _ _ (by intro h; exact hk (by rw [h]))⟩

theorem grown_dN (w : World) (n : Nat) (row : Option Nat) : w.grownBy (w.drewN n) row := ⟨rfl, rfl, rfl, Nat.le_refl _, fun _ _ _ => rfl⟩

theorem grown_alloc (w : World) (o : Obj) (row : Option Nat) : w.grownBy (w.alloc o) row :=
  ⟨rfl, rfl, rfl, by simp, fun k hk _ => heap_alloc_old w o hk⟩

theorem Cur.grown {w0 w w' : World} {g : Nat} {a : Option Addr} {n cap : Nat} (hc : Cur w0 w g a n cap) (hw : w.grownBy w' none) : Cur w0 w' g a n cap := by
  obtain ⟨i, h, hi, hrow⟩ := hc.row
  have lt : ∀ k o, w.heap[k]? = some o → k < w.heap.size := by
    intro k o hk
    by_cases hl : k < w.heap.size
    · exact hl
    · rw [Array.getElem?_eq_none (by omega)] at hk; cases hk
  refine ⟨hc.new, ?_, i, h, hi, ?_⟩
  · exact ⟨hw.os.trans hc.below.os, hw.tape.trans hc.below.tape, hw.output.trans hc.below.output, Nat.le_trans hc.below.size hw.size, fun k hk => (hw.block k (Nat.lt_of_lt_of_le hk hc.below.size) (by simp)).trans (hc.below.block k hk)⟩
  · rw [hw.block g (lt _ _ hrow) (by simp)]; exact hrow

theorem Cur.set2 {w0 w : World} {g : Nat} {a : Option Addr} {n cap : Nat} (hc : Cur w0 w g a n cap) (v : Int) : Cur w0 (w.setCell ⟨g, 2, none⟩ (.int .i64 v)) g a n cap := by
  obtain ⟨i, h, hi, hrow⟩ := hc.row
  exact ⟨hc.new, hc.below.setCell hc.new _, i, v, hi, heap_setCell_same w g 2 _ _ _ hrow⟩

theorem Cur.set1 {w0 w : World} {g : Nat} {a : Option Addr} {n cap : Nat} (hc : Cur w0 w g a n cap) (j : Nat) (hj : j ≤ n) : Cur w0 (w.setCell ⟨g, 1, none⟩ (.int .i64 (j : Int))) g a n cap := by
  obtain ⟨i, h, hi, hrow⟩ := hc.row
  exact ⟨hc.new, hc.below.setCell hc.new _, j, h, hj, heap_setCell_same w g 1 _ _ _ hrow⟩

theorem Cur.dN {w0 w : World} {g : Nat} {a : Option Addr} {n cap : Nat} (hc : Cur w0 w g a n cap) (m : Nat) : Cur w0 (w.drewN m) g a n cap := hc.grown (grown_dN w m none)

set_option maxHeartbeats 1600000 in
theorem l1Byte_any {w0 : World} {g : Nat} {a : Option Addr} {n cap : Nat} {zs : List Int} (hcd : Code w0 a n zs) (w : World) (hc : Cur w0 w g a n cap) :
    Calls Tryd.prog 36 #[.pointer (some ⟨g, 0, none⟩)] w fun e w' => ∃ x : Int, e = .returned (.int .i64 x) ∧ 0 ≤ x ∧ x ≤ 255 ∧ Cur w0 w' g a n cap ∧ w.grownBy w' (some g) := by
  obtain ⟨i, h, hi, hrow⟩ := hc.row
  have c2 := cell_of_row w g 2 _ _ _ hrow
  have f2 := frozen_of_row w g 2 _ _ hrow
  simp at c2
  have R : ∀ v, (w.setCell ⟨g, 2, none⟩ v).heap[g]? = some (.cells #[.slice a n cap, .int .i64 (i : Int), v] 69 (0, 0)) := fun v => heap_setCell_same w g 2 _ _ v hrow
  have K0 : ∀ v, (w.setCell ⟨g, 2, none⟩ v).cell? ⟨g, 0, none⟩ = some (.slice a n cap) := fun v => cell_of_row _ _ _ _ _ _ (R v)
  have K1 : ∀ v, (w.setCell ⟨g, 2, none⟩ v).cell? ⟨g, 1, none⟩ = some (.int .i64 (i : Int)) := fun v => cell_of_row _ _ _ _ _ _ (R v)
  have K2 : ∀ v, (w.setCell ⟨g, 2, none⟩ v).cell? ⟨g, 2, none⟩ = some v := fun v => cell_of_row _ _ _ _ _ _ (R v)
  have F1 : ∀ v, (w.setCell ⟨g, 2, none⟩ v).frozen? ⟨g, 1, none⟩ = false := fun v => frozen_of_row _ _ _ _ _ (R v)
  have HR : Hid (∀ v, (w.setCell ⟨g, 2, none⟩ v).heap[g]? = some (.cells #[.slice a n cap, .int .i64 (i : Int), v] 69 (0, 0))) := R
  have HC : Hid (Cur w0 w g a n cap) := hc
  have HD : Hid (Code w0 a n zs) := hcd
  clear R hrow hc hcd
  by_cases hlt : i < n
  · obtain ⟨b, off, rfl, hb, hcl⟩ := HD.out.sl i (by rw [HD.out.len]; exact hlt)
    have KC : ∀ v, (w.setCell ⟨g, 2, none⟩ v).cell? ⟨b, off + i, none⟩ = some (.int .u8 (zs.getD i 0)) := fun v => ((HC.out.below.setCell HC.out.new v).cell (by exact hb)).trans hcl
    obtain ⟨y, hy⟩ : ∃ y, y = zs.getD i 0 := ⟨_, rfl⟩
    rw [← hy] at KC
    clear hcl hy
    go_enter Tryd.func36, Tryd.ntmps36
    go_wp2_with fail
    go_quiet (fail)
    go_wp2_with fail
    go_quiet (fail)
    go_wp2_with fail
    go_quiet (fail)
    go_wp2_with fail
    have hi1 : wrap64 ((i : Int) + 1) = ((i + 1 : Nat) : Int) := by
      have := HD.out.few
      unfold wrap64; omega
    rw [hi1]
    go_ret
    refine ⟨_, rfl, (and_i64 _ 255 (by omega)).1, (and_i64 _ 255 (by omega)).2, ?_, ?_⟩
    · exact ((HC.out.set2 _).dN _).set1 _ (by omega)
    · exact grown_trans (grown_trans (grown_set _ _ _ _) (grown_dN _ _ _)) (grown_set _ _ _ _)
  · go_enter Tryd.func36, Tryd.ntmps36
    go_wp2_with fail
    go_quiet (fail)
    go_wp2_with fail
    go_quiet (fail)
    go_wp2_with fail
    go_ret
    refine ⟨_, rfl, (and_i64 _ 255 (by omega)).1, (and_i64 _ 255 (by omega)).2, ?_, ?_⟩
    · exact ((HC.out.set2 _).dN _).dN _
    · exact grown_trans (grown_trans (grown_set _ _ _ _) (grown_dN _ _ _)) (grown_dN _ _ _)

def Cs (w0 : World) (g : Nat) (a : Option Addr) (n cap : Nat) (w w' : World) : Prop := Cur w0 w' g a n cap ∧ w.grownBy w' (some g)

theorem Cs.trans {w0 w1 w2 w3 : World} {g : Nat} {a : Option Addr} {n cap : Nat} (h : Cs w0 g a n cap w1 w2) (k : Cs w0 g a n cap w2 w3) : Cs w0 g a n cap w1 w3 := ⟨k.1, grown_trans h.2 k.2⟩

theorem Cs.refl {w0 w : World} {g : Nat} {a : Option Addr} {n cap : Nat} (h : Cur w0 w g a n cap) : Cs w0 g a n cap w w := ⟨h, grown_refl _ _⟩

theorem l1Byte_c {w0 : World} {g : Nat} {a : Option Addr} {n cap : Nat} {zs : List Int} (hcd : Code w0 a n zs) (w : World) (hc : Cur w0 w g a n cap) :
    Calls Tryd.prog 36 #[.pointer (some ⟨g, 0, none⟩)] w fun e w' => ∃ x : Int, e = .returned (.int .i64 x) ∧ (0 ≤ x ∧ x ≤ 255) ∧ Hid (Cs w0 g a n cap w w') :=
  (l1Byte_any hcd w hc).mono fun e w' ⟨x, h1, h2, h3, h4, h5⟩ => ⟨x, h1, ⟨h2, h3⟩, ⟨h4, h5⟩⟩

set_option maxHeartbeats 1600000 in
theorem l1Below_c {w0 : World} {g : Nat} {a : Option Addr} {n cap : Nat} {zs : List Int} (hcd : Code w0 a n zs) (m : Int) (hm : 0 < m) (w : World) (hc : Cur w0 w g a n cap) :
    Calls Tryd.prog 14 #[.pointer (some ⟨g, 0, none⟩), .int .i64 m] w fun e w' => ∃ x : Int, e = .returned (.int .i64 x) ∧ (0 ≤ x ∧ x < m) ∧ Hid (Cs w0 g a n cap w w') := by
  have HD : Hid (Code w0 a n zs) := hcd
  have HC : Hid (Cur w0 w g a n cap) := hc
  have d1 : decide (m ≤ 0) = false := by simp; omega
  have dz : ¬ m = 0 := by omega
  clear hcd hc
  by_cases hle : m ≤ 256
  · have d2 : decide (m ≤ 256) = true := by simpa using hle
    go_enter Tryd.func14, Tryd.ntmps14
    go_wp2_with fail
    refine (l1Byte_c HD.out _ HC.out).mono ?_
    rintro e w1 ⟨x, rfl, ⟨hx0, hx1⟩, hs⟩
    go_wp2_with fail
    go_ret
    refine ⟨_, rfl, ?_, hs⟩
    exact ⟨Int.emod_nonneg _ dz, Int.emod_lt_of_pos _ hm⟩
  · have d2 : decide (m ≤ 256) = false := by simpa using hle
    go_enter Tryd.func14, Tryd.ntmps14
    go_wp2_with fail
    refine (l1Byte_c HD.out _ HC.out).mono ?_
    rintro e w1 ⟨x, rfl, ⟨hx0, hx1⟩, hs1⟩
    go_wp2_with fail
    refine (l1Byte_c HD.out _ hs1.out.1).mono ?_
    rintro e w2 ⟨y, rfl, ⟨hy0, hy1⟩, hs2⟩
    go_wp2_with fail
    refine (l1Byte_c HD.out _ hs2.out.1).mono ?_
    rintro e w3 ⟨z, rfl, ⟨hz0, hz1⟩, hs3⟩
    go_wp2_with fail
    refine (l1Byte_c HD.out _ hs3.out.1).mono ?_
    rintro e w4 ⟨u, rfl, ⟨hu0, hu1⟩, hs4⟩
    go_wp2_with fail
    go_ret
    refine ⟨_, rfl, ?_, hs1.out.trans (hs2.out.trans (hs3.out.trans hs4.out))⟩
    exact ⟨Int.emod_nonneg _ dz, Int.emod_lt_of_pos _ hm⟩

theorem l1Once_c {w0 : World} {g : Nat} {a : Option Addr} {n cap : Nat} {zs : List Int} (hcd : Code w0 a n zs) (m : Int) (hm : 0 < m) (w : World) (hc : Cur w0 w g a n cap) :
    Calls Tryd.prog 17 #[.pointer (some ⟨g, 0, none⟩), .int .i64 m] w fun e w' => ∃ c : Bool, e = .returned (.bool c) ∧ Hid (Cs w0 g a n cap w w') := by
  have HD : Hid (Code w0 a n zs) := hcd
  have HC : Hid (Cur w0 w g a n cap) := hc
  clear hcd hc
  go_enter Tryd.func17, Tryd.ntmps17
  go_wp2_with fail
  refine (l1Below_c HD.out m hm _ HC.out).mono ?_
  rintro e w1 ⟨x, rfl, ⟨hx0, hx1⟩, hs⟩
  go_wp2_with fail
  go_ret
  exact ⟨_, rfl, hs⟩

set_option maxHeartbeats 1600000 in
theorem l1New_c {a : Option Addr} {n : Nat} (cap : Nat) {zs : List Int} (w : World) (hcd : Code w a n zs) :
    Calls Tryd.prog 13 #[.slice a n cap] w fun e w' => ∃ g, e = .returned (.pointer (some ⟨g, 0, none⟩)) ∧ Hid (Cur w w' g a n cap) := by
  have HD : Hid (Code w a n zs) := hcd
  have hn := hcd.few
  clear hcd
  go_enter Tryd.func13, Tryd.ntmps13
  go_wp2_with fail
  go_loopw [3, 4] (fun h i wr => ∃ (k : Nat) (x : Int), k ≤ n ∧ h = .int .i64 x ∧ i = .int .i64 k ∧ Hid (Below w.heap.size w wr))
    (fun _ i _ => n - (intOf i).toNat)
  case atStart => exact ⟨0, _, Nat.zero_le _, rfl, rfl, Below.refl _ _⟩
  case round =>
    obtain ⟨k, x, hk, rfl, rfl, hbel⟩ := hrel
    by_cases hlt : k < n
    · obtain ⟨b, off, rfl, hb, hcl⟩ := HD.out.sl k (by rw [HD.out.len]; exact hlt)
      have KC : wr.cell? ⟨b, off + k, none⟩ = some (.int .u8 (zs.getD k 0)) := (hbel.out.cell (by exact hb)).trans hcl
      clear hcl
      go_wp2_with fail
      go_roundw
      case rel => exact ⟨k + 1, _, by omega, rfl, by go_num, hbel⟩
      case measure => simp [intOf]; omega
    · go_wp2_with fail
      go_ret
      refine ⟨_, rfl, ?_⟩
      exact ⟨hbel.out.size, hbel.out.alloc hbel.out.size _, 0, x, Nat.zero_le _, heap_alloc_new _ _⟩

theorem wf64 {x : Int} (h0 : -9223372036854775808 ≤ x) (h1 : x ≤ 9223372036854775807) : (Lit.int .i64 x).wf = true := by
  have hmin : IntKind.i64.min = -9223372036854775808 := rfl
  have hmax : IntKind.i64.max = 9223372036854775807 := rfl
  simp only [Lit.wf, Bool.and_eq_true, decide_eq_true_eq]
  omega

theorem Cs.keep {w0 w w' : World} {g : Nat} {a : Option Addr} {n cap : Nat} (h : Cs w0 g a n cap w w') {k : Nat} {o : Obj} (hk : w.heap[k]? = some o) (hne : k ≠ g) : w'.heap[k]? = some o := by
  by_cases hl : k < w.heap.size
  · rw [h.2.block k hl (by simp [hne])]; exact hk
  · rw [Array.getElem?_eq_none (by omega)] at hk; cases hk

theorem Cur.lt {w0 w : World} {g : Nat} {a : Option Addr} {n cap : Nat} (h : Cur w0 w g a n cap) : g < w.heap.size := by
  obtain ⟨i, x, _, hrow⟩ := h.row
  by_cases hl : g < w.heap.size
  · exact hl
  · rw [Array.getElem?_eq_none (by omega)] at hrow; cases hrow

end Go.Proofs.YtjjpklalihaanaaDoor
