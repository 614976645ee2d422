/- The walk of laws.FnExactLoad: it returns true at every list of bytes, address and size, and writes nothing that was there. -/
import Derived.Test.YtembleeoilbeaafPlace
import Derived.WalkLawsBesides
namespace Go.Proofs.Ytembleeoilbeaaf.fnExactLoad
open Go.RowKit
set_option linter.unusedVariables false

set_option maxHeartbeats 400000 in
theorem l1Load_any (a : Option Addr) (n cap f m : Nat) (zs : List Int) (w : World) (hz : zs.length = n) (hn : n ≤ 1048576) (hs : Sl .u8 w a zs) (hw : ∀ y ∈ zs, (Lit.int .u8 y).wf = true)
    (hm1 : 1 ≤ m) (hm : m ≤ 8) (hf : f + m ≤ n) :
    Calls Try.prog 24 #[.slice a n cap, .int .u64 (2147483648 + (f : Int)), .int .i64 (m : Int)] w fun e w' => e = .returned (.int .u64 (le zs f m)) ∧ w' = w := by
  have HZ : Hid (zs.length = n) := hz
  have HW : Hid (∀ y ∈ zs, (Lit.int .u8 y).wf = true) := hw
  clear hz hw
  go_enter Try.func24, Try.ntmps24
  go_wp2
  go_loop [8, 9] (fun x i => ∃ j : Nat, j ≤ m ∧ i = .int .i64 ((j : Int) - 1) ∧ x = .int .u64 (le zs (f + j) (m - j))) (fun _ i => (intOf i + 1).toNat)
  case atStart => exact ⟨m, Nat.le_refl _, rfl, by simp [le]⟩
  case round =>
    obtain ⟨j, hj, rfl, rfl⟩ := hrel
    by_cases hlt : 1 ≤ j
    · obtain ⟨k, rfl⟩ : ∃ k, j = k + 1 := ⟨j - 1, by omega⟩
      obtain ⟨b, off, rfl, hb, hc⟩ := hs (f + k) (by have := HZ.out; omega)
      have hx := byte_bd HW.out (f + k)
      obtain ⟨x, hxx⟩ : ∃ x, x = zs.getD (f + k) 0 := ⟨_, rfl⟩
      obtain ⟨y, hyy⟩ : ∃ y, y = le zs (f + (k + 1)) (m - (k + 1)) := ⟨_, rfl⟩
      rw [← hxx] at hc hx
      rw [← hyy]
      have hy := le_bd7 zs (byte_bd HW.out) (m - (k + 1)) (f + (k + 1)) (by omega)
      rw [← hyy] at hy
      have S : Hid (bits .or .u64 (y * 256) x = le zs (f + k) (m - k)) := by
        show bits .or .u64 (y * 256) x = le zs (f + k) (m - k)
        rw [or_low y x hy.1 hy.2 hx.1 hx.2, show m - k = (m - (k + 1)) + 1 from by omega, le, hxx, hyy]
        rfl
      clear hxx hyy
      go_wp2
      go_round
      case rel => exact ⟨k, by omega, by go_num, by rw [← S.out]⟩
      case measure => simp [intOf]
    · have h0 : j = 0 := by omega
      subst h0
      go_wp2
      go_ret
      exact ⟨rfl, rfl⟩

theorem idx8_0 (b0 b1 b2 b3 b4 b5 b6 b7 : Int) (w : World) : (Instr.index 42 (.agg #[.int .u8 b0, .int .u8 b1, .int .u8 b2, .int .u8 b3, .int .u8 b4, .int .u8 b5, .int .u8 b6, .int .u8 b7]) (.int .i64 0)).run Try.prog w = .ok (.int .u8 b0) w := by kernel_rfl
theorem idx8_1 (b0 b1 b2 b3 b4 b5 b6 b7 : Int) (w : World) : (Instr.index 42 (.agg #[.int .u8 b0, .int .u8 b1, .int .u8 b2, .int .u8 b3, .int .u8 b4, .int .u8 b5, .int .u8 b6, .int .u8 b7]) (.int .i64 1)).run Try.prog w = .ok (.int .u8 b1) w := by kernel_rfl
theorem idx8_2 (b0 b1 b2 b3 b4 b5 b6 b7 : Int) (w : World) : (Instr.index 42 (.agg #[.int .u8 b0, .int .u8 b1, .int .u8 b2, .int .u8 b3, .int .u8 b4, .int .u8 b5, .int .u8 b6, .int .u8 b7]) (.int .i64 2)).run Try.prog w = .ok (.int .u8 b2) w := by kernel_rfl
theorem idx8_3 (b0 b1 b2 b3 b4 b5 b6 b7 : Int) (w : World) : (Instr.index 42 (.agg #[.int .u8 b0, .int .u8 b1, .int .u8 b2, .int .u8 b3, .int .u8 b4, .int .u8 b5, .int .u8 b6, .int .u8 b7]) (.int .i64 3)).run Try.prog w = .ok (.int .u8 b3) w := by kernel_rfl
theorem idx8_4 (b0 b1 b2 b3 b4 b5 b6 b7 : Int) (w : World) : (Instr.index 42 (.agg #[.int .u8 b0, .int .u8 b1, .int .u8 b2, .int .u8 b3, .int .u8 b4, .int .u8 b5, .int .u8 b6, .int .u8 b7]) (.int .i64 4)).run Try.prog w = .ok (.int .u8 b4) w := by kernel_rfl
theorem idx8_5 (b0 b1 b2 b3 b4 b5 b6 b7 : Int) (w : World) : (Instr.index 42 (.agg #[.int .u8 b0, .int .u8 b1, .int .u8 b2, .int .u8 b3, .int .u8 b4, .int .u8 b5, .int .u8 b6, .int .u8 b7]) (.int .i64 5)).run Try.prog w = .ok (.int .u8 b5) w := by kernel_rfl
theorem idx8_6 (b0 b1 b2 b3 b4 b5 b6 b7 : Int) (w : World) : (Instr.index 42 (.agg #[.int .u8 b0, .int .u8 b1, .int .u8 b2, .int .u8 b3, .int .u8 b4, .int .u8 b5, .int .u8 b6, .int .u8 b7]) (.int .i64 6)).run Try.prog w = .ok (.int .u8 b6) w := by kernel_rfl
theorem idx8_7 (b0 b1 b2 b3 b4 b5 b6 b7 : Int) (w : World) : (Instr.index 42 (.agg #[.int .u8 b0, .int .u8 b1, .int .u8 b2, .int .u8 b3, .int .u8 b4, .int .u8 b5, .int .u8 b6, .int .u8 b7]) (.int .i64 7)).run Try.prog w = .ok (.int .u8 b7) w := by kernel_rfl
theorem idx8 (b0 b1 b2 b3 b4 b5 b6 b7 : Int) (w : World) (k : Nat) (hk : k < 8) :
    (Instr.index 42 (.agg #[.int .u8 b0, .int .u8 b1, .int .u8 b2, .int .u8 b3, .int .u8 b4, .int .u8 b5, .int .u8 b6, .int .u8 b7]) (.int .i64 (k : Int))).run Try.prog w = .ok (.int .u8 ([b0, b1, b2, b3, b4, b5, b6, b7].getD k 0)) w := by
  match k, hk with
  | 0, _ => exact idx8_0 b0 b1 b2 b3 b4 b5 b6 b7 w
  | 1, _ => exact idx8_1 b0 b1 b2 b3 b4 b5 b6 b7 w
  | 2, _ => exact idx8_2 b0 b1 b2 b3 b4 b5 b6 b7 w
  | 3, _ => exact idx8_3 b0 b1 b2 b3 b4 b5 b6 b7 w
  | 4, _ => exact idx8_4 b0 b1 b2 b3 b4 b5 b6 b7 w
  | 5, _ => exact idx8_5 b0 b1 b2 b3 b4 b5 b6 b7 w
  | 6, _ => exact idx8_6 b0 b1 b2 b3 b4 b5 b6 b7 w
  | 7, _ => exact idx8_7 b0 b1 b2 b3 b4 b5 b6 b7 w

set_option maxHeartbeats 400000 in
theorem wordOf_any (bs : List Int) (b0 b1 b2 b3 b4 b5 b6 b7 : Int) (w : World) (hb : bs = [b0, b1, b2, b3, b4, b5, b6, b7]) (hw : ∀ i, 0 ≤ bs.getD i 0 ∧ bs.getD i 0 ≤ 255) :
    Calls Try.prog 26 #[.agg #[.int .u8 b0, .int .u8 b1, .int .u8 b2, .int .u8 b3, .int .u8 b4, .int .u8 b5, .int .u8 b6, .int .u8 b7]] w fun e w' => e = .returned (.int .u64 (le bs 0 8)) ∧ Below w.heap.size w w' := by
  have HB : Hid (bs = [b0, b1, b2, b3, b4, b5, b6, b7]) := hb
  have HW : Hid (∀ i, 0 ≤ bs.getD i 0 ∧ bs.getD i 0 ≤ 255) := hw
  clear hb hw
  go_enter Try.func26, Try.ntmps26
  go_wp2
  go_loop [3, 7] (fun x i => ∃ k : Nat, k ≤ 8 ∧ i = .int .i64 (k : Int) ∧ x = .int .u64 (le bs 0 k)) (fun _ i => 8 - (intOf i).toNat)
  case atStart => exact ⟨0, by omega, rfl, rfl⟩
  case round =>
    obtain ⟨k, hk, rfl, rfl⟩ := hrel
    by_cases hlt : k < 8
    · obtain ⟨x, hxx⟩ : ∃ x, x = bs.getD k 0 := ⟨_, rfl⟩
      obtain ⟨y, hyy⟩ : ∃ y, y = le bs 0 k := ⟨_, rfl⟩
      have hx := HW.out k
      have hy := le_bd bs HW.out k 0
      rw [← hxx] at hx
      rw [← hyy] at hy ⊢
      have hix : ∀ w, (Instr.index 42 (.agg #[.int .u8 b0, .int .u8 b1, .int .u8 b2, .int .u8 b3, .int .u8 b4, .int .u8 b5, .int .u8 b6, .int .u8 b7]) (.int .i64 (k : Int))).run Try.prog w = .ok (.int .u8 x) w := by
        intro w
        rw [hxx, HB.out]
        exact idx8 b0 b1 b2 b3 b4 b5 b6 b7 w k hlt
      have S : Hid (bits .or .u64 y (IntKind.u64.wrap (x * 2 ^ (8 * k))) = le bs 0 (k + 1)) := by
        show bits .or .u64 y (IntKind.u64.wrap (x * 2 ^ (8 * k))) = le bs 0 (k + 1)
        have := word_step bs HW.out 0 k hlt
        rw [Nat.zero_add] at this
        rw [hxx, hyy]; exact this
      clear hxx hyy
      go_wp2
      go_round
      case rel => exact ⟨k + 1, by omega, by go_num, by rw [S.out]⟩
      case measure => simp [intOf]; omega
    · have h0 : k = 8 := by omega
      subst h0
      go_wp2
      go_ret
      exact ⟨rfl, (Below.refl _ _).alloc (Nat.le_refl _) _⟩

theorem lowBytes_any (x : Int) (m : Nat) (w : World) (h1 : 1 ≤ m) (hm : m ≤ 8) (h0 : 0 ≤ x) (hx : x < 18446744073709551616) :
    Calls Try.prog 27 #[.int .u64 x, .int .i64 (m : Int)] w fun e w' => e = .returned (.int .u64 (x % 256 ^ m)) ∧ w' = w := by
  have F : Hid (IntKind.u64.wrap (x * 2 ^ (64 - 8 * m)) / 2 ^ (64 - 8 * m) = x % 256 ^ m) := low_bytes x m h1 hm h0
  go_enter Try.func27, Try.ntmps27
  go_wp2
  go_ret
  exact ⟨by rw [← F.out]; rfl, rfl⟩

/-- What Load answers. -/
def loadB (zs : List Int) (n : Nat) (addr size : Int) : Int := if okB n addr size then le zs (addr - 2147483648).toNat size.toNat else 0

set_option maxHeartbeats 400000 in
theorem spec_any (a : Option Addr) (n cap : Nat) (zs : List Int) (addr size : Int) (w : World) (hz : zs.length = n) (hn : n ≤ 1048576) (hs : Sl .u8 w a zs) (hw : ∀ y ∈ zs, (Lit.int .u8 y).wf = true)
    (ha : 0 ≤ addr) (ha2 : addr ≤ 18446744073709551615) :
    Calls Try.prog 12 #[.slice a n cap, .int .u64 addr, .int .i64 size] w fun e w' => e = .returned (.tuple #[.int .u64 (loadB zs n addr size), .bool (okB n addr size)]) ∧ w' = w := by
  have HZ : Hid (zs.length = n) := hz
  have HW : Hid (∀ y ∈ zs, (Lit.int .u8 y).wf = true) := hw
  clear hz hw
  cases hr : ramOkB n
  · have F1 : Hid (okB n addr size = false) := by show okB n addr size = false; simp [okB, hr]
    have F2 : Hid (loadB zs n addr size = 0) := by show loadB zs n addr size = 0; simp [loadB, F1.out]
    go_enter Try.func12, Try.ntmps12
    go_wp2_with (go_at_call 8; refine (specRamOk_any _ _ _ _ hn).mono ?_; rintro e w' ⟨rfl, rfl⟩)
    go_ret2
    exact ⟨by rw [F1.out, F2.out]; rfl, rfl⟩
  · cases hsz : sizeB size
    · have F1 : Hid (okB n addr size = false) := by show okB n addr size = false; simp [okB, hsz]
      have F2 : Hid (loadB zs n addr size = 0) := by show loadB zs n addr size = 0; simp [loadB, F1.out]
      go_enter Try.func12, Try.ntmps12
      go_wp2_with (first | (go_at_call 8; refine (specRamOk_any _ _ _ _ hn).mono ?_; rintro e w' ⟨rfl, rfl⟩) | (go_at_call 22; refine (specSize_any _ _).mono ?_; rintro e w' ⟨rfl, rfl⟩))
      go_ret2
      exact ⟨by rw [F1.out, F2.out]; rfl, rfl⟩
    · cases hok : okB n addr size
      · have F2 : Hid (loadB zs n addr size = 0) := by show loadB zs n addr size = 0; simp [loadB, hok]
        go_enter Try.func12, Try.ntmps12
        go_wp2_with (first | (go_at_call 8; refine (specRamOk_any _ _ _ _ hn).mono ?_; rintro e w' ⟨rfl, rfl⟩) | (go_at_call 22; refine (specSize_any _ _).mono ?_; rintro e w' ⟨rfl, rfl⟩) | (go_at_call 23; refine (inside_any _ _ _ _ _ _ hr hsz ha ha2).mono ?_; rintro e w' ⟨rfl, rfl⟩))
        go_ret2
        exact ⟨by rw [F2.out]; rfl, rfl⟩
      · obtain ⟨_, _, hb1, hb2, hs1, hs2, hn1, hn2⟩ := okB_true hok
        obtain ⟨f, hf⟩ : ∃ f : Nat, addr = 2147483648 + (f : Int) := ⟨(addr - 2147483648).toNat, by omega⟩
        obtain ⟨m, hm⟩ : ∃ m : Nat, size = (m : Int) := ⟨size.toNat, by omega⟩
        subst hf hm
        have F2 : Hid (loadB zs n (2147483648 + (f : Int)) (m : Int) = le zs f m) := by
          show loadB zs n (2147483648 + (f : Int)) (m : Int) = le zs f m
          simp only [loadB, hok, if_true]
          rw [show (2147483648 + (f : Int) - 2147483648).toNat = f from by omega, Int.toNat_natCast]
        go_enter Try.func12, Try.ntmps12
        go_wp2_with (first | (go_at_call 8; refine (specRamOk_any _ _ _ _ hn).mono ?_; rintro e w' ⟨rfl, rfl⟩) | (go_at_call 22; refine (specSize_any _ _).mono ?_; rintro e w' ⟨rfl, rfl⟩) | (go_at_call 23; refine (inside_any _ _ _ _ _ _ hr hsz ha ha2).mono ?_; rintro e w' ⟨rfl, rfl⟩) | (go_at_call 24; refine (l1Load_any a n cap f m zs _ HZ.out hn hs HW.out (by omega) (by omega) (by omega)).mono ?_; rintro e w' ⟨rfl, rfl⟩))
        go_ret2
        exact ⟨by rw [F2.out]; rfl, rfl⟩

/-- Eight bytes of a memory, a name each, and the number that they are. -/
theorem eight (g p n : Nat) (zs : List Int) (w : World) (hz : zs.length = n) (hp : p + 8 ≤ n) (hs : Sl .u8 w (some ⟨g, 0, none⟩) zs) (hw : ∀ y ∈ zs, (Lit.int .u8 y).wf = true) :
    ∃ b0 b1 b2 b3 b4 b5 b6 b7 : Int, ∃ B : { bs : List Int // bs = [b0, b1, b2, b3, b4, b5, b6, b7] },
      w.cell? ⟨g, p, none⟩ = some (.int .u8 b0) ∧ w.cell? ⟨g, p + 1, none⟩ = some (.int .u8 b1) ∧ w.cell? ⟨g, p + 2, none⟩ = some (.int .u8 b2) ∧ w.cell? ⟨g, p + 3, none⟩ = some (.int .u8 b3) ∧
      w.cell? ⟨g, p + 4, none⟩ = some (.int .u8 b4) ∧ w.cell? ⟨g, p + 5, none⟩ = some (.int .u8 b5) ∧ w.cell? ⟨g, p + 6, none⟩ = some (.int .u8 b6) ∧ w.cell? ⟨g, p + 7, none⟩ = some (.int .u8 b7) ∧
      Hid (∀ i, 0 ≤ B.1.getD i 0 ∧ B.1.getD i 0 ≤ 255) ∧ Hid (le B.1 0 8 = le zs p 8) := by
  have c : ∀ i, i < 8 → w.cell? ⟨g, p + i, none⟩ = some (.int .u8 (zs.getD (p + i) 0)) := by
    intro i hi
    obtain ⟨b, off, e, _, hc⟩ := hs (p + i) (by omega)
    simp only [Option.some.injEq, Addr.mk.injEq, and_true] at e
    obtain ⟨rfl, rfl⟩ := e
    rw [Nat.zero_add] at hc
    exact hc
  have bd := byte_bd hw
  refine ⟨_, _, _, _, _, _, _, _, ⟨[zs.getD p 0, zs.getD (p + 1) 0, zs.getD (p + 2) 0, zs.getD (p + 3) 0, zs.getD (p + 4) 0, zs.getD (p + 5) 0, zs.getD (p + 6) 0, zs.getD (p + 7) 0], rfl⟩, c 0 (by omega), c 1 (by omega), c 2 (by omega), c 3 (by omega), c 4 (by omega), c 5 (by omega), c 6 (by omega), c 7 (by omega), ?_, ?_⟩
  · intro i
    match i with
    | 0 => exact bd p
    | 1 => exact bd (p + 1)
    | 2 => exact bd (p + 2)
    | 3 => exact bd (p + 3)
    | 4 => exact bd (p + 4)
    | 5 => exact bd (p + 5)
    | 6 => exact bd (p + 6)
    | 7 => exact bd (p + 7)
    | i + 8 => simp
  · show le [zs.getD p 0, zs.getD (p + 1) 0, zs.getD (p + 2) 0, zs.getD (p + 3) 0, zs.getD (p + 4) 0, zs.getD (p + 5) 0, zs.getD (p + 6) 0, zs.getD (p + 7) 0] 0 8 = le zs p 8
    rfl

set_option maxHeartbeats 400000 in
theorem impl_any (g n cap : Nat) (zs : List Int) (addr size : Int) (w : World) (hz : zs.length = n) (hn : n ≤ 1048576) (hs : Sl .u8 w (some ⟨g, 0, none⟩) zs) (hw : ∀ y ∈ zs, (Lit.int .u8 y).wf = true) (hcap : n ≤ cap) (hcap2 : cap ≤ 1048576)
    (ha : 0 ≤ addr) (ha2 : addr ≤ 18446744073709551615) :
    Calls Try.prog 13 #[.slice (some ⟨g, 0, none⟩) n cap, .int .u64 addr, .int .i64 size] w fun e w' => e = .returned (.tuple #[.int .u64 (loadB zs n addr size), .bool (okB n addr size)]) ∧ Below w.heap.size w w' := by
  have HZ : Hid (zs.length = n) := hz
  have HW : Hid (∀ y ∈ zs, (Lit.int .u8 y).wf = true) := hw
  clear hz hw
  cases hok : okB n addr size
  · have F2 : Hid (loadB zs n addr size = 0) := by show loadB zs n addr size = 0; simp [loadB, hok]
    go_enter Try.func13, Try.ntmps13
    go_wp2_with (go_at_call 25; refine (place_any _ _ _ _ _ _ hn ha ha2).mono ?_; rintro e w' ⟨rfl, rfl⟩)
    go_ret2
    exact ⟨by rw [F2.out]; rfl, Below.refl _ _⟩
  · obtain ⟨_, _, hb1, hb2, hs1, hs2, hn1, hn2⟩ := okB_true hok
    obtain ⟨f, hf⟩ : ∃ f : Nat, addr = 2147483648 + (f : Int) := ⟨(addr - 2147483648).toNat, by omega⟩
    obtain ⟨m, hm⟩ : ∃ m : Nat, size = (m : Int) := ⟨size.toNat, by omega⟩
    subst hf hm
    have F2 : Hid (loadB zs n (2147483648 + (f : Int)) (m : Int) = le zs f m) := by
      show loadB zs n (2147483648 + (f : Int)) (m : Int) = le zs f m
      simp only [loadB, hok, if_true]
      rw [show (2147483648 + (f : Int) - 2147483648).toNat = f from by omega, Int.toNat_natCast]
    have P2 : Hid (placeB n (2147483648 + (f : Int)) (m : Int) = f) := by
      show placeB n (2147483648 + (f : Int)) (m : Int) = f
      simp only [placeB, hok, if_true]
      omega
    by_cases hle : f ≤ n - 8
    · have hat : ∀ w, (Instr.arrayAt 42 (.slice (some ⟨g, f, none⟩) 8 (cap - f))).run Try.prog w = .ok (.pointer (some ⟨g, f, none⟩)) w := fun w => run_arrayAt w 42 _ 8 _ 8 (cap - f) Try.underlying42 (by omega)
      obtain ⟨b0, b1, b2, b3, b4, b5, b6, b7, B, c0, c1, c2, c3, c4, c5, c6, c7, hbs, L⟩ := eight g f n zs w HZ.out (by omega) hs HW.out
      go_enter Try.func13, Try.ntmps13
      go_wp2_with (first | (go_at_call 25; refine (place_any _ _ _ _ _ _ hn ha ha2).mono ?_; rw [P2.out]; rintro e w' ⟨rfl, rfl⟩) | (go_at_call 26; refine (wordOf_any B.1 b0 b1 b2 b3 b4 b5 b6 b7 _ B.2 hbs.out).mono ?_; rw [L.out]; rintro e w1 ⟨rfl, hw1⟩))
      have R : Hid (le zs f 8 % 256 ^ m = le zs f m) := by
        have := le_mod zs (byte_bd HW.out) f m (8 - m)
        rw [show m + (8 - m) = 8 from by omega] at this
        exact this
      have bd := le_bd8 zs (byte_bd HW.out) 8 f (by omega)
      refine (lowBytes_any (le zs f 8) m _ (by omega) (by omega) bd.1 bd.2).mono ?_
      rw [R.out]
      rintro e w2 ⟨rfl, rfl⟩
      go_wp2_with fail
      go_ret2
      exact ⟨by rw [F2.out]; rfl, hw1⟩
    · obtain ⟨p, hp⟩ : ∃ p, n = p + 8 := ⟨n - 8, by omega⟩
      obtain ⟨d, hd⟩ : ∃ d, f = p + d := ⟨f - p, by omega⟩
      subst hp hd
      have hat : ∀ w, (Instr.arrayAt 42 (.slice (some ⟨g, p, none⟩) 8 (cap - p))).run Try.prog w = .ok (.pointer (some ⟨g, p, none⟩)) w := fun w => run_arrayAt w 42 _ 8 _ 8 (cap - p) Try.underlying42 (by omega)
      obtain ⟨b0, b1, b2, b3, b4, b5, b6, b7, B, c0, c1, c2, c3, c4, c5, c6, c7, hbs, L⟩ := eight g p (p + 8) zs w HZ.out (by omega) hs HW.out
      have hok' : okB (p + 8) (2147483648 + ((p : Int) + (d : Int))) (m : Int) = true := by rw [← Int.natCast_add]; exact hok
      have D : Hid (le zs p 8 / 2 ^ (8 * d) = le zs (p + d) (8 - d)) := by
        show le zs p 8 / 2 ^ (8 * d) = le zs (p + d) (8 - d)
        have := le_div zs (byte_bd HW.out) p d (8 - d)
        rw [show d + (8 - d) = 8 from by omega] at this
        rw [pow_8]; exact this
      have R : Hid (le zs (p + d) (8 - d) % 256 ^ m = le zs (p + d) m) := by
        have := le_mod zs (byte_bd HW.out) (p + d) m (8 - d - m)
        rw [show m + (8 - d - m) = 8 - d from by omega] at this
        exact this
      have BD : Hid (0 ≤ le zs (p + d) (8 - d) ∧ le zs (p + d) (8 - d) < 18446744073709551616) := le_bd8 zs (byte_bd HW.out) (8 - d) (p + d) (by omega)
      go_enter Try.func13, Try.ntmps13
      go_wp2_with (first | (go_at_call 25; refine (place_any _ _ _ _ _ _ hn ha ha2).mono ?_; rw [P2.out]; rintro e w' ⟨rfl, rfl⟩) | (go_at_call 26; refine (wordOf_any B.1 b0 b1 b2 b3 b4 b5 b6 b7 _ B.2 hbs.out).mono ?_; rw [L.out]; rintro e w1 ⟨rfl, hw1⟩))
      rw [D.out]
      refine (lowBytes_any (le zs (p + d) (8 - d)) m _ (by omega) (by omega) BD.out.1 BD.out.2).mono ?_
      rw [R.out]
      rintro e w2 ⟨rfl, rfl⟩
      go_wp2_with fail
      go_ret2
      exact ⟨by rw [F2.out]; rfl, hw1⟩

theorem u64_bd {x : Int} (h : (Lit.int .u64 x).wf = true) : 0 ≤ x ∧ x ≤ 18446744073709551615 := by
  simpa [Lit.wf, IntKind.min, IntKind.max, IntKind.signed, IntKind.bits] using h

set_option maxHeartbeats 400000 in
theorem walk (a0 : Option Addr) (len0 cap0 : Nat) (z0 : List Int) (a1 : Int) (a2 : Int) (w : World) (w0 : IsRow .u8 w a0 len0 cap0 z0) (w1 : (Lit.int .u64 a1).wf = true) (w2 : (Lit.int .i64 a2).wf = true) :
    Calls Try.prog 4 #[.slice a0 len0 cap0, .int .u64 a1, .int .i64 a2] w fun e w' => e = .returned (.bool true) ∧ Below w.heap.size w w' := by
  obtain ⟨zs, hz, hs, hw, hm⟩ := w0.sl
  have hA := u64_bd w1
  clear w0 w1 w2
  unfold maxLen at hm
  by_cases hbig : 1048576 < len0
  · have hb : (1048576 : Int) < (len0 : Int) := by omega
    go_enter Try.func4, Try.ntmps4
    go_wp2_with fail
    go_ret
    exact ⟨rfl, Below.refl _ _⟩
  · have hn : len0 ≤ 1048576 := by omega
    have hb : ¬ (1048576 : Int) < (len0 : Int) := by omega
    have HW : Hid (∀ y ∈ zs, (Lit.int .u8 y).wf = true) := hw
    clear hw
    go_enter Try.func4, Try.ntmps4
    go_wp2_with fail
    refine (toByteS_any a0 len0 cap0 zs w hz hn hs).mono ?_
    rintro e w1 ⟨rfl, hown1, hb1⟩
    go_wp2_with fail
    refine (spec_any _ _ _ zs a1 a2 _ hz hn (own_sl hown1) HW.out hA.1 hA.2).mono ?_
    rintro e w1' ⟨rfl, rfl⟩
    go_wp2_with fail
    refine (toByteS_any a0 len0 cap0 zs w1' hz hn (hs.below hb1)).mono ?_
    rintro e w2 ⟨rfl, hown2, hb2⟩
    go_wp2_with fail
    refine (impl_any _ len0 len0 zs a1 a2 _ hz hn (own_sl hown2) HW.out (Nat.le_refl _) hn hA.1 hA.2).mono ?_
    rintro e w3 ⟨rfl, hb3⟩
    have hd : (loadB zs len0 a1 a2 != loadB zs len0 a1 a2) = false := by simp
    have hd2 : (okB len0 a1 a2 != okB len0 a1 a2) = false := by simp
    go_wp2_with fail
    refine (toByteS_any a0 len0 cap0 zs w3 hz hn (((hs.below hb1).below hb2).below hb3)).mono ?_
    rintro e w4 ⟨rfl, hown4, hb4⟩
    go_wp2_with fail
    refine (eqByteS_any _ _ len0 len0 _ _ zs zs w4 hz hz hn hn (own_sl (ownsRow_below (ownsRow_below hown2 hb3) hb4)) (own_sl hown4)).mono ?_
    rintro e w5 ⟨rfl, hb5⟩
    have ht : decide (zs = zs) = true := by simp
    go_wp2_with fail
    go_ret
    exact ⟨rfl, below_trans (below_trans (below_trans (below_trans hb1 hb2) hb3) hb4) hb5⟩
end Go.Proofs.Ytembleeoilbeaaf.fnExactLoad
