/- The walk of laws.FnExactDigest: it returns true at every list of bytes and writes nothing that was there. -/
import Derived.Test.YtembleeoilbeaafBase
namespace Go.Proofs.Ytembleeoilbeaaf.fnExactDigest
open Go.RowKit
set_option linter.unusedVariables false

def dg (zs : List Int) : Int := zs.foldl (fun h b => (h * 257 + b + 1) % 1000000007) 0

theorem dg_acc (zs : List Int) : ∀ h : Int, 0 ≤ h → h < 1000000007 → 0 ≤ zs.foldl (fun h b => (h * 257 + b + 1) % 1000000007) h ∧ zs.foldl (fun h b => (h * 257 + b + 1) % 1000000007) h < 1000000007 := by
  induction zs with
  | nil => intro h h0 h1; exact ⟨h0, h1⟩
  | cons z zs ih => intro h h0 h1; rw [List.foldl_cons]; exact ih _ (by omega) (by omega)

theorem dg_bd (zs : List Int) : 0 ≤ dg zs ∧ dg zs < 1000000007 := dg_acc zs 0 (by omega) (by omega)

theorem dg_take (zs : List Int) (k : Nat) (hk : k < zs.length) : dg (zs.take (k + 1)) = (dg (zs.take k) * 257 + zs.getD k 0 + 1) % 1000000007 := by
  have e : zs.getD k 0 = zs[k] := by simp [List.getD, List.getElem?_eq_getElem hk]
  unfold dg
  rw [List.take_succ_eq_append_getElem hk, List.foldl_append, e]
  rfl

def digB (n : Nat) (zs : List Int) : Int := if ramOkB n then dg zs else 0

set_option maxHeartbeats 400000 in
theorem spec_any (a : Option Addr) (n cap : Nat) (zs : List Int) (w : World) (hz : zs.length = n) (hn : n ≤ 1048576) (hs : Sl .u8 w a zs) (hw : ∀ y ∈ zs, (Lit.int .u8 y).wf = true) :
    Calls Try.prog 20 #[.slice a n cap] w fun e w' => e = .returned (.int .i64 (digB n zs)) ∧ w' = w := by
  have HZ : Hid (zs.length = n) := hz
  have HW : Hid (∀ y ∈ zs, (Lit.int .u8 y).wf = true) := hw
  clear hz hw
  cases hr : ramOkB n
  · have F : Hid (digB n zs = 0) := by show digB n zs = 0; simp [digB, hr]
    have hp : n = 0 ∨ 0 < n := by omega
    rcases hp with rfl | hp
    · go_enter Try.func20, Try.ntmps20
      go_wp2
      refine wp_loop_rounds 1 ?_
      rw [rounds_succ]
      go_wp2
      go_ret
      exact ⟨by rw [F.out]; rfl, rfl⟩
    · go_enter Try.func20, Try.ntmps20
      go_wp2
      refine wp_loop_rounds 1 ?_
      rw [rounds_succ]
      go_wp2_with (go_at_call 8; refine (specRamOk_any _ _ _ _ hn).mono ?_; rintro e w' ⟨rfl, rfl⟩)
      go_ret
      exact ⟨by rw [F.out]; rfl, rfl⟩
  · have F : Hid (digB n zs = dg zs) := by show digB n zs = dg zs; simp [digB, hr]
    go_enter Try.func20, Try.ntmps20
    go_wp2
    go_loop [3, 4] (fun t i => ∃ k : Nat, k ≤ n ∧ i = .int .i64 k ∧ t = .int .i64 (dg (zs.take k))) (fun _ i => n - (intOf i).toNat)
    case atStart => exact ⟨0, Nat.zero_le _, rfl, rfl⟩
    case round =>
      obtain ⟨k, hk, rfl, rfl⟩ := hrel
      by_cases hlt : k < n
      · obtain ⟨b, off, rfl, hb, hc⟩ := hs k (by have := HZ.out; omega)
        have hd := dg_bd (zs.take k)
        have hx := byte_bd HW.out k
        have S : Hid (dg (zs.take (k + 1)) = (dg (zs.take k) * 257 + zs.getD k 0 + 1) % 1000000007) := dg_take zs k (by have := HZ.out; omega)
        obtain ⟨x, hxx⟩ : ∃ x, x = zs.getD k 0 := ⟨_, rfl⟩
        obtain ⟨h, hhh⟩ : ∃ h, h = dg (zs.take k) := ⟨_, rfl⟩
        rw [← hxx] at hc hx S
        rw [← hhh] at hd S ⊢
        clear hxx hhh
        go_wp2_with (go_at_call 8; refine (specRamOk_any _ _ _ _ hn).mono ?_; rintro e w' ⟨rfl, rfl⟩)
        go_round
        case rel => exact ⟨k + 1, by omega, by go_num, by rw [S.out]⟩
        case measure => simp [intOf]; omega
      · have hkn : k = n := by omega
        subst hkn
        have S : Hid (zs.take k = zs) := List.take_of_length_le (by have := HZ.out; omega)
        go_wp2
        go_ret
        exact ⟨by rw [F.out, S.out]; rfl, rfl⟩

set_option maxHeartbeats 400000 in
theorem impl_any (a : Option Addr) (n cap : Nat) (zs : List Int) (w : World) (hz : zs.length = n) (hn : n ≤ 1048576) (hs : Sl .u8 w a zs) (hw : ∀ y ∈ zs, (Lit.int .u8 y).wf = true) :
    Calls Try.prog 21 #[.slice a n cap] w fun e w' => e = .returned (.int .i64 (digB n zs)) ∧ w' = w := by
  have HZ : Hid (zs.length = n) := hz
  have HW : Hid (∀ y ∈ zs, (Lit.int .u8 y).wf = true) := hw
  clear hz hw
  cases hr : ramOkB n
  · have F : Hid (digB n zs = 0) := by show digB n zs = 0; simp [digB, hr]
    go_enter Try.func21, Try.ntmps21
    go_wp2_with (go_at_call 10; refine (implRamOk_any _ _ _ _ hn).mono ?_; rintro e w' ⟨rfl, rfl⟩)
    go_ret
    exact ⟨by rw [F.out]; rfl, rfl⟩
  · have F : Hid (digB n zs = dg zs) := by show digB n zs = dg zs; simp [digB, hr]
    go_enter Try.func21, Try.ntmps21
    go_wp2_with (go_at_call 10; refine (implRamOk_any _ _ _ _ hn).mono ?_; rintro e w' ⟨rfl, rfl⟩)
    go_loop [3, 11] (fun t i => ∃ k : Nat, k ≤ n ∧ i = .int .i64 k ∧ t = .int .i64 (dg (zs.take k))) (fun _ i => n - (intOf i).toNat)
    case atStart => exact ⟨0, Nat.zero_le _, rfl, rfl⟩
    case round =>
      obtain ⟨k, hk, rfl, rfl⟩ := hrel
      by_cases hlt : k < n
      · obtain ⟨b, off, rfl, hb, hc⟩ := hs k (by have := HZ.out; omega)
        have hd := dg_bd (zs.take k)
        have hx := byte_bd HW.out k
        have S : Hid (dg (zs.take (k + 1)) = (dg (zs.take k) * 257 + zs.getD k 0 + 1) % 1000000007) := dg_take zs k (by have := HZ.out; omega)
        obtain ⟨x, hxx⟩ : ∃ x, x = zs.getD k 0 := ⟨_, rfl⟩
        obtain ⟨h, hhh⟩ : ∃ h, h = dg (zs.take k) := ⟨_, rfl⟩
        rw [← hxx] at hc hx S
        rw [← hhh] at hd S ⊢
        clear hxx hhh
        go_wp2
        go_round
        case rel => exact ⟨k + 1, by omega, by go_num, by rw [S.out]⟩
        case measure => simp [intOf]; omega
      · have hkn : k = n := by omega
        subst hkn
        have S : Hid (zs.take k = zs) := List.take_of_length_le (by have := HZ.out; omega)
        go_wp2
        go_ret
        exact ⟨by rw [F.out, S.out]; rfl, rfl⟩

set_option maxHeartbeats 400000 in
theorem walk (a0 : Option Addr) (len0 cap0 : Nat) (z0 : List Int) (w : World) (w0 : IsRow .u8 w a0 len0 cap0 z0) :
    Calls Try.prog 7 #[.slice a0 len0 cap0] w fun e w' => e = .returned (.bool true) ∧ Below w.heap.size w w' := by
  obtain ⟨zs, hz, hs, hw, hm⟩ := w0.sl
  clear w0
  unfold maxLen at hm
  by_cases hbig : 1048576 < len0
  · have hb : (1048576 : Int) < (len0 : Int) := by omega
    go_enter Try.func7, Try.ntmps7
    go_wp2_with fail
    go_ret
    exact ⟨rfl, Below.refl _ _⟩
  · have hn : len0 ≤ 1048576 := by omega
    have hb : ¬ (1048576 : Int) < (len0 : Int) := by omega
    have HW : Hid (∀ y ∈ zs, (Lit.int .u8 y).wf = true) := hw
    clear hw
    go_enter Try.func7, Try.ntmps7
    go_wp2_with fail
    refine (toByteS_any a0 len0 cap0 zs w hz hn hs).mono ?_
    rintro e w1 ⟨rfl, hown1, hb1⟩
    go_wp2_with fail
    refine (spec_any _ _ _ zs _ hz hn (own_sl hown1) HW.out).mono ?_
    rintro e w1' ⟨rfl, rfl⟩
    go_wp2_with fail
    refine (toByteS_any a0 len0 cap0 zs w1' hz hn (hs.below hb1)).mono ?_
    rintro e w2 ⟨rfl, hown2, hb2⟩
    go_wp2_with fail
    refine (impl_any _ _ _ zs _ hz hn (own_sl hown2) HW.out).mono ?_
    rintro e w2' ⟨rfl, rfl⟩
    have hd : (digB len0 zs != digB len0 zs) = false := by simp
    go_wp2_with fail
    refine (toByteS_any a0 len0 cap0 zs w2' hz hn ((hs.below hb1).below hb2)).mono ?_
    rintro e w3 ⟨rfl, hown3, hb3⟩
    go_wp2_with fail
    refine (eqByteS_any _ _ len0 len0 _ _ zs zs w3 hz hz hn hn (own_sl (ownsRow_below hown2 hb3)) (own_sl hown3)).mono ?_
    rintro e w4 ⟨rfl, hb4⟩
    have ht : decide (zs = zs) = true := by simp
    go_wp2_with fail
    go_ret
    exact ⟨rfl, below_trans (below_trans (below_trans hb1 hb2) hb3) hb4⟩
end Go.Proofs.Ytembleeoilbeaaf.fnExactDigest
