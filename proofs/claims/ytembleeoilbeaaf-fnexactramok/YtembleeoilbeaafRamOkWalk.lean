/- The walk of laws.FnExactRamOk: it returns true at every list of bytes and writes nothing that was there. -/
import Derived.Test.YtembleeoilbeaafBase
namespace Go.Proofs.Ytembleeoilbeaaf.fnExactRamOk
open Go.RowKit
set_option linter.unusedVariables false

set_option maxHeartbeats 400000 in
theorem walk (a0 : Option Addr) (len0 cap0 : Nat) (z0 : List Int) (w : World) (w0 : IsRow .u8 w a0 len0 cap0 z0) :
    Calls Try.prog 3 #[.slice a0 len0 cap0] w fun e w' => e = .returned (.bool true) ∧ Below w.heap.size w w' := by
  obtain ⟨zs, hz, hs, _, hm⟩ := w0.sl
  clear w0
  unfold maxLen at hm
  by_cases hbig : 1048576 < len0
  · have hb : (1048576 : Int) < (len0 : Int) := by omega
    go_enter Try.func3, Try.ntmps3
    go_wp2_with fail
    go_ret
    exact ⟨rfl, Below.refl _ _⟩
  · have hn : len0 ≤ 1048576 := by omega
    have hb : ¬ (1048576 : Int) < (len0 : Int) := by omega
    go_enter Try.func3, Try.ntmps3
    go_wp2_with fail
    refine (toByteS_any a0 len0 cap0 zs w hz hn hs).mono ?_
    rintro e w1 ⟨rfl, hown1, hb1⟩
    go_wp2_with fail
    refine (specRamOk_any _ _ _ _ hn).mono ?_
    rintro e w1' ⟨rfl, rfl⟩
    go_wp2_with fail
    refine (toByteS_any a0 len0 cap0 zs w1' hz hn (hs.below hb1)).mono ?_
    rintro e w2 ⟨rfl, hown2, hb2⟩
    go_wp2_with fail
    refine (implRamOk_any _ _ _ _ hn).mono ?_
    rintro e w2' ⟨rfl, rfl⟩
    go_wp2_with fail
    refine (toByteS_any a0 len0 cap0 zs w2' hz hn ((hs.below hb1).below hb2)).mono ?_
    rintro e w3 ⟨rfl, hown3, hb3⟩
    go_wp2_with fail
    refine (eqByteS_any _ _ len0 len0 _ _ zs zs w3 hz hz hn hn (own_sl (ownsRow_below hown2 hb3)) (own_sl hown3)).mono ?_
    rintro e w4 ⟨rfl, hb4⟩
    have ht : decide (zs = zs) = true := by simp
    go_wp2_with fail
    go_ret
    exact ⟨rfl, below_trans (below_trans (below_trans hb1 hb2) hb3) hb4⟩
end Go.Proofs.Ytembleeoilbeaaf.fnExactRamOk
