/- The walk of laws.FnExactLocked: it returns true at every list of words and an address, and writes nothing that was there. -/
import Derived.Test.YtaicnnkcdpdhaajDoorRegM
import Derived.Test.YtaicnnkcdpdhaajDoorRegU
import Derived.Test.YtaicnnkcdpdhaajDoorCsrX
namespace Go.Proofs.YtaicnnkcdpdhaajDoor.fnExactLocked
open Go.RowKit
set_option linter.unusedVariables false

theorem u64_U {x : Int} (h : (Lit.int .u64 x).wf = true) : U x := by
  have := word_bd (zs := [x]) (by intro y hy; simp at hy; subst hy; exact h) 0
  simpa using this

set_option maxHeartbeats 1000000 in
theorem walk (a0 : Option Addr) (len0 cap0 : Nat) (z0 : List Int) (a1 : Int) (w : World) (w0 : IsRow .u64 w a0 len0 cap0 z0) (w1 : (Lit.int .u64 a1).wf = true) (hT : Tab w) :
    Calls Tryd.prog 5 #[.slice a0 len0 cap0, .int .u64 a1] w fun e w' => e = .returned (.bool true) ∧ Below w.heap.size w w' := by
  obtain ⟨zs, hz, hs, hw, hm⟩ := w0.sl
  have hl := word_bd hw
  have HT : Hid (Tab w) := hT
  clear w0 w1 hw hT
  unfold maxLen at hm
  by_cases hbig : 1048576 < len0
  · have hb : (1048576 : Int) < (len0 : Int) := by omega
    go_enter Tryd.func5, Tryd.ntmps5
    go_wp2_with fail
    go_ret
    exact ⟨rfl, Below.refl _ _⟩
  · have hn : len0 ≤ 1048576 := by omega
    have hb : ¬ (1048576 : Int) < (len0 : Int) := by omega
    have tz : decide (zs = zs) = true := by simp
    have HL : Hid (∀ j, U (zs.getD j 0)) := hl
    clear hl
    go_enter Tryd.func5, Tryd.ntmps5
    go_wp2_with fail
    refine (toUint64S_any a0 len0 cap0 zs w hz hn hs).mono ?_
    rintro e w1 ⟨rfl, hown1, hb1⟩
    go_wp2_with fail
    refine (specLocked_any _ _ _ zs a1 _ hz (own_sl hown1)).mono ?_
    rintro e w2 ⟨rfl, hw2⟩
    have hw2' := hw2.symm
    subst hw2'
    go_wp2_with fail
    refine (toUint64S_any a0 len0 cap0 zs _ hz hn (hs.below hb1)).mono ?_
    rintro e w3 ⟨rfl, ox3, hb3⟩
    have B3 := below_trans hb1 hb3
    go_wp2_with fail
    refine (implLocked_any _ _ _ zs a1 _ hz (own_sl ox3) HL.out (HT.out.below B3)).mono ?_
    rintro e w4 ⟨rfl, hb4⟩
    have B4 := below_trans B3 hb4
    have ox4 := ownsRow_below ox3 hb4
    generalize lockedV len0 zs a1 = v at *
    have tv : (v != v) = false := by simp
    go_wp2_with fail
    refine (toUint64S_any a0 len0 cap0 zs _ hz hn (hs.below B4)).mono ?_
    rintro e w5 ⟨rfl, oz5, hb5⟩
    have B5 := below_trans B4 hb5
    have ox5 := ownsRow_below ox4 hb5
    go_wp2_with fail
    refine (eqUint64S_any _ _ len0 len0 _ _ zs zs w5 hz hz hn hn (own_sl ox5) (own_sl oz5)).mono ?_
    rintro e w6 ⟨rfl, hb6⟩
    go_wp2_with fail
    go_ret
    exact ⟨rfl, below_trans B5 hb6⟩

end Go.Proofs.YtaicnnkcdpdhaajDoor.fnExactLocked
