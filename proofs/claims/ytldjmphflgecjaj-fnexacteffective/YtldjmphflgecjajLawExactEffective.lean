/- The walk of laws.FnExactEffective: it returns true at every list of words, privilege and kind, and writes nothing that was there. By tools/genLawEE.py. -/
import Derived.Test.YtldjmphflgecjajEffI
import Derived.Test.YtldjmphflgecjajWalkS
import Derived.Test.YtldjmphflgecjajCsrE
namespace Go.Proofs.Ytldjmphflgecjaj.fnExactEffective
open Go.RowKit
set_option linter.unusedVariables false

set_option maxHeartbeats 1000000 in
theorem walk (a0 : Option Addr) (len0 cap0 : Nat) (z0 : List Int) (a1 : Int) (a2 : Int) (w : World) (w0 : IsRow .u64 w a0 len0 cap0 z0) (w1 : (Lit.int .i64 a1).wf = true) (w2 : (Lit.int .i64 a2).wf = true) :
    Calls Try.prog 3 #[.slice a0 len0 cap0, .int .i64 a1, .int .i64 a2] w fun e w' => e = .returned (.bool true) ∧ Below w.heap.size w w' := by
  obtain ⟨zs, hz, hs, hw, hm⟩ := w0.sl
  have hl := word_bd hw
  clear w0 w1 w2 hw
  unfold maxLen at hm
  by_cases hbig : 1048576 < len0
  · have hb : (1048576 : Int) < (len0 : Int) := by omega
    go_enter Try.func3, Try.ntmps3
    go_wp2_with fail
    go_ret
    exact ⟨rfl, Below.refl _ _⟩
  · have hn : len0 ≤ 1048576 := by omega
    have hb : ¬ (1048576 : Int) < (len0 : Int) := by omega
    have tz : decide (zs = zs) = true := by simp
    have HL : Hid (∀ j, U (zs.getD j 0)) := hl
    clear hl
    go_enter Try.func3, Try.ntmps3
    go_wp2_with fail
    refine (toUint64S_any a0 len0 cap0 zs w hz hn hs).mono ?_
    rintro e w1 ⟨rfl, hown1, hb1⟩
    go_wp2_with fail
    refine (specEffective_any _ _ _ zs a1 a2 _ hz (own_sl hown1)).mono ?_
    rintro e w2 ⟨rfl, hw2⟩
    have hw2' := hw2.symm
    subst hw2'
    go_wp2_with fail
    refine (toUint64S_any a0 len0 cap0 zs _ hz hn (hs.below hb1)).mono ?_
    rintro e w3 ⟨rfl, ox3, hb3⟩
    have B3 := below_trans hb1 hb3
    go_wp2_with fail
    refine (implEffective_any _ _ _ zs a1 a2 _ hz (own_sl ox3) HL.out).mono ?_
    rintro e w4 ⟨rfl, hb4⟩
    have B4 := below_trans B3 hb4
    have ox4 := ownsRow_below ox3 hb4
    generalize effB len0 zs a1 a2 = v at *
    have tv : (v != v) = false := by simp
    go_wp2_with fail
    refine (toUint64S_any a0 len0 cap0 zs _ hz hn (hs.below B4)).mono ?_
    rintro e w5 ⟨rfl, oz5, hb5⟩
    have B5 := below_trans B4 hb5
    have ox5 := ownsRow_below ox4 hb5
    go_wp2_with fail
    refine (eqUint64S_any _ _ len0 len0 _ _ zs zs w5 hz hz hn hn (own_sl ox5) (own_sl oz5)).mono ?_
    rintro e w6 ⟨rfl, hb6⟩
    go_wp2_with fail
    go_ret
    exact ⟨rfl, below_trans B5 hb6⟩

end Go.Proofs.Ytldjmphflgecjaj.fnExactEffective
