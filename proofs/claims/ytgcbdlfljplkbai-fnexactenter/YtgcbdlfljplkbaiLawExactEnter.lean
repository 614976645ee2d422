/- The walk of laws.FnExactEnter: it returns true at every list of words, privilege, pc, cause and value, and writes nothing that was there. -/
import Derived.Test.YtgcbdlfljplkbaiEnterI
namespace Go.Proofs.Ytgcbdlfljplkbai.fnExactEnter
open Go.RowKit
set_option linter.unusedVariables false

set_option maxHeartbeats 1600000 in
theorem walk (a0 : Option Addr) (len0 cap0 : Nat) (z0 : List Int) (a1 : Int) (a2 : Int) (a3 : Int) (a4 : Bool) (a5 : Int) (w : World) (w0 : IsRow .u64 w a0 len0 cap0 z0) (w1 : (Lit.int .i64 a1).wf = true) (w2 : (Lit.int .u64 a2).wf = true) (w3 : (Lit.int .i64 a3).wf = true) (w5 : (Lit.int .u64 a5).wf = true) :
    Calls Try.prog 5 #[.slice a0 len0 cap0, .int .i64 a1, .int .u64 a2, .int .i64 a3, .bool a4, .int .u64 a5] w fun e w' => e = .returned (.bool true) ∧ Below w.heap.size w w' := by
  obtain ⟨zs, hz, hs, hw, hm⟩ := w0.sl
  have hl := word_bd hw
  have HLU : Hid (∀ j, U (zs.getD j 0)) := hl
  clear w0 w1 w2 w3 w5 hw hl
  unfold maxLen at hm
  by_cases hbig : 1048576 < len0
  · have hb : (1048576 : Int) < (len0 : Int) := by omega
    go_enter Try.func5, Try.ntmps5
    go_wp2_with fail
    go_ret
    exact ⟨rfl, Below.refl _ _⟩
  · have hn : len0 ≤ 1048576 := by omega
    have hb : ¬ (1048576 : Int) < (len0 : Int) := by omega
    have hL0 : (entL len0 zs a1 a2 a3 a4 a5).length ≤ 1048576 := by
      unfold entL; split
      · rw [enterL_len]; omega
      · simp
    have hSP : ∀ (a : Option Addr) (cap : Nat) (w : World), Sl .u64 w a zs → Calls Try.prog 17 #[.slice a len0 cap, .int .i64 a1, .int .u64 a2, .int .i64 a3, .bool a4, .int .u64 a5] w fun e w' => ∃ (a' : Option Addr) (c : Nat), e = .returned (.tuple #[.slice a' (entL len0 zs a1 a2 a3 a4 a5).length c, .int .i64 (entP len0 zs a1 a3 a4), .int .u64 (entA len0 zs a1 a3 a4), .bool (entB len0 zs a1 a3)]) ∧
      w'.ownsRow w.heap.size 23 1 (.slice a' (entL len0 zs a1 a2 a3 a4 a5).length c) (entL len0 zs a1 a2 a3 a4 a5).length ((entL len0 zs a1 a2 a3 a4 a5).map (Value.int .u64)) ∧ Below w.heap.size w w' := fun a cap w hs => specEnter_any a len0 cap zs a1 a2 a3 a4 a5 w hz hs
    have hIM : ∀ (a : Option Addr) (cap : Nat) (w : World), Sl .u64 w a zs → Calls Try.prog 18 #[.slice a len0 cap, .int .i64 a1, .int .u64 a2, .int .i64 a3, .bool a4, .int .u64 a5] w fun e w' => ∃ (a' : Option Addr) (c : Nat), e = .returned (.tuple #[.slice a' (entL len0 zs a1 a2 a3 a4 a5).length c, .int .i64 (entP len0 zs a1 a3 a4), .int .u64 (entA len0 zs a1 a3 a4), .bool (entB len0 zs a1 a3)]) ∧
      w'.ownsRow w.heap.size 23 1 (.slice a' (entL len0 zs a1 a2 a3 a4 a5).length c) (entL len0 zs a1 a2 a3 a4 a5).length ((entL len0 zs a1 a2 a3 a4 a5).map (Value.int .u64)) ∧ Below w.heap.size w w' := fun a cap w hs => implEnter_any a len0 cap zs a1 a2 a3 a4 a5 w hz hs HLU.out
    obtain ⟨rs, hrs⟩ : ∃ rs, rs = entL len0 zs a1 a2 a3 a4 a5 := ⟨_, rfl⟩
    obtain ⟨rp, hrp⟩ : ∃ rp, rp = entP len0 zs a1 a3 a4 := ⟨_, rfl⟩
    obtain ⟨ra, hra⟩ : ∃ ra, ra = entA len0 zs a1 a3 a4 := ⟨_, rfl⟩
    obtain ⟨ob, hob⟩ : ∃ ob, ob = entB len0 zs a1 a3 := ⟨_, rfl⟩
    obtain ⟨nr, hnr⟩ : ∃ nr, nr = rs.length := ⟨_, rfl⟩
    rw [← hrs, ← hnr] at hL0
    rw [← hrs, ← hrp, ← hra, ← hob, ← hnr] at hIM hSP
    have HSP : Hid (∀ (a : Option Addr) (cap : Nat) (w : World), Sl .u64 w a zs → Calls Try.prog 17 #[.slice a len0 cap, .int .i64 a1, .int .u64 a2, .int .i64 a3, .bool a4, .int .u64 a5] w fun e w' => ∃ (a' : Option Addr) (c : Nat), e = .returned (.tuple #[.slice a' nr c, .int .i64 rp, .int .u64 ra, .bool ob]) ∧
      w'.ownsRow w.heap.size 23 1 (.slice a' nr c) nr (rs.map (Value.int .u64)) ∧ Below w.heap.size w w') := hSP
    have HIM : Hid (∀ (a : Option Addr) (cap : Nat) (w : World), Sl .u64 w a zs → Calls Try.prog 18 #[.slice a len0 cap, .int .i64 a1, .int .u64 a2, .int .i64 a3, .bool a4, .int .u64 a5] w fun e w' => ∃ (a' : Option Addr) (c : Nat), e = .returned (.tuple #[.slice a' nr c, .int .i64 rp, .int .u64 ra, .bool ob]) ∧
      w'.ownsRow w.heap.size 23 1 (.slice a' nr c) nr (rs.map (Value.int .u64)) ∧ Below w.heap.size w w') := hIM
    have hL : nr ≤ 1048576 := hL0
    have HL : Hid (rs.length = nr) := hnr.symm
    clear hL0 hIM hSP hrs hrp hra hob hnr HLU
    have tz : decide (zs = zs) = true := by simp
    have tr : decide (rs = rs) = true := by simp
    have tk : (ob != ob) = false := by simp
    have tp : (rp != rp) = false := by simp
    have ta : (ra != ra) = false := by simp
    go_enter Try.func5, Try.ntmps5
    go_wp2_with fail
    refine (toUint64S_any a0 len0 cap0 zs w hz hn hs).mono ?_
    rintro e w1 ⟨rfl, hown1, hb1⟩
    go_wp2_with fail
    refine (HSP.out _ _ _ (own_sl hown1)).mono ?_
    rintro e w2 ⟨aw, cw, rfl, ow2, hb2⟩
    have B2 := below_trans hb1 hb2
    go_wp2_with fail
    refine (toUint64S_any a0 len0 cap0 zs w2 hz hn (hs.below B2)).mono ?_
    rintro e w3 ⟨rfl, ox3, hb3⟩
    have B3 := below_trans B2 hb3
    have ow3 := ownsRow_below ow2 hb3
    go_wp2_with fail
    refine (HIM.out _ _ _ (own_sl ox3)).mono ?_
    rintro e w4 ⟨ag, cg, rfl, og4, hb4⟩
    have B4 := below_trans B3 hb4
    have ow4 := ownsRow_below ow3 hb4
    have ox4 := ownsRow_below ox3 hb4
    go_wp2_with fail
    refine (eqUint64S_any _ _ _ _ _ _ rs rs w4 HL.out HL.out hL hL (own_sl' og4) (own_sl' ow4)).mono ?_
    rintro e w5 ⟨rfl, hb5⟩
    have B5 := below_trans B4 hb5
    have ow5 := ownsRow_below ow4 hb5
    have ox5 := ownsRow_below ox4 hb5
    have og5 := ownsRow_below og4 hb5
    go_wp2_with fail
    refine (toUint64S_any a0 len0 cap0 zs w5 hz hn (hs.below B5)).mono ?_
    rintro e w6 ⟨rfl, oz6, hb6⟩
    have B6 := below_trans B5 hb6
    have ow6 := ownsRow_below ow5 hb6
    have ox6 := ownsRow_below ox5 hb6
    have og6 := ownsRow_below og5 hb6
    go_wp2_with fail
    refine (eqUint64S_any _ _ len0 len0 _ _ zs zs w6 hz hz hn hn (own_sl ox6) (own_sl oz6)).mono ?_
    rintro e w7 ⟨rfl, hb7⟩
    have B7 := below_trans B6 hb7
    have ow7 := ownsRow_below ow6 hb7
    have ox7 := ownsRow_below ox6 hb7
    have og7 := ownsRow_below og6 hb7
    have zw : ∀ k, (Value.slice aw (nr) cw).ownBlock = some k → k < w2.heap.size := fun k hk => (ow2.lt k hk).2
    have zg : ∀ k, (Value.slice ag (nr) cg).ownBlock = some k → w3.heap.size ≤ k := fun k hk => (og4.lt k hk).1
    have zx : w2.heap.size < w3.heap.size := own_lt ox3
    have zB : w.heap.size ≤ w2.heap.size := B2.size
    go_wp2_with fail
    refine (markUint64S_any _ len0 len0 _ 1 zs w7 hn (by omega) (by omega) ox7).mono ?_
    rintro e w8 ⟨rfl, ox8, gr8⟩
    have B8 : Below w.heap.size w w8 := B7.grown gr8 B7.size (by intro k hk; simp [Value.ownBlock] at hk; omega)
    have ow8 := kept_of ow7 gr8 (by intro k hk h; have := zw k hk; simp [Value.ownBlock] at h; omega)
    have og8 := kept_of og7 gr8 (by intro k hk h; have := zg k hk; simp [Value.ownBlock] at h; omega)
    have hneg : decide ((1 : Int) + (len0 : Int) < 0) = false := by simp; omega
    go_wp2_with fail
    refine (eqUint64S_any _ _ _ _ _ _ rs rs w8 HL.out HL.out hL hL (own_sl' og8) (own_sl' ow8)).mono ?_
    rintro e w9 ⟨rfl, hb9⟩
    have B9 := below_trans B8 hb9
    have ow9 := ownsRow_below ow8 hb9
    have og9 := ownsRow_below og8 hb9
    go_wp2_with fail
    refine (markUint64S_any _ _ _ _ 1 _ w9 hL (by omega) (by omega) og9).mono ?_
    rintro e w10 ⟨rfl, og10, gr10⟩
    have B10 : Below w.heap.size w w10 := B9.grown gr10 B9.size (by intro k hk; have := zg k hk; omega)
    have ow10 := kept_of ow9 gr10 (by intro k hk h; have := zw k hk; have := zg k h; omega)
    have hneg2 : ¬ ((1 : Int) + (nr : Int) < 0) := by omega
    have hne2 : ((1 : Int) + (nr : Int) != 1 + (nr : Int)) = false := by simp
    go_wp2_with fail
    refine (heldUint64S_any _ _ _ 1 w10 hL (by omega) (by omega) (own_sl' og10)).mono ?_
    rintro e w11 ⟨rfl, hw11⟩
    subst hw11
    go_wp2_with fail
    refine (toUint64S_any a0 len0 cap0 zs _ hz hn (hs.below B10)).mono ?_
    rintro e w12 ⟨rfl, oy12, hb12⟩
    have B12 := below_trans B10 hb12
    have ow12 := ownsRow_below ow10 hb12
    have og12 := ownsRow_below og10 hb12
    go_wp2_with fail
    refine (HIM.out _ _ _ (own_sl oy12)).mono ?_
    rintro e w13 ⟨ah, ch, rfl, oh13, hb13⟩
    have B13 := below_trans B12 hb13
    have ow13 := ownsRow_below ow12 hb13
    have og13 := ownsRow_below og12 hb13
    go_wp2_with fail
    refine (eqUint64S_any _ _ _ _ _ _ rs rs w13 HL.out HL.out hL hL (own_sl' oh13) (own_sl' ow13)).mono ?_
    rintro e w14 ⟨rfl, hb14⟩
    have B14 := below_trans B13 hb14
    have og14 := ownsRow_below og13 hb14
    go_wp2_with fail
    refine (heldUint64S_any _ _ _ 1 w14 hL (by omega) (by omega) (own_sl' og14)).mono ?_
    rintro e w15 ⟨rfl, hw15⟩
    subst hw15
    go_wp2_with fail
    go_ret
    exact ⟨rfl, B14⟩

end Go.Proofs.Ytgcbdlfljplkbai.fnExactEnter
