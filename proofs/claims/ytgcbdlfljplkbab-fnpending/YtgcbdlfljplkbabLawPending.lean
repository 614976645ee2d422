/- The walk of laws.FnPending: it returns true at every code, and writes nothing that was there. -/
import Derived.Test.YtgcbdlfljplkbabPendI
import Derived.Test.YtgcbdlfljplkbabPendG
import Derived.Test.YtgcbdlfljplkbabDrawU
import Derived.Test.YtgcbdlfljplkbabLawC
import Derived.BigQuiet
namespace Go.Proofs.Ytgcbdlfljplkbab.fnPending
open Go.RowKit
set_option linter.unusedVariables false

set_option maxRecDepth 100000 in
set_option maxHeartbeats 6400000 in
theorem walk (a0 : Option Addr) (len0 cap0 : Nat) (z0 : List Int) (w : World) (w0 : IsRow .u8 w a0 len0 cap0 z0) :
    Calls Try.prog 7 #[.slice a0 len0 cap0] w fun e w' => e = .returned (.bool true) ∧ Below w.heap.size w w' := by
  by_cases hbig : 4096 < len0
  · have hb : decide (4096 < len0) = true := by simpa using hbig
    go_enter Try.func7, Try.ntmps7
    go_wp2_with fail
    refine (big_any a0 len0 cap0 _).mono ?_
    rintro e w1 ⟨rfl, hw1⟩
    subst hw1
    rw [hb]
    go_wp2_with fail
    go_ret
    exact ⟨rfl, Below.refl _ _⟩
  · have hb : decide (4096 < len0) = false := by simpa using hbig
    obtain ⟨zs, hcd⟩ := code_of w0 (by omega)
    have HD : Hid (Code w a0 len0 zs) := hcd
    clear hcd w0 hbig
    go_enter Try.func7, Try.ntmps7
    go_wp2_with fail
    refine (big_any a0 len0 cap0 _).mono ?_
    rintro e w1 ⟨rfl, hw1⟩
    have hw1' := hw1.symm
    subst hw1'
    rw [hb]
    clear hb
    go_wp2_with fail
    refine (DrawPending_c cap0 _ HD.out).mono ?_
    rintro e w2 ⟨b, m, c, l, p, rfl, hlen, hm, HU, HSL, HB2⟩
    have HF : Hid (pendB m l p = -1 ∨ (m = 22 ∧ ∃ n : Nat, n < 64 ∧ pendB m l p = n ∧ bitAt (l.getD 9 0) n = 1 ∧ bitAt (l.getD 3 0) n = 1 ∧ ((bitAt (l.getD 2 0) n = 1 ∧ hearS l p = true) ∨ (bitAt (l.getD 2 0) n = 0 ∧ hearM l p = true)))) := pend_facts m l p HU.out
    have HLEN : Hid (l.length = m) := hlen
    go_wp2_with fail
    refine (implPending_any b m c l p _ hlen HSL.out HU.out).mono ?_
    rintro e w3 ⟨rfl, hb3⟩
    have S3 : Hid (Sl .u64 w3 b l) := HSL.out.below hb3
    have B3 : Hid (Below w.heap.size w w3) := below_trans HB2.out hb3
    clear HSL hb3 HB2 hlen
    have HSP : Hid (Calls Try.prog 29 #[.slice b m c, .int .i64 p] w3 fun e w' => e = .returned (.int .i64 (pendB m l p)) ∧ Below w3.heap.size w3 w') := specPending_any b m c l p w3 HLEN.out S3.out
    generalize pendB m l p = k at *
    have t1 : (k != k) = false := by simp
    go_wp2_with fail
    refine HSP.out.mono ?_
    rintro e w4 ⟨rfl, hb4⟩
    have S4 : Hid (Sl .u64 w4 b l) := S3.out.below hb4
    have B4 : Hid (Below w.heap.size w w4) := below_trans B3.out hb4
    clear S3 B3 hb4 HSP HU
    rcases HF.out with hk | ⟨hm22, n, hn, hk, h9, h3, hx⟩
    · subst hk
      clear HF
      go_wp2_with fail
      go_ret
      exact ⟨rfl, B4.out⟩
    · subst hm22 hk
      clear HF t1
      obtain ⟨b0, o0, rfl, hb0, hc0⟩ := S4.out 0 (by rw [HLEN.out]; omega)
      have c0 : w4.cell? ⟨b0, o0, none⟩ = some (.int .u64 (l.getD 0 0)) := hc0
      have c2 := (sl_at S4.out 2 (by rw [HLEN.out]; omega)).2
      have c3 := (sl_at S4.out 3 (by rw [HLEN.out]; omega)).2
      have c9 := (sl_at S4.out 9 (by rw [HLEN.out]; omega)).2
      have hw : IntKind.u64.wrap (n : Int) = n := by rw [IntKind.wrap_u64]; omega
      have dk : decide ((n : Int) < 0) = false := decide_eq_false (by omega)
      have d9 : (bits .and .u64 (l.getD 9 0 / 2 ^ n) 1 == 0) = false := by
        have e : bits .and .u64 (l.getD 9 0 / 2 ^ n) 1 = 1 := h9
        rw [e]; rfl
      have d3 : (bits .and .u64 (l.getD 3 0 / 2 ^ n) 1 == 0) = false := by
        have e : bits .and .u64 (l.getD 3 0 / 2 ^ n) 1 = 1 := h3
        rw [e]; rfl
      have HS : Hid (hearS l p = ((p == 0) || ((p == 1) && (bits .and .u64 (l.getD 0 0 / 2) 1 == 1)))) := (rfl : hearS l p = _)
      have HM : Hid (hearM l p = ((p != 3) || (bits .and .u64 (l.getD 0 0 / 8) 1 == 1))) := (rfl : hearM l p = _)
      clear h9 h3 hc0 S4
      rcases hx with ⟨h2, hh⟩ | ⟨h2, hh⟩
      · have d2 : (bits .and .u64 (l.getD 2 0 / 2 ^ n) 1 == 1) = true := by
          have e : bits .and .u64 (l.getD 2 0 / 2 ^ n) 1 = 1 := h2
          rw [e]; rfl
        rw [HS.out] at hh
        clear h2 HS HM
        generalize l.getD 0 0 = x0 at *
        generalize l.getD 2 0 = x2 at *
        generalize l.getD 3 0 = x3 at *
        generalize l.getD 9 0 = x9 at *
        cases e0 : (p == 0) with
        | true =>
          clear hh
          go_wp2_with fail
          go_ret
          exact ⟨rfl, B4.out⟩
        | false =>
          rw [e0, Bool.false_or, Bool.and_eq_true] at hh
          obtain ⟨e1, e2⟩ := hh
          go_wp2_with fail
          go_ret
          exact ⟨rfl, B4.out⟩
      · have d2 : (bits .and .u64 (l.getD 2 0 / 2 ^ n) 1 == 1) = false := by
          have e : bits .and .u64 (l.getD 2 0 / 2 ^ n) 1 = 0 := h2
          rw [e]; rfl
        rw [HM.out] at hh
        clear h2 HS HM
        generalize l.getD 0 0 = x0 at *
        generalize l.getD 2 0 = x2 at *
        generalize l.getD 3 0 = x3 at *
        generalize l.getD 9 0 = x9 at *
        cases e0 : (p != 3) with
        | true =>
          clear hh
          go_wp2_with fail
          go_ret
          exact ⟨rfl, B4.out⟩
        | false =>
          rw [e0, Bool.false_or] at hh
          go_wp2_with fail
          go_ret
          exact ⟨rfl, B4.out⟩

end Go.Proofs.Ytgcbdlfljplkbab.fnPending
