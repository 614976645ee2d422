/- The walk of laws.FnLeft: it returns true at every code, and writes nothing that was there. -/
import Derived.Test.YtgcbdlfljplkbabLeaveI
import Derived.Test.YtgcbdlfljplkbabTrapG
import Derived.Test.YtgcbdlfljplkbabLikeC
import Derived.Test.YtgcbdlfljplkbabDrawT
import Derived.Test.YtgcbdlfljplkbabLawC
import Derived.BigQuiet
namespace Go.Proofs.Ytgcbdlfljplkbab.fnLeft
open Go.RowKit
set_option linter.unusedVariables false

set_option maxRecDepth 100000 in
set_option maxHeartbeats 6400000 in
theorem walk (a0 : Option Addr) (len0 cap0 : Nat) (z0 : List Int) (w : World) (w0 : IsRow .u8 w a0 len0 cap0 z0) :
    Calls Try.prog 6 #[.slice a0 len0 cap0] w fun e w' => e = .returned (.bool true) ∧ Below w.heap.size w w' := by
  by_cases hbig : 4096 < len0
  · have hb : decide (4096 < len0) = true := by simpa using hbig
    go_enter Try.func6, Try.ntmps6
    go_wp2_with fail
    refine (big_any a0 len0 cap0 _).mono ?_
    rintro e w1 ⟨rfl, hw1⟩
    subst hw1
    rw [hb]
    go_wp2_with fail
    go_ret
    exact ⟨rfl, Below.refl _ _⟩
  · have hb : decide (4096 < len0) = false := by simpa using hbig
    obtain ⟨zs, hcd⟩ := code_of w0 (by omega)
    have HD : Hid (Code w a0 len0 zs) := hcd
    clear hcd w0 hbig
    go_enter Try.func6, Try.ntmps6
    go_wp2_with fail
    refine (big_any a0 len0 cap0 _).mono ?_
    rintro e w1 ⟨rfl, hw1⟩
    have hw1' := hw1.symm
    subst hw1'
    rw [hb]
    clear hb
    go_wp2_with fail
    refine (DrawLeave_c cap0 _ HD.out).mono ?_
    rintro e w2 ⟨b, m, c, l, p, q, rfl, hlen, hm, HU, HSL, HB2⟩
    go_wp2_with fail
    refine (implLeave_any b m c l p q _ hlen HSL.out HU.out).mono ?_
    rintro e w3 ⟨ag, cg, rfl, og3, hb3⟩
    have S3 : Hid (Sl .u64 w3 b l) := HSL.out.below hb3
    have B3 : Hid (Below w.heap.size w w3) := below_trans HB2.out hb3
    clear HSL hb3 HB2
    have HLEN : Hid (l.length = m) := hlen
    have hL : (leavL m l p q).length ≤ 1048576 := by
      unfold leavL; split
      · rw [List.length_set]; omega
      · simp
    obtain ⟨rs, hrs⟩ : ∃ rs, rs = leavL m l p q := ⟨_, rfl⟩
    obtain ⟨nr, hnr⟩ : ∃ nr, nr = rs.length := ⟨_, rfl⟩
    obtain ⟨rp, hrp⟩ : ∃ rp, rp = leavP m l p q := ⟨_, rfl⟩
    obtain ⟨ra, hra⟩ : ∃ ra, ra = leavA m l p q := ⟨_, rfl⟩
    obtain ⟨ob, hob⟩ : ∃ ob, ob = leavB m l p q := ⟨_, rfl⟩
    have HSP := specLeave_any b m c l p q w3 hlen S3.out
    rw [← hrs, ← hnr, ← hrp, ← hra, ← hob] at HSP
    have HSP2 : Hid (Calls Try.prog 26 _ w3 _) := HSP
    rw [← hrs, ← hnr] at og3 hL
    rw [← hrs, ← hnr, ← hrp, ← hra, ← hob]
    have HRS : Hid (rs = leavL m l p q) := hrs
    have HNR : Hid (nr = rs.length) := hnr
    have HRP : Hid (rp = leavP m l p q) := hrp
    have HRA : Hid (ra = leavA m l p q) := hra
    have HOB : Hid (ob = leavB m l p q) := hob
    clear hrs hnr hrp hra hob HSP hlen
    have t1 : (ob != ob) = false := by simp
    have t2 : decide (rs = rs) = true := by simp
    have t3 : (rp != rp) = false := by simp
    have t4 : (ra != ra) = false := by simp
    go_wp2_with fail
    refine HSP2.out.mono ?_
    rintro e w4 ⟨aw, cw, rfl, ow4, hb4⟩
    have S4 : Hid (Sl .u64 w4 b l) := S3.out.below hb4
    have B4 : Hid (Below w.heap.size w w4) := below_trans B3.out hb4
    have og4 := ownsRow_below og3 hb4
    clear S3 B3 og3 hb4 HSP2
    go_wp2_with fail
    refine (likeWords_any _ _ nr nr _ _ rs rs w4 HNR.out.symm HNR.out.symm hL hL (own_sl' og4) (own_sl' ow4)).mono ?_
    rintro e w5 ⟨rfl, hb5⟩
    have S5 : Hid (Sl .u64 w5 b l) := S4.out.below hb5
    have B5 : Hid (Below w.heap.size w w5) := below_trans B4.out hb5
    have og5 := ownsRow_below og4 hb5
    clear S4 B4 og4 ow4 hb5
    cases ob with
    | false =>
      obtain ⟨e1, e2, e3⟩ := left_no HOB.out.symm
      have hn0 : nr = 0 := by rw [HNR.out, HRS.out, e1]; rfl
      have hp0 : rp = 0 := by rw [HRP.out, e2]
      have ha0 : ra = 0 := by rw [HRA.out, e3]
      subst hn0 hp0 ha0
      clear e1 e2 e3 HRS HNR HRP HRA HOB
      go_wp2_with fail
      go_ret
      exact ⟨rfl, B5.out⟩
    | true =>
      obtain ⟨rfl, e1, e2, e3, e4, e5, e6, e7⟩ := left_yes HLEN.out HU.out HOB.out.symm
      rw [← HRS.out] at e2 e3 e4
      rw [← HRP.out] at e1
      rw [← HRA.out] at e7
      have hlr := e2
      have hur := e3
      have hokr := e4
      have hn22 : nr = 22 := by rw [HNR.out, e2]
      subst hn22
      have HK : Hid (∀ (W : World) (a : Option Addr) (c : Nat), Sl .u64 W a rs → Calls Try.prog 20 #[.slice a 22 c] W fun e w' => e = .returned (.bool true) ∧ Below W.heap.size W w') := by
        intro W a c hs
        have h := implCsrsOk_any a 22 c rs W hlr hs hur
        rw [fitsOk_eq 22 rs hur, hokr] at h
        exact h
      have d1 : decide (rp ≤ p) = true := decide_eq_true e1
      have d2 : decide (p > 0) = true := decide_eq_true e5
      have d3 : (bits .and .u64 ra 3 == 0) = true := by rw [e7]; rfl
      have D6 : Hid (q = true → p = 3) := e6
      clear e1 e2 e3 e4 e5 e6 e7 hlr hur hokr HRS HNR HRP HRA HOB t1 t2 t3 t4
      cases q with
      | true =>
        have d4 : (p == 3) = true := by rw [D6.out rfl]; rfl
        clear D6
        go_wp2_with fail
        refine (HK.out _ _ _ (own_sl' og5)).mono ?_
        rintro e w6 ⟨rfl, hb6⟩
        go_wp2_with fail
        go_ret
        exact ⟨rfl, below_trans B5.out hb6⟩
      | false =>
        clear D6
        go_wp2_with fail
        refine (HK.out _ _ _ (own_sl' og5)).mono ?_
        rintro e w6 ⟨rfl, hb6⟩
        go_wp2_with fail
        go_ret
        exact ⟨rfl, below_trans B5.out hb6⟩

end Go.Proofs.Ytgcbdlfljplkbab.fnLeft
