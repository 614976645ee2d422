/- The walk of laws.FnTrapped: it returns true at every code, and writes nothing that was there. -/
import Derived.Test.YtgcbdlfljplkbabEnterI
import Derived.Test.YtgcbdlfljplkbabTrapG
import Derived.Test.YtgcbdlfljplkbabLikeC
import Derived.Test.YtgcbdlfljplkbabDrawT
import Derived.Test.YtgcbdlfljplkbabLawC
import Derived.BigQuiet
namespace Go.Proofs.Ytgcbdlfljplkbab.fnTrapped
open Go.RowKit
set_option linter.unusedVariables false

set_option maxRecDepth 100000 in
set_option maxHeartbeats 6400000 in
theorem walk (a0 : Option Addr) (len0 cap0 : Nat) (z0 : List Int) (w : World) (w0 : IsRow .u8 w a0 len0 cap0 z0) :
    Calls Try.prog 5 #[.slice a0 len0 cap0] w fun e w' => e = .returned (.bool true) ∧ Below w.heap.size w w' := by
  by_cases hbig : 4096 < len0
  · have hb : decide (4096 < len0) = true := by simpa using hbig
    go_enter Try.func5, Try.ntmps5
    go_wp2_with fail
    refine (big_any a0 len0 cap0 _).mono ?_
    rintro e w1 ⟨rfl, hw1⟩
    subst hw1
    rw [hb]
    go_wp2_with fail
    go_ret
    exact ⟨rfl, Below.refl _ _⟩
  · have hb : decide (4096 < len0) = false := by simpa using hbig
    obtain ⟨zs, hcd⟩ := code_of w0 (by omega)
    have HD : Hid (Code w a0 len0 zs) := hcd
    clear hcd w0 hbig
    go_enter Try.func5, Try.ntmps5
    go_wp2_with fail
    refine (big_any a0 len0 cap0 _).mono ?_
    rintro e w1 ⟨rfl, hw1⟩
    have hw1' := hw1.symm
    subst hw1'
    rw [hb]
    clear hb
    go_wp2_with fail
    refine (DrawEnter_c cap0 _ HD.out).mono ?_
    rintro e w2 ⟨b, m, c, l, p, pc, k, i, v, rfl, hlen, hm, HU, HSL, HPC, HV, HB2⟩
    go_wp2_with fail
    refine (implEnter_any b m c l p pc k i v _ hlen HSL.out HU.out).mono ?_
    rintro e w3 ⟨ag, cg, rfl, og3, hb3⟩
    have S3 : Hid (Sl .u64 w3 b l) := HSL.out.below hb3
    have B3 : Hid (Below w.heap.size w w3) := below_trans HB2.out hb3
    clear HSL hb3 HB2
    have HLEN : Hid (l.length = m) := hlen
    have hL : (entL m l p pc k i v).length ≤ 1048576 := by
      unfold entL; split
      · rw [enterL_len]; omega
      · simp
    obtain ⟨rs, hrs⟩ : ∃ rs, rs = entL m l p pc k i v := ⟨_, rfl⟩
    obtain ⟨nr, hnr⟩ : ∃ nr, nr = rs.length := ⟨_, rfl⟩
    obtain ⟨rp, hrp⟩ : ∃ rp, rp = entP m l p k i := ⟨_, rfl⟩
    obtain ⟨ra, hra⟩ : ∃ ra, ra = entA m l p k i := ⟨_, rfl⟩
    obtain ⟨ob, hob⟩ : ∃ ob, ob = entB m l p k := ⟨_, rfl⟩
    have HSP := specEnter_any b m c l p pc k i v w3 hlen S3.out
    rw [← hrs, ← hnr, ← hrp, ← hra, ← hob] at HSP
    have HSP2 : Hid (Calls Try.prog 23 _ w3 _) := HSP
    rw [← hrs, ← hnr] at og3 hL
    rw [← hrs, ← hnr, ← hrp, ← hra, ← hob]
    have HRS : Hid (rs = entL m l p pc k i v) := hrs
    have HNR : Hid (nr = rs.length) := hnr
    have HRP : Hid (rp = entP m l p k i) := hrp
    have HRA : Hid (ra = entA m l p k i) := hra
    have HOB : Hid (ob = entB m l p k) := hob
    clear hrs hnr hrp hra hob HSP hlen
    have t1 : (ob != ob) = false := by simp
    have t2 : decide (rs = rs) = true := by simp
    have t3 : (rp != rp) = false := by simp
    have t4 : (ra != ra) = false := by simp
    go_wp2_with fail
    refine HSP2.out.mono ?_
    rintro e w4 ⟨aw, cw, rfl, ow4, hb4⟩
    have S4 : Hid (Sl .u64 w4 b l) := S3.out.below hb4
    have B4 : Hid (Below w.heap.size w w4) := below_trans B3.out hb4
    have og4 := ownsRow_below og3 hb4
    clear S3 B3 og3 hb4 HSP2
    go_wp2_with fail
    refine (likeWords_any _ _ nr nr _ _ rs rs w4 HNR.out.symm HNR.out.symm hL hL (own_sl' og4) (own_sl' ow4)).mono ?_
    rintro e w5 ⟨rfl, hb5⟩
    have S5 : Hid (Sl .u64 w5 b l) := S4.out.below hb5
    have B5 : Hid (Below w.heap.size w w5) := below_trans B4.out hb5
    have og5 := ownsRow_below og4 hb5
    clear S4 B4 og4 ow4 hb5
    cases ob with
    | false =>
      have hn0 : nr = 0 := by rw [HNR.out, HRS.out, ent_no HOB.out.symm]; rfl
      subst hn0
      clear HRS HNR HRP HRA HOB
      go_wp2_with fail
      go_ret
      exact ⟨rfl, B5.out⟩
    | true =>
      obtain ⟨rfl, d, e0, e1, e2, e3, e4, e5, e6, e7, e8, e9, e10⟩ := ent_yes (i := i) HLEN.out HU.out HPC.out HV.out HOB.out.symm
      rw [← HRS.out] at e2 e3 e4 e6 e7 e8 e9 e10
      rw [← HRP.out] at e0 e1 e6 e7 e8 e9 e10
      rw [← HRA.out] at e5
      have hlr := e2
      have hur := e3
      have hokr := e4
      have hn22 : nr = 22 := by rw [HNR.out, e2]
      subst hn22
      have HK : Hid (∀ (W : World) (a : Option Addr) (c : Nat), Sl .u64 W a rs → Calls Try.prog 20 #[.slice a 22 c] W fun e w' => e = .returned (.bool true) ∧ Below W.heap.size W w') := by
        intro W a c hs
        have h := implCsrsOk_any a 22 c rs W hlr hs hur
        rw [fitsOk_eq 22 rs hur, hokr] at h
        exact h
      have d3 : (bits .and .u64 ra 3 != 0) = false := by rw [e5]; rfl
      have d1 := e1
      clear e1 e2 e3 e4 e5
      cases d with
      | true =>
        have HQ : rp = 1 := e0
        subst HQ
        have hLV := fun (W : World) (a : Option Addr) (c : Nat) (hs : Sl .u64 W a rs) => implLeave_any a 22 c rs 1 false W hlr hs hur
        have f1 : leavB 22 rs 1 false = true := e6
        have f2 : leavP 22 rs 1 false = p := e7
        have f3 : leavA 22 rs 1 false = bits .andNot .u64 pc 3 := e8
        have f4 : (leavL 22 rs 1 false).length = 22 := e9
        have f5 : bitAt ((leavL 22 rs 1 false).getD 0 0) 1 = bitAt (l.getD 0 0) 1 := e10
        rw [f1, f2, f3, f4] at hLV
        have HLV : Hid (∀ (W : World) (a : Option Addr) (c : Nat), Sl .u64 W a rs → Calls Try.prog 24 #[.slice a 22 c, .int .i64 1, .bool false] W fun e w' => ∃ (a' : Option Addr) (c : Nat), e = .returned (.tuple #[.slice a' 22 c, .int .i64 p, .int .u64 (bits .andNot .u64 pc 3), .bool true]) ∧ w'.ownsRow W.heap.size 24 1 (.slice a' 22 c) 22 ((leavL 22 rs 1 false).map (Value.int .u64)) ∧ Below W.heap.size W w') := hLV
        have HF5 : Hid (bitAt ((leavL 22 rs 1 false).getD 0 0) 1 = bitAt (l.getD 0 0) 1) := f5
        have HF4 : Hid ((leavL 22 rs 1 false).length = 22) := f4
        generalize leavL 22 rs 1 false = us at *
        clear hLV f1 f2 f3 f4 f5 e0 e6 e7 e8 e9 e10 hlr hur hokr HRS HNR HRP HRA HOB t1 t2 t3 t4
        have t5 : (p != p) = false := by simp
        have t6 : (bits .andNot .u64 pc 3 != bits .andNot .u64 pc 3) = false := by simp
        go_wp2_with fail
        refine (HK.out _ _ _ (own_sl' og5)).mono ?_
        rintro e w6 ⟨rfl, hb6⟩
        have S6 : Hid (Sl .u64 w6 b l) := S5.out.below hb6
        have B6 : Hid (Below w.heap.size w w6) := below_trans B5.out hb6
        have og6 := ownsRow_below og5 hb6
        clear S5 B5 og5 hb6 HK
        go_wp2_with fail
        refine (HLV.out _ _ _ (own_sl' og6)).mono ?_
        rintro e w7 ⟨au, cu, rfl, ou7, hb7⟩
        obtain ⟨b2, o2, rfl, hb2, hc2⟩ := S6.out 0 (by rw [HLEN.out]; omega)
        have c2 : w7.cell? ⟨b2, o2, none⟩ = some (.int .u64 (l.getD 0 0)) := (hb7.cell (by exact hb2)).trans hc2
        obtain ⟨b1, o1, rfl, hb1, hc1⟩ := (own_sl' ou7) 0 (by rw [HF4.out]; omega)
        have c1 : w7.cell? ⟨b1, o1, none⟩ = some (.int .u64 (us.getD 0 0)) := hc1
        have B7 : Hid (Below w.heap.size w w7) := below_trans B6.out hb7
        have HF6 : Hid (bits .and .u64 (us.getD 0 0 / 2 ^ 1) 1 = bits .and .u64 (l.getD 0 0 / 2 ^ 1) 1) := HF5.out
        clear hc1 hc2 S6 B6 og6 hb7 HLV HF5 HF4 ou7
        generalize us.getD 0 0 = x1 at *
        generalize l.getD 0 0 = x2 at *
        have d5 : (bits .and .u64 (x1 / 2) 1 == bits .and .u64 (x2 / 2) 1) = true := by
          have e : bits .and .u64 (x1 / 2) 1 = bits .and .u64 (x2 / 2) 1 := HF6.out
          rw [e]; exact beq_self_eq_true _
        clear HF6
        go_wp2_with fail
        go_quiet (fail)
        go_wp2_with fail
        go_ret
        exact ⟨rfl, below_dN' B7.out _⟩
      | false =>
        have HQ : rp = 3 := e0
        subst HQ
        have hLV := fun (W : World) (a : Option Addr) (c : Nat) (hs : Sl .u64 W a rs) => implLeave_any a 22 c rs 3 true W hlr hs hur
        have f1 : leavB 22 rs 3 true = true := e6
        have f2 : leavP 22 rs 3 true = p := e7
        have f3 : leavA 22 rs 3 true = bits .andNot .u64 pc 3 := e8
        have f4 : (leavL 22 rs 3 true).length = 22 := e9
        have f5 : bitAt ((leavL 22 rs 3 true).getD 0 0) 3 = bitAt (l.getD 0 0) 3 := e10
        rw [f1, f2, f3, f4] at hLV
        have HLV : Hid (∀ (W : World) (a : Option Addr) (c : Nat), Sl .u64 W a rs → Calls Try.prog 24 #[.slice a 22 c, .int .i64 3, .bool true] W fun e w' => ∃ (a' : Option Addr) (c : Nat), e = .returned (.tuple #[.slice a' 22 c, .int .i64 p, .int .u64 (bits .andNot .u64 pc 3), .bool true]) ∧ w'.ownsRow W.heap.size 24 1 (.slice a' 22 c) 22 ((leavL 22 rs 3 true).map (Value.int .u64)) ∧ Below W.heap.size W w') := hLV
        have HF5 : Hid (bitAt ((leavL 22 rs 3 true).getD 0 0) 3 = bitAt (l.getD 0 0) 3) := f5
        have HF4 : Hid ((leavL 22 rs 3 true).length = 22) := f4
        generalize leavL 22 rs 3 true = us at *
        clear hLV f1 f2 f3 f4 f5 e0 e6 e7 e8 e9 e10 hlr hur hokr HRS HNR HRP HRA HOB t1 t2 t3 t4
        have t5 : (p != p) = false := by simp
        have t6 : (bits .andNot .u64 pc 3 != bits .andNot .u64 pc 3) = false := by simp
        go_wp2_with fail
        refine (HK.out _ _ _ (own_sl' og5)).mono ?_
        rintro e w6 ⟨rfl, hb6⟩
        have S6 : Hid (Sl .u64 w6 b l) := S5.out.below hb6
        have B6 : Hid (Below w.heap.size w w6) := below_trans B5.out hb6
        have og6 := ownsRow_below og5 hb6
        clear S5 B5 og5 hb6 HK
        go_wp2_with fail
        refine (HLV.out _ _ _ (own_sl' og6)).mono ?_
        rintro e w7 ⟨au, cu, rfl, ou7, hb7⟩
        obtain ⟨b2, o2, rfl, hb2, hc2⟩ := S6.out 0 (by rw [HLEN.out]; omega)
        have c2 : w7.cell? ⟨b2, o2, none⟩ = some (.int .u64 (l.getD 0 0)) := (hb7.cell (by exact hb2)).trans hc2
        obtain ⟨b1, o1, rfl, hb1, hc1⟩ := (own_sl' ou7) 0 (by rw [HF4.out]; omega)
        have c1 : w7.cell? ⟨b1, o1, none⟩ = some (.int .u64 (us.getD 0 0)) := hc1
        have B7 : Hid (Below w.heap.size w w7) := below_trans B6.out hb7
        have HF6 : Hid (bits .and .u64 (us.getD 0 0 / 2 ^ 3) 1 = bits .and .u64 (l.getD 0 0 / 2 ^ 3) 1) := HF5.out
        clear hc1 hc2 S6 B6 og6 hb7 HLV HF5 HF4 ou7
        generalize us.getD 0 0 = x1 at *
        generalize l.getD 0 0 = x2 at *
        have d5 : (bits .and .u64 (x1 / 8) 1 == bits .and .u64 (x2 / 8) 1) = true := by
          have e : bits .and .u64 (x1 / 8) 1 = bits .and .u64 (x2 / 8) 1 := HF6.out
          rw [e]; exact beq_self_eq_true _
        clear HF6
        go_wp2_with fail
        go_quiet (fail)
        go_wp2_with fail
        go_ret
        exact ⟨rfl, below_dN' B7.out _⟩

end Go.Proofs.Ytgcbdlfljplkbab.fnTrapped
