/- The walk of laws.FnPermits: it returns true at every code, and writes nothing that was there. -/
import Derived.Test.YtaicnnkcdpdhaacDoorRegM
import Derived.Test.YtaicnnkcdpdhaacDoorRegH
import Derived.Test.YtaicnnkcdpdhaacDoorDrawW
import Derived.Test.YtaicnnkcdpdhaacDoorOwnP
import Derived.Test.YtaicnnkcdpdhaacDoorCsrY
import Derived.Test.YtaicnnkcdpdhaacDoorLawC
import Derived.BigQuiet
namespace Go.Proofs.YtaicnnkcdpdhaacDoor.fnPermits
open Go.RowKit
set_option linter.unusedVariables false

set_option maxRecDepth 100000 in
set_option maxHeartbeats 6400000 in
theorem walk (a0 : Option Addr) (len0 cap0 : Nat) (z0 : List Int) (w : World) (w0 : IsRow .u8 w a0 len0 cap0 z0) (hT : Tab w) :
    Calls Tryd.prog 3 #[.slice a0 len0 cap0] w fun e w' => e = .returned (.bool true) ∧ Below w.heap.size w w' := by
  have HT : Hid (Tab w) := hT
  clear hT
  by_cases hbig : 4096 < len0
  · have hb : decide (4096 < len0) = true := by simpa using hbig
    go_enter Tryd.func3, Tryd.ntmps3
    go_wp2_with fail
    refine (big_any a0 len0 cap0 _).mono ?_
    rintro e w1 ⟨rfl, hw1⟩
    subst hw1
    rw [hb]
    go_wp2_with fail
    go_ret
    exact ⟨rfl, Below.refl _ _⟩
  · have hb : decide (4096 < len0) = false := by simpa using hbig
    obtain ⟨zs, hcd⟩ := code_of w0 (by omega)
    have HD : Hid (Code w a0 len0 zs) := hcd
    clear hcd w0 hbig
    go_enter Tryd.func3, Tryd.ntmps3
    go_wp2_with fail
    refine (big_any a0 len0 cap0 _).mono ?_
    rintro e w1 ⟨rfl, hw1⟩
    have hw1' := hw1.symm
    subst hw1'
    rw [hb]
    clear hb
    go_wp2_with fail
    refine (DrawPermits_c cap0 _ HD.out).mono ?_
    rintro e w2 ⟨b, m, c, l, p, x, s, k, rfl, hlen, hm, HU, HSL, HX, hsw, HB2⟩
    have HLEN : Hid (l.length = m) := hlen
    have HI : Hid (∀ (W : World) (p x s k : Int), Below w.heap.size w W → Sl .u64 W b l → U x → Calls Tryd.prog 6 #[.slice b m c, .int .i64 p, .int .u64 x, .int .i64 s, .int .i64 k] W fun e w' => e = .returned (.bool (permV m l p x s k)) ∧ Below W.heap.size W w') := fun W p x s k hW hs hx => implPermits_any b m c l p x s k W HLEN.out hs HU.out hx (HT.out.below hW)
    have HL : Hid (∀ (W : World), Below w.heap.size w W → Sl .u64 W b l → Calls Tryd.prog 8 #[.slice b m c, .int .u64 x] W fun e w' => e = .returned (.bool (lockedV m l x)) ∧ Below W.heap.size W w') := fun W hW hs => implLocked_any b m c l x W HLEN.out hs HU.out (HT.out.below hW)
    have HSP : Hid (∀ (W : World), Sl .u64 W b l → Calls Tryd.prog 7 #[.slice b m c, .int .i64 p, .int .u64 x, .int .i64 s, .int .i64 k] W fun e w' => e = .returned (.bool (permV m l p x s k)) ∧ w' = W) := fun W hs => specPermits_any b m c l p x s k W HLEN.out hs
    have HSL2 : Hid (∀ (W : World), Sl .u64 W b l → Calls Tryd.prog 9 #[.slice b m c, .int .u64 x] W fun e w' => e = .returned (.bool (lockedV m l x)) ∧ w' = W) := fun W hs => specLocked_any b m c l x W HLEN.out hs
    have HE : Hid (permV m l p x s k = true → ∀ i : Int, 0 ≤ i → i < s → permV m l p (IntKind.u64.wrap (x + i)) 1 k = true) := fun h i h0 h1 => perm_each HX.out h i h0 h1
    have HK : Hid (lockedV m l x = true → permV m l 3 x 1 3 = false ∧ permV m l 0 x 1 3 = false) := fun h => ⟨lock_none 3 HX.out h, lock_none 0 HX.out h⟩
    clear HU hlen hm hsw
    obtain ⟨o1, ho1⟩ : ∃ o1, o1 = permV m l p x s k := ⟨_, rfl⟩
    obtain ⟨o2, ho2⟩ : ∃ o2, o2 = lockedV m l x := ⟨_, rfl⟩
    have HO1 : Hid (o1 = permV m l p x s k) := ho1
    have HO2 : Hid (o2 = lockedV m l x) := ho2
    clear ho1 ho2
    have t1 : (o1 != o1) = false := by simp
    have t2 : (o2 != o2) = false := by simp
    go_wp2_with fail
    refine (HI.out _ p x s k HB2.out HSL.out HX.out).mono ?_
    rw [← HO1.out]
    rintro e w3 ⟨rfl, hb3⟩
    have S3 : Hid (Sl .u64 w3 b l) := HSL.out.below hb3
    have B3 : Hid (Below w.heap.size w w3) := below_trans HB2.out hb3
    clear HSL HB2 hb3
    go_wp2_with fail
    refine (HSP.out _ S3.out).mono ?_
    rw [← HO1.out]
    rintro e w4 ⟨rfl, hw4⟩
    have hw5 := hw4.symm
    subst hw5
    go_wp2_with fail
    refine (HL.out _ B3.out S3.out).mono ?_
    rw [← HO2.out]
    rintro e w6 ⟨rfl, hb6⟩
    have S6 : Hid (Sl .u64 w6 b l) := S3.out.below hb6
    have B6 : Hid (Below w.heap.size w w6) := below_trans B3.out hb6
    clear S3 B3 hb6
    go_wp2_with fail
    refine (HSL2.out _ S6.out).mono ?_
    rw [← HO2.out]
    rintro e w7 ⟨rfl, hw7⟩
    have hw8 := hw7.symm
    subst hw8
    clear HSP HSL2
    go_wp2_with fail
    go_loopw [9] (fun i wr => ∃ q : Nat, i = .int .i64 q ∧ q ≤ 8 ∧ Hid (Sl .u64 wr b l) ∧ Hid (Below w.heap.size w wr)) (fun i _ => 8 - (intOf i).toNat)
    case atStart => exact ⟨0, rfl, by omega, S6, B6⟩
    case round =>
      obtain ⟨q, rfl, hq8, hsr, hbr⟩ := hrel
      by_cases hgo : ((q : Int) < s ∧ s ≤ 8) ∧ o1 = true
      · obtain ⟨⟨h1, h2⟩, rfl⟩ := hgo
        have d1 : decide ((q : Int) < s) = true := decide_eq_true h1
        have d2 : decide (s ≤ 8) = true := decide_eq_true h2
        have f1 : IntKind.u64.wrap (q : Int) = (q : Int) := by rw [IntKind.wrap_u64]; omega
        have HP : Hid (Calls Tryd.prog 6 #[.slice b m c, .int .i64 p, .int .u64 (IntKind.u64.wrap (x + q)), .int .i64 1, .int .i64 k] wr fun e w' => e = .returned (.bool true) ∧ Below wr.heap.size wr w') := by
          have h := HI.out wr p (IntKind.u64.wrap (x + q)) 1 k hbr.out hsr.out (U_wrap _)
          rw [HE.out HO1.out.symm q (by omega) h1] at h
          exact h
        go_wp2_with fail
        refine HP.out.mono ?_
        rintro e w9 ⟨rfl, hb9⟩
        go_wp2_with fail
        go_roundw
        case rel => exact ⟨q + 1, by go_num, by omega, hsr.out.below hb9, below_trans hbr.out hb9⟩
        case measure => simp [intOf]; omega
      · have HFIN : Hid (o2 = true → permV m l 3 x 1 3 = false ∧ permV m l 0 x 1 3 = false) := fun h => HK.out (HO2.out.symm.trans h)
        clear HE HK
        cases h1 : decide ((q : Int) < s) with
        | false =>
          clear hgo
          go_wp2_with fail
          refine (HL.out _ hbr.out hsr.out).mono ?_
          rw [← HO2.out]
          rintro e w9 ⟨rfl, hb9⟩
          have S9 : Hid (Sl .u64 w9 b l) := hsr.out.below hb9
          have B9 : Hid (Below w.heap.size w w9) := below_trans hbr.out hb9
          clear hb9
          cases o2 with
          | false =>
            go_wp2_with fail
            go_ret
            exact ⟨rfl, B9.out⟩
          | true =>
            have q3 := HI.out w9 3 x 1 3 B9.out S9.out HX.out
            rw [(HFIN.out (by first | rfl | trivial)).1] at q3
            have Q3 : Hid (Calls Tryd.prog 6 #[.slice b m c, .int .i64 3, .int .u64 x, .int .i64 1, .int .i64 3] w9 fun e w' => e = .returned (.bool false) ∧ Below w9.heap.size w9 w') := q3
            clear q3
            go_wp2_with fail
            refine Q3.out.mono ?_
            rintro e w10 ⟨rfl, hb10⟩
            have S10 : Hid (Sl .u64 w10 b l) := S9.out.below hb10
            have B10 : Hid (Below w.heap.size w w10) := below_trans B9.out hb10
            have q0 := HI.out w10 0 x 1 3 B10.out S10.out HX.out
            rw [(HFIN.out (by first | rfl | trivial)).2] at q0
            have Q0 : Hid (Calls Tryd.prog 6 #[.slice b m c, .int .i64 0, .int .u64 x, .int .i64 1, .int .i64 3] w10 fun e w' => e = .returned (.bool false) ∧ Below w10.heap.size w10 w') := q0
            clear q0 Q3 hb10
            go_wp2_with fail
            refine Q0.out.mono ?_
            rintro e w11 ⟨rfl, hb11⟩
            go_wp2_with fail
            go_ret
            exact ⟨rfl, below_trans B10.out hb11⟩
        | true =>
          cases h2 : decide (s ≤ 8) with
          | false =>
            clear hgo
            go_wp2_with fail
            refine (HL.out _ hbr.out hsr.out).mono ?_
            rw [← HO2.out]
            rintro e w9 ⟨rfl, hb9⟩
            have S9 : Hid (Sl .u64 w9 b l) := hsr.out.below hb9
            have B9 : Hid (Below w.heap.size w w9) := below_trans hbr.out hb9
            clear hb9
            cases o2 with
            | false =>
              go_wp2_with fail
              go_ret
              exact ⟨rfl, B9.out⟩
            | true =>
              have q3 := HI.out w9 3 x 1 3 B9.out S9.out HX.out
              rw [(HFIN.out (by first | rfl | trivial)).1] at q3
              have Q3 : Hid (Calls Tryd.prog 6 #[.slice b m c, .int .i64 3, .int .u64 x, .int .i64 1, .int .i64 3] w9 fun e w' => e = .returned (.bool false) ∧ Below w9.heap.size w9 w') := q3
              clear q3
              go_wp2_with fail
              refine Q3.out.mono ?_
              rintro e w10 ⟨rfl, hb10⟩
              have S10 : Hid (Sl .u64 w10 b l) := S9.out.below hb10
              have B10 : Hid (Below w.heap.size w w10) := below_trans B9.out hb10
              have q0 := HI.out w10 0 x 1 3 B10.out S10.out HX.out
              rw [(HFIN.out (by first | rfl | trivial)).2] at q0
              have Q0 : Hid (Calls Tryd.prog 6 #[.slice b m c, .int .i64 0, .int .u64 x, .int .i64 1, .int .i64 3] w10 fun e w' => e = .returned (.bool false) ∧ Below w10.heap.size w10 w') := q0
              clear q0 Q3 hb10
              go_wp2_with fail
              refine Q0.out.mono ?_
              rintro e w11 ⟨rfl, hb11⟩
              go_wp2_with fail
              go_ret
              exact ⟨rfl, below_trans B10.out hb11⟩
          | true =>
            have ho : o1 = false := by
              cases o1 with
              | false => rfl
              | true => exact absurd ⟨⟨of_decide_eq_true h1, of_decide_eq_true h2⟩, rfl⟩ hgo
            subst ho
            clear hgo
            go_wp2_with fail
            refine (HL.out _ hbr.out hsr.out).mono ?_
            rw [← HO2.out]
            rintro e w9 ⟨rfl, hb9⟩
            have S9 : Hid (Sl .u64 w9 b l) := hsr.out.below hb9
            have B9 : Hid (Below w.heap.size w w9) := below_trans hbr.out hb9
            clear hb9
            cases o2 with
            | false =>
              go_wp2_with fail
              go_ret
              exact ⟨rfl, B9.out⟩
            | true =>
              have q3 := HI.out w9 3 x 1 3 B9.out S9.out HX.out
              rw [(HFIN.out (by first | rfl | trivial)).1] at q3
              have Q3 : Hid (Calls Tryd.prog 6 #[.slice b m c, .int .i64 3, .int .u64 x, .int .i64 1, .int .i64 3] w9 fun e w' => e = .returned (.bool false) ∧ Below w9.heap.size w9 w') := q3
              clear q3
              go_wp2_with fail
              refine Q3.out.mono ?_
              rintro e w10 ⟨rfl, hb10⟩
              have S10 : Hid (Sl .u64 w10 b l) := S9.out.below hb10
              have B10 : Hid (Below w.heap.size w w10) := below_trans B9.out hb10
              have q0 := HI.out w10 0 x 1 3 B10.out S10.out HX.out
              rw [(HFIN.out (by first | rfl | trivial)).2] at q0
              have Q0 : Hid (Calls Tryd.prog 6 #[.slice b m c, .int .i64 0, .int .u64 x, .int .i64 1, .int .i64 3] w10 fun e w' => e = .returned (.bool false) ∧ Below w10.heap.size w10 w') := q0
              clear q0 Q3 hb10
              go_wp2_with fail
              refine Q0.out.mono ?_
              rintro e w11 ⟨rfl, hb11⟩
              go_wp2_with fail
              go_ret
              exact ⟨rfl, below_trans B10.out hb11⟩

end Go.Proofs.YtaicnnkcdpdhaacDoor.fnPermits
