/- The walk of laws.FnCsrs: it returns true at every code, and writes nothing that was there. -/
import Derived.Test.YtiefjllidnjbdabLikeC
import Derived.Test.YtiefjllidnjbdabDrawS
import Derived.Test.YtiefjllidnjbdabLawC
import Derived.BigQuiet
namespace Go.Proofs.Ytiefjllidnjbdab.fnCsrs
open Go.RowKit
set_option linter.unusedVariables false

set_option maxHeartbeats 6400000 in
theorem walk (a0 : Option Addr) (len0 cap0 : Nat) (z0 : List Int) (w : World) (w0 : IsRow .u8 w a0 len0 cap0 z0) :
    Calls Try.prog 4 #[.slice a0 len0 cap0] w fun e w' => e = .returned (.bool true) ∧ Below w.heap.size w w' := by
  by_cases hbig : 4096 < len0
  · have hb : decide (4096 < len0) = true := by simpa using hbig
    go_enter Try.func4, Try.ntmps4
    go_wp2_with fail
    refine (big_any a0 len0 cap0 _).mono ?_
    rintro e w1 ⟨rfl, hw1⟩
    subst hw1
    rw [hb]
    go_wp2_with fail
    go_ret
    exact ⟨rfl, Below.refl _ _⟩
  · have hb : decide (4096 < len0) = false := by simpa using hbig
    obtain ⟨zs, hcd⟩ := code_of w0 (by omega)
    have HD : Hid (Code w a0 len0 zs) := hcd
    clear hcd w0 hbig
    go_enter Try.func4, Try.ntmps4
    go_wp2_with fail
    refine (big_any a0 len0 cap0 _).mono ?_
    rintro e w1 ⟨rfl, hw1⟩
    have hw1' := hw1.symm
    subst hw1'
    rw [hb]
    clear hb
    go_wp2_with fail
    refine (DrawWriteCsr_c cap0 _ HD.out).mono ?_
    rintro e w2 ⟨b, m, c, l, n, p, x, rfl, hlen, hm, HU, HSL, _, _, HX, HB2⟩
    -- what the two writes and reads hand back
    have HW : Hid (writeIL m l n p x = writeL m l n p x ∧ writeIB m l n p = wokB m l n p) := ⟨writeL_eq m l hlen HU.out n p x HX.out, writeB_eq m l HU.out n p⟩
    have HR : Hid (readIV m l n p = readO m l n p ∧ readIB m l n p = mayB m l n p) := ⟨readO_eq m l HU.out n p, readB_eq m l HU.out n p⟩
    have HLEN : Hid (l.length = m) := hlen
    go_wp2_with fail
    refine (implWriteCsr_any b m c l n p x _ hlen HSL.out HU.out HX.out.1 HX.out.2).mono ?_
    rw [HW.out.1, HW.out.2]
    rintro e w3 ⟨ag, cg, rfl, og3, hb3⟩
    have S3 : Hid (Sl .u64 w3 b l) := HSL.out.below hb3
    have B3 : Hid (Below w.heap.size w w3) := below_trans HB2.out hb3
    clear HSL hb3 HB2
    go_wp2_with fail
    refine (specWriteCsr_any b m c l n p x _ HLEN.out S3.out).mono ?_
    rintro e w4 ⟨aw, cw, rfl, ow4, hb4⟩
    have S4 : Hid (Sl .u64 w4 b l) := S3.out.below hb4
    have B4 : Hid (Below w.heap.size w w4) := below_trans B3.out hb4
    have og4 := ownsRow_below og3 hb4
    have hL : (writeL m l n p x).length ≤ 1048576 := by
      unfold writeL; split
      · rw [writeV_len]; omega
      · simp
    obtain ⟨rs, hrs⟩ : ∃ rs, rs = writeL m l n p x := ⟨_, rfl⟩
    obtain ⟨nr, hnr⟩ : ∃ nr, nr = rs.length := ⟨_, rfl⟩
    obtain ⟨ob, hob⟩ : ∃ ob, ob = wokB m l n p := ⟨_, rfl⟩
    obtain ⟨rv, hrv⟩ : ∃ rv, rv = readO m l n p := ⟨_, rfl⟩
    obtain ⟨rb, hrb⟩ : ∃ rb, rb = mayB m l n p := ⟨_, rfl⟩
    rw [← hrs, ← hnr] at og4 ow4 hL
    rw [← hrs, ← hnr, ← hob]
    rw [← hrv, ← hrb] at HR
    have HRS : Hid (rs = writeL m l n p x) := hrs
    have HNR : Hid (nr = rs.length) := hnr
    have HOB : Hid (ob = wokB m l n p) := hob
    have HRV : Hid (rv = readO m l n p) := hrv
    have HRB : Hid (rb = mayB m l n p) := hrb
    clear hrs hnr hob hrv hrb og3 S3 B3 hb4 HW hlen
    have t1 : (ob != ob) = false := by simp
    have t2 : decide (rs = rs) = true := by simp
    have t3 : (rb != rb) = false := by simp
    have t4 : (rv != rv) = false := by simp
    go_wp2_with fail
    refine (likeWords_any _ _ nr nr _ _ rs rs w4 HNR.out.symm HNR.out.symm hL hL (own_sl' og4) (own_sl' ow4)).mono ?_
    rintro e w5 ⟨rfl, hb5⟩
    have S5 : Hid (Sl .u64 w5 b l) := S4.out.below hb5
    have B5 : Hid (Below w.heap.size w w5) := below_trans B4.out hb5
    have og5 := ownsRow_below og4 hb5
    clear S4 B4 og4 ow4 hb5
    go_wp2_with fail
    refine (implReadCsr_any b m c l n p _ HLEN.out S5.out HU.out).mono ?_
    rw [HR.out.1, HR.out.2]
    rintro e w6 ⟨rfl, hb6⟩
    have S6 : Hid (Sl .u64 w6 b l) := S5.out.below hb6
    have B6 : Hid (Below w.heap.size w w6) := below_trans B5.out hb6
    have og6 := ownsRow_below og5 hb6
    clear S5 B5 og5 hb6 HR
    go_wp2_with fail
    refine (specReadCsr_any b m c l n p _ HLEN.out S6.out).mono ?_
    rw [← HRV.out, ← HRB.out]
    rintro e w7 ⟨rfl, hb7⟩
    have S7 : Hid (Sl .u64 w7 b l) := S6.out.below hb7
    have B7 : Hid (Below w.heap.size w w7) := below_trans B6.out hb7
    have og7 := ownsRow_below og6 hb7
    clear S6 B6 og6 hb7
    cases ob with
    | false =>
      have hn0 : nr = 0 := by
        rw [HNR.out, HRS.out]; unfold writeL; rw [← HOB.out]; rfl
      subst hn0
      go_wp2_with fail
      go_ret
      exact ⟨rfl, B7.out⟩
    | true =>
      obtain ⟨hm22, hkn, hok, hmay⟩ := wok_parts HOB.out.symm
      subst hm22
      have hr0 : rs = writeV l n x := by rw [HRS.out]; unfold writeL; rw [← HOB.out]; rfl
      have hn22 : nr = 22 := by rw [HNR.out, hr0, writeV_len, HLEN.out]
      subst hn22
      have hrb : rb = true := by rw [HRB.out]; exact hmay
      subst hrb
      have hlr : rs.length = 22 := HNR.out.symm
      have hur : ∀ j, U (rs.getD j 0) := by rw [hr0]; exact U_write l HU.out n x HX.out
      have hokr : csrsOk 22 rs = true := by rw [hr0]; exact write_right l HLEN.out HU.out hok n x HX.out hkn
      have hmr : mayB 22 rs n p = true := may_same hmay hokr
      have hwr : wokB 22 rs n p = true := wok_same HOB.out.symm hokr
      have hrd : readO 22 rs n p = readV rs n := by unfold readO; rw [hmr]; rfl
      have hag : writeL 22 rs n p (readV rs n) = rs := by
        unfold writeL; rw [hwr]; exact write_again rs hlr hur hokr n hkn
      have huv : U (readV rs n) := by
        rw [← hrd, show readO 22 rs n p = readIV 22 rs n p from (readO_eq 22 rs hur n p).symm]
        unfold readIV
        split
        · split
          · exact U_bits _ _ _
          · unfold fixV; split
            · constructor <;> decide
            · exact ⟨by decide, by decide⟩
        · exact ⟨by decide, by decide⟩
      have HI : Hid (∀ (W : World) (a : Option Addr) (c : Nat), Sl .u64 W a rs → Calls Try.prog 14 #[.slice a 22 c, .int .i64 n, .int .i64 p] W fun e w' => e = .returned (.tuple #[.int .u64 (readV rs n), .bool true]) ∧ Below W.heap.size W w') := by
        intro W a c hs
        have h := implReadCsr_any a 22 c rs n p W hlr hs hur
        rw [readO_eq 22 rs hur n p, readB_eq 22 rs hur n p, hmr] at h
        exact h
      have HJ : Hid (∀ (W : World) (a : Option Addr) (c : Nat), Sl .u64 W a rs → Calls Try.prog 11 #[.slice a 22 c, .int .i64 n, .int .i64 p, .int .u64 (readV rs n)] W fun e w' => ∃ (a' : Option Addr) (c' : Nat), e = .returned (.tuple #[.slice a' 22 c', .bool true]) ∧ w'.ownsRow W.heap.size 24 1 (.slice a' 22 c') 22 (rs.map (Value.int .u64)) ∧ Below W.heap.size W w') := by
        intro W a c hs
        have h := implWriteCsr_any a 22 c rs n p (readV rs n) W hlr hs hur huv.1 huv.2
        rw [writeL_eq 22 rs hlr hur n p _ huv, writeB_eq 22 rs hur n p, hag, hwr, hlr] at h
        exact h
      have HK : Hid (∀ (W : World) (a : Option Addr) (c : Nat), Sl .u64 W a rs → Calls Try.prog 17 #[.slice a 22 c] W fun e w' => e = .returned (.bool true) ∧ Below W.heap.size W w') := by
        intro W a c hs
        have h := implCsrsOk_any a 22 c rs W hlr hs hur
        rw [fitsOk_eq 22 rs hur, hokr] at h
        exact h
      have HP : Hid (∀ W, Calls Try.prog 16 #[.int .i64 n] W fun e w' => e = .returned (.int .i64 (placeV n)) ∧ Below W.heap.size W w') := by
        intro W
        have h := implPlace_any n W
        rw [place_eq n 0] at h
        exact h
      have HEL : Hid (∀ i : Nat, (i : Int) ≠ placeV n → rs.getD i 0 = l.getD i 0) := by rw [hr0]; exact write_else l n x hkn
      have HLR : Hid (rs.length = 22) := hlr
      clear hr0 hlr hur hokr hmr hwr hrd hag huv hkn hok hmay HOB HRS HNR HRB HRV HX t1 t3 t4
      generalize readV rs n = yv at *
      generalize placeV n = pl at *
      go_wp2_with fail
      refine (HI.out _ _ _ (own_sl' og7)).mono ?_
      rintro e w8 ⟨rfl, hb8⟩
      have S8 : Hid (Sl .u64 w8 b l) := S7.out.below hb8
      have B8 : Hid (Below w.heap.size w w8) := below_trans B7.out hb8
      have og8 := ownsRow_below og7 hb8
      clear S7 B7 og7 hb8
      go_wp2_with fail
      refine (HJ.out _ _ _ (own_sl' og8)).mono ?_
      rintro e w9 ⟨az, cz, rfl, oz9, hb9⟩
      have S9 : Hid (Sl .u64 w9 b l) := S8.out.below hb9
      have B9 : Hid (Below w.heap.size w w9) := below_trans B8.out hb9
      have og9 := ownsRow_below og8 hb9
      clear S8 B8 og8 hb9
      go_wp2_with fail
      refine (HP.out _).mono ?_
      rintro e w10 ⟨rfl, hb10⟩
      have S10 : Hid (Sl .u64 w10 b l) := S9.out.below hb10
      have B10 : Hid (Below w.heap.size w w10) := below_trans B9.out hb10
      have og10 := ownsRow_below og9 hb10
      have oz10 := ownsRow_below oz9 hb10
      have SR10 : Hid (Sl .u64 w10 ag rs) := own_sl' og10
      have SZ10 : Hid (Sl .u64 w10 az rs) := own_sl' oz10
      clear S9 B9 og9 hb10 og10 oz10 oz9
      go_wp2_with fail
      go_loopw [20] (fun i wr => ∃ k : Nat, k ≤ 22 ∧ i = .int .i64 k ∧ Hid (Below w10.heap.size w10 wr)) (fun i _ => 22 - (intOf i).toNat)
      case atStart => exact ⟨0, by omega, rfl, Below.refl _ _⟩
      case round =>
        obtain ⟨k, hk, rfl, hbel⟩ := hrel
        by_cases hlt : k < 22
        · obtain ⟨b1, o1, rfl, hb1, hc1⟩ := SR10.out k (by rw [HLR.out]; exact hlt)
          obtain ⟨b2, o2, rfl, hb2, hc2⟩ := S10.out k (by rw [HLEN.out]; exact hlt)
          have c1 : wr.cell? ⟨b1, o1 + k, none⟩ = some (.int .u64 (rs.getD k 0)) := (hbel.out.cell (by exact hb1)).trans hc1
          have c2 : wr.cell? ⟨b2, o2 + k, none⟩ = some (.int .u64 (l.getD k 0)) := (hbel.out.cell (by exact hb2)).trans hc2
          have hk0 : (0 : Int) ≤ (k : Int) := by omega
          have hk1 : (k : Int) < 22 := by omega
          clear hc1 hc2
          by_cases hpl : (k : Int) = pl
          · have dn : ((k : Int) != pl) = false := by simp [hpl]
            clear hpl
            go_wp2_with fail
            go_quiet (fail)
            go_wp2_with fail
            go_roundw
            case rel => exact ⟨k + 1, by omega, by go_num, below_dN' hbel.out _⟩
            case measure => simp [intOf]; omega
          · have dn : ((k : Int) != pl) = true := by simpa using hpl
            rw [HEL.out k hpl] at c1
            generalize l.getD k 0 = y at *
            have dy : (y != y) = false := by simp
            clear hpl
            go_wp2_with fail
            go_quiet (fail)
            go_wp2_with fail
            go_roundw
            case rel => exact ⟨k + 1, by omega, by go_num, below_dN' hbel.out _⟩
            case measure => simp [intOf]; omega
        · go_wp2_with fail
          refine (likeWords_any _ _ 22 22 _ _ rs rs wr HLR.out HLR.out (by omega) (by omega) (SZ10.out.below hbel.out) (SR10.out.below hbel.out)).mono ?_
          rintro e w11 ⟨rfl, hb11⟩
          have hb12 := below_trans hbel.out hb11
          go_wp2_with fail
          refine (HK.out _ _ _ (SR10.out.below hb12)).mono ?_
          rintro e w12 ⟨rfl, hb13⟩
          go_wp2_with fail
          go_ret
          exact ⟨rfl, below_trans B10.out (below_trans hb12 hb13)⟩

end Go.Proofs.Ytiefjllidnjbdab.fnCsrs
