/- The walk of laws.FnStored: it returns true at every code, and writes nothing that was there. -/
import Derived.Test.YtiefjllidnjbdaaStoC
import Derived.Test.YtiefjllidnjbdaaLawC
import Derived.BigQuiet
namespace Go.Proofs.Ytiefjllidnjbdaa.fnStored
open Go.RowKit
set_option linter.unusedVariables false

theorem below_d {B : Nat} {a w : World} (h : Below B a w) (n : Nat) : Below B a (w.drewN n) := ⟨h.os, h.tape, h.output, h.size, h.block⟩

set_option maxRecDepth 20000 in
set_option maxHeartbeats 6400000 in
theorem walk (a0 : Option Addr) (len0 cap0 : Nat) (z0 : List Int) (w : World) (w0 : IsRow .u8 w a0 len0 cap0 z0) :
    Calls Try.prog 3 #[.slice a0 len0 cap0] w fun e w' => e = .returned (.bool true) ∧ Below w.heap.size w w' := by
  by_cases hbig : 4096 < len0
  · have hb : decide (4096 < len0) = true := by simpa using hbig
    go_enter Try.func3, Try.ntmps3
    go_wp2_with fail
    refine (big_any a0 len0 cap0 _).mono ?_
    rintro e w1 ⟨rfl, hw1⟩
    subst hw1
    rw [hb]
    go_wp2_with fail
    go_ret
    exact ⟨rfl, Below.refl _ _⟩
  · have hb : decide (4096 < len0) = false := by simpa using hbig
    obtain ⟨zs, hcd⟩ := code_of w0 (by omega)
    have HD : Hid (Code w a0 len0 zs) := hcd
    clear hcd w0 hbig
    go_enter Try.func3, Try.ntmps3
    go_wp2_with fail
    refine (big_any a0 len0 cap0 _).mono ?_
    rintro e w1 ⟨rfl, hw1⟩
    have hw1' := hw1.symm
    subst hw1'
    rw [hb]
    clear hb
    go_wp2_with fail
    refine (DrawStore_c cap0 _ HD.out).mono ?_
    rintro e w2 ⟨b, m, l, ad, sz, x, rfl, hl, hm, HW, HSL, hA, hsz, hX, HB2⟩
    cases hok : okB m ad sz with
    | false =>
      have HL : Hid (l.length = m) := hl
      have hS0 : storeB l m ad sz x = [] := by simp [storeB, hok]
      have HI : Hid (∀ W : World, Sl .u8 W (some ⟨b, 0, none⟩) l → Calls Try.prog 10 #[.slice (some ⟨b, 0, none⟩) m m, .int .u64 ad, .int .i64 sz, .int .u64 x] W fun e w' => ∃ (a' : Option Addr) (c : Nat), e = .returned (.tuple #[.slice a' 0 c, .bool false]) ∧ Below W.heap.size W w') := by
        intro W hs
        have h := implStore_any (some ⟨b, 0, none⟩) m m l ad sz x W hl (by omega) hs hA.1 (by have := hA.2; omega) hX.1 (by have := hX.2; omega)
        refine h.mono fun e w' ⟨a', c, h1, h2, h3⟩ => ⟨a', c, ?_, h3⟩
        rw [h1, hok]; simp [storeLen, hS0]
      have HJ : Hid (∀ W : World, Sl .u8 W (some ⟨b, 0, none⟩) l → Calls Try.prog 11 #[.slice (some ⟨b, 0, none⟩) m m, .int .u64 ad, .int .i64 sz, .int .u64 x] W fun e w' => ∃ (a' : Option Addr) (c : Nat), e = .returned (.tuple #[.slice a' 0 c, .bool false]) ∧ Below W.heap.size W w') := by
        intro W hs
        have h := specStore_any (some ⟨b, 0, none⟩) m m l ad sz x W hl (by omega) hs hA.1 (by have := hA.2; omega) hX.1 (by have := hX.2; omega)
        refine h.mono fun e w' ⟨a', c, h1, h2, h3⟩ => ⟨a', c, ?_, h3⟩
        rw [h1, hok]; simp [storeLen, hS0]
      clear hS0 hok hA hX hsz hl
      go_wp2_with fail
      refine (HI.out _ HSL.out).mono ?_
      rintro e w3 ⟨a3, c3, rfl, hb3⟩
      go_wp2_with fail
      refine (HJ.out _ (HSL.out.below hb3)).mono ?_
      rintro e w4 ⟨a4, c4, rfl, hb4⟩
      have cv1 := conv_sl a3 0 c3 [] w4 rfl (fun i hi => absurd hi (by simp))
      have cv2 := conv_sl a4 0 c4 [] w4 rfl (fun i hi => absurd hi (by simp))
      generalize strOfNums [] = s0 at *
      have B4 : Hid (Below w.heap.size w w4) := below_trans HB2.out (below_trans hb3 hb4)
      clear hb3 hb4 HB2 HI HJ
      go_wp2_with fail
      go_ret
      exact ⟨rfl, B4.out⟩
    | true =>
      obtain ⟨hr, hsb, hb1, hb2, hs1, hs2, hn1, hn2⟩ := okB_true hok
      obtain ⟨f, hf⟩ : ∃ f : Nat, ad = 2147483648 + (f : Int) := ⟨(ad - 2147483648).toNat, by omega⟩
      obtain ⟨k, hk⟩ : ∃ k : Nat, sz = (k : Int) := ⟨sz.toNat, by omega⟩
      subst hf hk
      have hfk : f + k ≤ m := by omega
      have hk1 : 1 ≤ k := by omega
      have hk8 : k ≤ 8 := by omega
      have hSB : storeB l m (2147483648 + (f : Int)) (k : Int) x = put l f x k := by
        simp only [storeB, hok, if_true]
        rw [show (2147483648 + (f : Int) - 2147483648).toNat = f from by omega, Int.toNat_natCast]
      obtain ⟨S, hS⟩ : ∃ S, S = put l f x k := ⟨_, rfl⟩
      have hSl : S.length = m := by rw [hS, put_len, hl]
      have hSW : ∀ y ∈ S, (Lit.int .u8 y).wf = true := by
        intro y hy
        rw [hS] at hy
        have := put_bd l (fun z hz => by simpa [Lit.wf, IntKind.min, IntKind.max, IntKind.signed, IntKind.bits] using HW.out z hz) f x k y hy
        exact wf8 this.1 this.2
      have hLd : loadB S m (2147483648 + (f : Int)) (k : Int) = x % 256 ^ k := by
        simp only [loadB, hok, if_true]
        rw [show (2147483648 + (f : Int) - 2147483648).toNat = f from by omega, Int.toNat_natCast, hS]
        exact le_put l f k x (by omega)
      have hT : S.take f = l.take f := by rw [hS]; exact put_take l f x k
      have hDr : S.drop (f + k) = l.drop (f + k) := by rw [hS]; exact put_drop l f x k k (Nat.le_refl _)
      have HI : Hid (∀ W : World, Sl .u8 W (some ⟨b, 0, none⟩) l → Calls Try.prog 10 #[.slice (some ⟨b, 0, none⟩) m m, .int .u64 (2147483648 + (f : Int)), .int .i64 (k : Int), .int .u64 x] W fun e w' => e = .returned (.tuple #[.slice (some ⟨W.heap.size, 0, none⟩) m m, .bool true]) ∧ w'.ownsRow W.heap.size 5 1 (.slice (some ⟨W.heap.size, 0, none⟩) m m) m (S.map (Value.int .u8)) ∧ Below W.heap.size W w') := by
        intro W hs
        rw [hS]
        exact implStore_n (some ⟨b, 0, none⟩) m m f k l x W hl (by omega) hs hok hX.1 (by have := hX.2; omega)
      have HJ : Hid (∀ W : World, Sl .u8 W (some ⟨b, 0, none⟩) l → Calls Try.prog 11 #[.slice (some ⟨b, 0, none⟩) m m, .int .u64 (2147483648 + (f : Int)), .int .i64 (k : Int), .int .u64 x] W fun e w' => ∃ (a' : Option Addr) (c : Nat), e = .returned (.tuple #[.slice a' m c, .bool true]) ∧ Sl .u8 w' a' S ∧ Below W.heap.size W w') := by
        intro W hs
        have h := specStore_any (some ⟨b, 0, none⟩) m m l (2147483648 + (f : Int)) (k : Int) x W hl (by omega) hs hA.1 (by have := hA.2; omega) hX.1 (by have := hX.2; omega)
        have e1 : storeLen l m (2147483648 + (f : Int)) (k : Int) x = m := by rw [storeLen, hSB, put_len, hl]
        rw [e1, hok, hSB, ← hS] at h
        exact h.mono fun e w' ⟨a', c, h1, h2, h3⟩ => ⟨a', c, h1, own_sl' h2, h3⟩
      have HK : Hid (∀ (W : World) (g : Nat), Sl .u8 W (some ⟨g, 0, none⟩) S → Calls Try.prog 12 #[.slice (some ⟨g, 0, none⟩) m m, .int .u64 (2147483648 + (f : Int)), .int .i64 (k : Int)] W fun e w' => e = .returned (.tuple #[.int .u64 (x % 256 ^ k), .bool true]) ∧ Below W.heap.size W w') := by
        intro W g hs
        have h := implLoad_any g m m S (2147483648 + (f : Int)) (k : Int) W hSl (by omega) hs hSW (Nat.le_refl _) (by omega) hA.1 (by have := hA.2; omega)
        rw [hLd, hok] at h
        exact h
      have e8 : (((8 * k : Nat)) : Int) = 8 * (k : Int) := by simp
      have HW1 : Hid (∀ W : World, Calls Try.prog 13 #[.int .u64 (x % 256 ^ k), .int .i64 (8 * (k : Int))] W fun e w' => e = .returned (.int .u64 (widen (8 * k) x)) ∧ w' = W) := by
        intro W
        have h := implWiden_any (x % 256 ^ k) (8 * k) (by omega) (by omega) W
        rw [widen_low k hk1 hk8 x, e8] at h
        exact h
      have HW2 : Hid (∀ W : World, Calls Try.prog 13 #[.int .u64 x, .int .i64 (8 * (k : Int))] W fun e w' => e = .returned (.int .u64 (widen (8 * k) x)) ∧ w' = W) := by
        intro W
        have h := implWiden_any x (8 * k) (by omega) (by omega) W
        rw [e8] at h
        exact h
      have HG1 : Hid (∀ (W : World) (g : Nat), Sl .u8 W (some ⟨g, 0, none⟩) S → Calls Try.prog 14 #[.slice (some ⟨g, 0, none⟩) m m] W fun e w' => e = .returned (.int .i64 (digB m S)) ∧ w' = W) := fun W g hs => implDigest_any _ m m S W hSl (by omega) hs hSW
      have HG2 : Hid (∀ (W : World), Sl .u8 W (some ⟨b, 0, none⟩) l → Calls Try.prog 14 #[.slice (some ⟨b, 0, none⟩) m m] W fun e w' => e = .returned (.int .i64 (digB m l)) ∧ w' = W) := fun W hs => implDigest_any _ m m l W hl (by omega) hs HW.out
      have HDG : Hid ((digB m S == digB m l) = false → ((strOfNums S).toList == (strOfNums l).toList) = false) := by
        intro h
        rw [beq_eq_false_iff_ne] at h ⊢
        intro e
        rw [ByteArray.toList_eq, ByteArray.toList_eq] at e
        exact h (by rw [str_inj hSW HW.out (ByteArray.ext (Array.toList_inj.mp e))])
      have HL : Hid (l.length = m ∧ S.length = m ∧ S.take f = l.take f ∧ S.drop (f + k) = l.drop (f + k)) := ⟨hl, hSl, hT, hDr⟩
      generalize x % 256 ^ k = y at *
      generalize widen (8 * k) x = wd at *
      generalize digB m S = d1 at *
      generalize digB m l = d2 at *
      have hww : (wd == wd) = true := by simp
      clear e8 hS hSl hSW hLd hT hDr hSB hok hl hr hsb hA hX hsz hb1 hb2 hs1 hs2 hn1
      go_wp2_with fail
      refine (HI.out _ HSL.out).mono ?_
      rintro e w3 ⟨rfl, og3, hb3⟩
      have SL3 : Hid (Sl .u8 w3 (some ⟨b, 0, none⟩) l) := HSL.out.below hb3
      have SS3 : Hid (Sl .u8 w3 (some ⟨w2.heap.size, 0, none⟩) S) := own_sl og3
      have B3 : Hid (Below w.heap.size w w3) := below_trans HB2.out hb3
      clear HSL og3 hb3 HB2 HI
      generalize w2.heap.size = gs at *
      go_wp2_with fail
      refine (HJ.out _ SL3.out).mono ?_
      rintro e w4 ⟨a4, c4, rfl, hs4, hb4⟩
      have SL4 : Hid (Sl .u8 w4 (some ⟨b, 0, none⟩) l) := SL3.out.below hb4
      have SS4 : Hid (Sl .u8 w4 (some ⟨gs, 0, none⟩) S) := SS3.out.below hb4
      have B4 : Hid (Below w.heap.size w w4) := below_trans B3.out hb4
      have cv1 := conv_sl (some ⟨gs, 0, none⟩) m m S w4 HL.out.2.1 SS4.out
      have cv2 := conv_sl a4 m c4 S w4 HL.out.2.1 hs4
      clear SL3 SS3 B3 hb4 HJ hs4
      obtain ⟨sS, hsS⟩ : ∃ sS, strOfNums S = sS := ⟨_, rfl⟩
      rw [hsS] at cv1 cv2 HDG
      go_wp2_with fail
      refine (HK.out _ gs SS4.out).mono ?_
      rintro e w5 ⟨rfl, hb5⟩
      have SL5 : Hid (Sl .u8 w5 (some ⟨b, 0, none⟩) l) := SL4.out.below hb5
      have SS5 : Hid (Sl .u8 w5 (some ⟨gs, 0, none⟩) S) := SS4.out.below hb5
      have B5 : Hid (Below w.heap.size w w5) := below_trans B4.out hb5
      clear SL4 SS4 B4 hb5 HK cv1 cv2
      have hat : 2147483648 + (f : Int) - 2147483648 = (f : Int) := by omega
      have hlt1 : (f : Int) ≤ (m : Int) := by omega
      have hlt2 : (f : Int) + (k : Int) ≤ (m : Int) := by omega
      have hmm : ((m : Int) != (m : Int)) = false := by simp
      have hTl : (l.take f).length = f := by rw [List.length_take]; have := HL.out.1; omega
      have hDl : (l.drop (f + k)).length = m - (f + k) := by rw [List.length_drop]; have := HL.out.1; omega
      have v1 : ∀ q, (convert 22 9 (.slice (some ⟨gs, 0, none⟩) f m)).run Try.prog (w5.drewN q) = .ok (.string (strOfNums (l.take f))) (w5.drewN q) := fun q => by
        have h := SS5.out.first f
        rw [HL.out.2.2.1] at h
        exact conv_sl _ _ _ _ _ hTl (h.dN q)
      have v2 : ∀ q, (convert 22 9 (.slice (some ⟨b, 0, none⟩) f m)).run Try.prog (w5.drewN q) = .ok (.string (strOfNums (l.take f))) (w5.drewN q) := fun q => conv_sl _ _ _ _ _ hTl ((SL5.out.first f).dN q)
      have v3 : ∀ q c, (convert 22 9 (.slice (some ⟨gs, f + k, none⟩) (m - (f + k)) c)).run Try.prog (w5.drewN q) = .ok (.string (strOfNums (l.drop (f + k)))) (w5.drewN q) := fun q c => by
        have h := SS5.out.from (f + k)
        rw [HL.out.2.2.2, Nat.zero_add] at h
        exact conv_sl _ _ _ _ _ hDl (h.dN q)
      have v4 : ∀ q c, (convert 22 9 (.slice (some ⟨b, f + k, none⟩) (m - (f + k)) c)).run Try.prog (w5.drewN q) = .ok (.string (strOfNums (l.drop (f + k)))) (w5.drewN q) := fun q c => by
        have h := SL5.out.from (f + k)
        rw [Nat.zero_add] at h
        exact conv_sl _ _ _ _ _ hDl (h.dN q)
      have v5 : ∀ q, (convert 22 9 (.slice (some ⟨gs, 0, none⟩) m m)).run Try.prog (w5.drewN q) = .ok (.string (strOfNums S)) (w5.drewN q) := fun q => conv_sl _ _ _ _ _ HL.out.2.1 (SS5.out.dN q)
      have v6 : ∀ q, (convert 22 9 (.slice (some ⟨b, 0, none⟩) m m)).run Try.prog (w5.drewN q) = .ok (.string (strOfNums l)) (w5.drewN q) := fun q => conv_sl _ _ _ _ _ HL.out.1 (SL5.out.dN q)
      have vE : ∀ (q c : Nat) (p : Option Addr), (convert 22 9 (.slice p 0 c)).run Try.prog (w5.drewN q) = .ok (.string (strOfNums [])) (w5.drewN q) := fun q c p => conv_sl _ _ _ _ _ rfl (fun i hi => absurd hi (by simp))
      rw [hsS] at v5
      clear hsS
      obtain ⟨sL, hsL⟩ : ∃ sL, strOfNums l = sL := ⟨_, rfl⟩
      rw [hsL] at v6 HDG
      clear hsL
      generalize strOfNums (l.take f) = sA at *
      generalize strOfNums [] = sE at *
      generalize strOfNums (l.drop (f + k)) = sB at *
      clear hTl hDl HL
      by_cases hfull : m = f + k
      · subst hfull
        clear v3 v4
        go_wp2_with fail
        go_quiet (fail)
        go_wp2_with fail
        refine (HW1.out _).mono ?_
        rintro e w6 ⟨rfl, hw6⟩
        have hw6' := hw6.symm
        subst hw6'
        go_wp2_with fail
        refine (HW2.out _).mono ?_
        rintro e w7 ⟨rfl, hw7⟩
        have hw7' := hw7.symm
        subst hw7'
        go_wp2_with fail
        refine (HG1.out _ gs (SS5.out.dN _)).mono ?_
        rintro e w8 ⟨rfl, hw8⟩
        have hw8' := hw8.symm
        subst hw8'
        go_wp2_with fail
        refine (HG2.out _ (SL5.out.dN _)).mono ?_
        rintro e w9 ⟨rfl, hw9⟩
        have hw9' := hw9.symm
        subst hw9'
        cases hdd : (d1 == d2) with
        | true =>
          clear v5 v6
          go_wp2_with fail
          go_ret
          exact ⟨rfl, below_d B5.out _⟩
        | false =>
          have hst := HDG.out hdd
          go_wp2_with fail
          go_ret
          exact ⟨rfl, below_d B5.out _⟩
      · have hfull2 : ¬ (m = f + k) := hfull
        clear vE
        go_wp2_with fail
        go_quiet (fail)
        go_wp2_with fail
        refine (HW1.out _).mono ?_
        rintro e w6 ⟨rfl, hw6⟩
        have hw6' := hw6.symm
        subst hw6'
        go_wp2_with fail
        refine (HW2.out _).mono ?_
        rintro e w7 ⟨rfl, hw7⟩
        have hw7' := hw7.symm
        subst hw7'
        go_wp2_with fail
        refine (HG1.out _ gs (SS5.out.dN _)).mono ?_
        rintro e w8 ⟨rfl, hw8⟩
        have hw8' := hw8.symm
        subst hw8'
        go_wp2_with fail
        refine (HG2.out _ (SL5.out.dN _)).mono ?_
        rintro e w9 ⟨rfl, hw9⟩
        have hw9' := hw9.symm
        subst hw9'
        cases hdd : (d1 == d2) with
        | true =>
          clear v5 v6
          go_wp2_with fail
          go_ret
          exact ⟨rfl, below_d B5.out _⟩
        | false =>
          have hst := HDG.out hdd
          go_wp2_with fail
          go_ret
          exact ⟨rfl, below_d B5.out _⟩

end Go.Proofs.Ytiefjllidnjbdaa.fnStored
