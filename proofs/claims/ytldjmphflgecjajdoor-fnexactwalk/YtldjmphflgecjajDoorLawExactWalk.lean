/- The walk of laws.FnExactWalk: it returns true at every memory, list of words, privilege, address and kind, and writes nothing that was there. By tools/genLawEW.py. -/
import Derived.Test.YtldjmphflgecjajDoorWalkO
import Derived.Test.YtldjmphflgecjajDoorCsrE
namespace Go.Proofs.YtldjmphflgecjajDoor.fnExactWalk
open Go.RowKit
set_option linter.unusedVariables false

theorem walkB_len (zs : List Int) (n m : Nat) (l : List Int) (p va kind : Int) (hz : zs.length = n) (hn : n ≤ 1048576) : (walkB zs n m l p va kind).length ≤ 1048576 := by
  unfold walkB
  split
  · rw [mark_len, hz]; exact hn
  · simp

theorem u64_U {x : Int} (h : (Lit.int .u64 x).wf = true) : U x := by
  have := word_bd (zs := [x]) (by intro y hy; simp at hy; subst hy; exact h) 0
  simpa using this

set_option maxRecDepth 100000 in
set_option maxHeartbeats 6400000 in
theorem walk (a0 : Option Addr) (len0 cap0 : Nat) (z0 : List Int) (a1 : Option Addr) (len1 cap1 : Nat) (z1 : List Int) (a2 : Int) (a3 : Int) (a4 : Int) (w : World) (w0 : IsRow .u8 w a0 len0 cap0 z0) (w1 : IsRow .u64 w a1 len1 cap1 z1) (w2 : (Lit.int .i64 a2).wf = true) (w3 : (Lit.int .u64 a3).wf = true) (w4 : (Lit.int .i64 a4).wf = true) (hT : Tab w) :
    Calls Tryd.prog 6 #[.slice a0 len0 cap0, .slice a1 len1 cap1, .int .i64 a2, .int .u64 a3, .int .i64 a4] w fun e w' => e = .returned (.bool true) ∧ Below w.heap.size w w' := by
  obtain ⟨zs, hz, hs, hw, hm⟩ := w0.sl
  obtain ⟨ls, hlz, hls, hlw, hlm⟩ := w1.sl
  have HW : Hid (∀ y ∈ zs, (Lit.int .u8 y).wf = true) := hw
  have HL : Hid (∀ j, U (ls.getD j 0)) := word_bd hlw
  have HX : Hid (U a3) := u64_U w3
  have HT : Hid (Tab w) := hT
  clear w0 w1 w2 w3 w4 hw hlw hT
  unfold maxLen at hm hlm
  by_cases hbig : 1048576 < len0
  · have hb : (1048576 : Int) < (len0 : Int) := by omega
    go_enter Tryd.func6, Tryd.ntmps6
    go_wp2_with fail
    go_ret
    exact ⟨rfl, Below.refl _ _⟩
  · have hn : len0 ≤ 1048576 := by omega
    have hb : ¬ (1048576 : Int) < (len0 : Int) := by omega
    by_cases hbig2 : 1048576 < len1
    · have hb2 : (1048576 : Int) < (len1 : Int) := by omega
      go_enter Tryd.func6, Tryd.ntmps6
      go_wp2_with fail
      go_ret
      exact ⟨rfl, Below.refl _ _⟩
    · have hln : len1 ≤ 1048576 := by omega
      have hb2 : ¬ (1048576 : Int) < (len1 : Int) := by omega
      have hV := walkB_len zs len0 len1 ls a2 a3 a4 hz hn
      have tz : decide (zs = zs) = true := by simp
      have tl : decide (ls = ls) = true := by simp
      have tr : decide ((walkB zs len0 len1 ls a2 a3 a4) = (walkB zs len0 len1 ls a2 a3 a4)) = true := by simp
      have ta : (walkA zs len0 len1 ls a2 a3 a4 != walkA zs len0 len1 ls a2 a3 a4) = false := by simp
      have tc : (walkC zs len0 len1 ls a2 a3 a4 != walkC zs len0 len1 ls a2 a3 a4) = false := by simp
      go_enter Tryd.func6, Tryd.ntmps6
      go_wp2_with fail
      refine (toByteS_any a0 len0 cap0 zs _ hz hn (hs.below (Below.refl _ _))).mono ?_
      rintro e w1 ⟨rfl, oA1, hb1⟩
      have B1 : Below w.heap.size w w1 := hb1
      have m1 : w.heap.size ≤ w1.heap.size := hb1.size
      have loA := fun k hk => (oA1.lt k hk).1
      have hiA := fun k hk => (oA1.lt k hk).2
      go_wp2_with fail
      refine (toUint64S_any a1 len1 cap1 ls _ hlz hln (hls.below B1)).mono ?_
      rintro e w2 ⟨rfl, oL2, hb2⟩
      have B2 : Below w.heap.size w w2 := below_trans B1 hb2
      have m2 : w1.heap.size ≤ w2.heap.size := hb2.size
      have oA2 := ownsRow_below oA1 hb2
      have loL := fun k hk => (oL2.lt k hk).1
      have hiL := fun k hk => (oL2.lt k hk).2
      go_wp2_with fail
      refine (specWalk_any _ _ _ zs _ _ _ ls a2 a3 a4 _ hz hn (own_sl oA2) HW.out hlz (own_sl oL2) HX.out).mono ?_
      rintro e w3 ⟨aW, cW, rfl, oW3, hb3⟩
      have B3 : Below w.heap.size w w3 := below_trans B2 hb3
      have m3 : w2.heap.size ≤ w3.heap.size := hb3.size
      have oA3 := ownsRow_below oA2 hb3
      have oL3 := ownsRow_below oL2 hb3
      have loW := fun k hk => (oW3.lt k hk).1
      have hiW := fun k hk => (oW3.lt k hk).2
      go_wp2_with fail
      refine (toByteS_any a0 len0 cap0 zs _ hz hn (hs.below B3)).mono ?_
      rintro e w4 ⟨rfl, oX4, hb4⟩
      have B4 : Below w.heap.size w w4 := below_trans B3 hb4
      have m4 : w3.heap.size ≤ w4.heap.size := hb4.size
      have oW4 := ownsRow_below oW3 hb4
      have loX := fun k hk => (oX4.lt k hk).1
      have hiX := fun k hk => (oX4.lt k hk).2
      go_wp2_with fail
      refine (toUint64S_any a1 len1 cap1 ls _ hlz hln (hls.below B4)).mono ?_
      rintro e w5 ⟨rfl, oY5, hb5⟩
      have B5 : Below w.heap.size w w5 := below_trans B4 hb5
      have m5 : w4.heap.size ≤ w5.heap.size := hb5.size
      have oW5 := ownsRow_below oW4 hb5
      have oX5 := ownsRow_below oX4 hb5
      have loY := fun k hk => (oY5.lt k hk).1
      have hiY := fun k hk => (oY5.lt k hk).2
      go_wp2_with fail
      refine (implWalk_any _ _ _ zs _ _ _ ls a2 a3 a4 _ hz hn (own_sl oX5) HW.out hlz (own_sl oY5) HL.out HX.out (HT.out.below B5) (own_good oX5)).mono ?_
      rintro e w6 ⟨aG, cG, rfl, oG6, hb6⟩
      have B6 : Below w.heap.size w w6 := below_trans B5 hb6
      have m6 : w5.heap.size ≤ w6.heap.size := hb6.size
      have oW6 := ownsRow_below oW5 hb6
      have oX6 := ownsRow_below oX5 hb6
      have oY6 := ownsRow_below oY5 hb6
      have loG := fun k hk => (oG6.lt k hk).1
      have hiG := fun k hk => (oG6.lt k hk).2
      go_wp2_with fail
      refine (eqByteS_any _ _ _ _ _ _ (walkB zs len0 len1 ls a2 a3 a4) (walkB zs len0 len1 ls a2 a3 a4) _ rfl rfl hV hV (own_sl' oG6) (own_sl' oW6)).mono ?_
      rintro e w7 ⟨rfl, hb7⟩
      have B7 : Below w.heap.size w w7 := below_trans B6 hb7
      have m7 : w6.heap.size ≤ w7.heap.size := hb7.size
      have oW7 := ownsRow_below oW6 hb7
      have oX7 := ownsRow_below oX6 hb7
      have oY7 := ownsRow_below oY6 hb7
      have oG7 := ownsRow_below oG6 hb7
      go_wp2_with fail
      refine (toByteS_any a0 len0 cap0 zs _ hz hn (hs.below B7)).mono ?_
      rintro e w8 ⟨rfl, oZ8, hb8⟩
      have B8 : Below w.heap.size w w8 := below_trans B7 hb8
      have m8 : w7.heap.size ≤ w8.heap.size := hb8.size
      have oW8 := ownsRow_below oW7 hb8
      have oX8 := ownsRow_below oX7 hb8
      have oY8 := ownsRow_below oY7 hb8
      have oG8 := ownsRow_below oG7 hb8
      have loZ := fun k hk => (oZ8.lt k hk).1
      have hiZ := fun k hk => (oZ8.lt k hk).2
      go_wp2_with fail
      refine (eqByteS_any _ _ len0 len0 _ _ zs zs _ hz hz hn hn (own_sl oX8) (own_sl oZ8)).mono ?_
      rintro e w9 ⟨rfl, hb9⟩
      have B9 : Below w.heap.size w w9 := below_trans B8 hb9
      have m9 : w8.heap.size ≤ w9.heap.size := hb9.size
      have oW9 := ownsRow_below oW8 hb9
      have oX9 := ownsRow_below oX8 hb9
      have oY9 := ownsRow_below oY8 hb9
      have oG9 := ownsRow_below oG8 hb9
      have oZ9 := ownsRow_below oZ8 hb9
      go_wp2_with fail
      refine (toUint64S_any a1 len1 cap1 ls _ hlz hln (hls.below B9)).mono ?_
      rintro e w10 ⟨rfl, oU10, hb10⟩
      have B10 : Below w.heap.size w w10 := below_trans B9 hb10
      have m10 : w9.heap.size ≤ w10.heap.size := hb10.size
      have oW10 := ownsRow_below oW9 hb10
      have oX10 := ownsRow_below oX9 hb10
      have oY10 := ownsRow_below oY9 hb10
      have oG10 := ownsRow_below oG9 hb10
      have loU := fun k hk => (oU10.lt k hk).1
      have hiU := fun k hk => (oU10.lt k hk).2
      go_wp2_with fail
      refine (eqUint64S_any _ _ len1 len1 _ _ ls ls _ hlz hlz hln hln (own_sl oY10) (own_sl oU10)).mono ?_
      rintro e w11 ⟨rfl, hb11⟩
      have B11 : Below w.heap.size w w11 := below_trans B10 hb11
      have m11 : w10.heap.size ≤ w11.heap.size := hb11.size
      have oW11 := ownsRow_below oW10 hb11
      have oX11 := ownsRow_below oX10 hb11
      have oY11 := ownsRow_below oY10 hb11
      have oG11 := ownsRow_below oG10 hb11
      have oU11 := ownsRow_below oU10 hb11
      go_wp2_with fail
      refine (markByteS_any _ len0 len0 _ 1 zs _ hn (by omega) (by omega) oX11).mono ?_
      rintro e w12 ⟨rfl, oX12, gr12⟩
      have B12 : Below w.heap.size w w12 := B11.grown gr12 B11.size (by intro k hk; have := loX k hk; omega)
      have m12 : w11.heap.size ≤ w12.heap.size := gr12.size
      have oW12 := kept_of oW11 gr12 (by intro k hk h; have := loW k hk; have := hiW k hk; have := loX k h; have := hiX k h; omega)
      have oY12 := kept_of oY11 gr12 (by intro k hk h; have := loY k hk; have := hiY k hk; have := loX k h; have := hiX k h; omega)
      have oG12 := kept_of oG11 gr12 (by intro k hk h; have := loG k hk; have := hiG k hk; have := loX k h; have := hiX k h; omega)
      have hk1 : (1 : Int) + (len0 : Int) ≤ 1099511627776 := by omega
      go_wp2_with fail
      refine (markUint64S_any _ len1 len1 _ (1 + (len0 : Int)) ls _ hln (by omega) hk1 oY12).mono ?_
      rintro e w13 ⟨rfl, oY13, gr13⟩
      have B13 : Below w.heap.size w w13 := B12.grown gr13 B12.size (by intro k hk; have := loY k hk; omega)
      have m13 : w12.heap.size ≤ w13.heap.size := gr13.size
      have oW13 := kept_of oW12 gr13 (by intro k hk h; have := loW k hk; have := hiW k hk; have := loY k h; have := hiY k h; omega)
      have oG13 := kept_of oG12 gr13 (by intro k hk h; have := loG k hk; have := hiG k hk; have := loY k h; have := hiY k h; omega)
      have hneg : decide ((1 : Int) + (len0 : Int) + (len1 : Int) < 0) = false := by simp; omega
      go_wp2_with fail
      refine (eqByteS_any _ _ _ _ _ _ (walkB zs len0 len1 ls a2 a3 a4) (walkB zs len0 len1 ls a2 a3 a4) _ rfl rfl hV hV (own_sl' oG13) (own_sl' oW13)).mono ?_
      rintro e w14 ⟨rfl, hb14⟩
      have B14 : Below w.heap.size w w14 := below_trans B13 hb14
      have m14 : w13.heap.size ≤ w14.heap.size := hb14.size
      have oW14 := ownsRow_below oW13 hb14
      have oG14 := ownsRow_below oG13 hb14
      go_wp2_with fail
      refine (markByteS_any _ _ _ _ 1 _ _ hV (by omega) (by omega) oG14).mono ?_
      rintro e w15 ⟨rfl, oG15, gr15⟩
      have B15 : Below w.heap.size w w15 := B14.grown gr15 B14.size (by intro k hk; have := loG k hk; omega)
      have m15 : w14.heap.size ≤ w15.heap.size := gr15.size
      have oW15 := kept_of oW14 gr15 (by intro k hk h; have := loW k hk; have := hiW k hk; have := loG k h; have := hiG k h; omega)
      have hneg2 : ¬ ((1 : Int) + ((walkB zs len0 len1 ls a2 a3 a4).length : Int) < 0) := by omega
      have hne2 : ((1 : Int) + ((walkB zs len0 len1 ls a2 a3 a4).length : Int) != 1 + ((walkB zs len0 len1 ls a2 a3 a4).length : Int)) = false := by simp
      go_wp2_with fail
      refine (heldByteS_any _ _ _ 1 _ hV (by omega) (by omega) (own_sl' oG15)).mono ?_
      rintro e w16 ⟨rfl, hw16⟩
      have hv16 := hw16.symm
      subst hv16
      go_wp2_with fail
      refine (toByteS_any a0 len0 cap0 zs _ hz hn (hs.below B15)).mono ?_
      rintro e w16 ⟨rfl, oP16, hb16⟩
      have B16 : Below w.heap.size w w16 := below_trans B15 hb16
      have m16 : w15.heap.size ≤ w16.heap.size := hb16.size
      have oW16 := ownsRow_below oW15 hb16
      have oG16 := ownsRow_below oG15 hb16
      have loP := fun k hk => (oP16.lt k hk).1
      have hiP := fun k hk => (oP16.lt k hk).2
      go_wp2_with fail
      refine (toUint64S_any a1 len1 cap1 ls _ hlz hln (hls.below B16)).mono ?_
      rintro e w17 ⟨rfl, oQ17, hb17⟩
      have B17 : Below w.heap.size w w17 := below_trans B16 hb17
      have m17 : w16.heap.size ≤ w17.heap.size := hb17.size
      have oW17 := ownsRow_below oW16 hb17
      have oG17 := ownsRow_below oG16 hb17
      have oP17 := ownsRow_below oP16 hb17
      have loQ := fun k hk => (oQ17.lt k hk).1
      have hiQ := fun k hk => (oQ17.lt k hk).2
      go_wp2_with fail
      refine (implWalk_any _ _ _ zs _ _ _ ls a2 a3 a4 _ hz hn (own_sl oP17) HW.out hlz (own_sl oQ17) HL.out HX.out (HT.out.below B17) (own_good oP17)).mono ?_
      rintro e w18 ⟨aH, cH, rfl, oH18, hb18⟩
      have B18 : Below w.heap.size w w18 := below_trans B17 hb18
      have m18 : w17.heap.size ≤ w18.heap.size := hb18.size
      have oW18 := ownsRow_below oW17 hb18
      have oG18 := ownsRow_below oG17 hb18
      have oP18 := ownsRow_below oP17 hb18
      have oQ18 := ownsRow_below oQ17 hb18
      have loH := fun k hk => (oH18.lt k hk).1
      have hiH := fun k hk => (oH18.lt k hk).2
      go_wp2_with fail
      refine (eqByteS_any _ _ _ _ _ _ (walkB zs len0 len1 ls a2 a3 a4) (walkB zs len0 len1 ls a2 a3 a4) _ rfl rfl hV hV (own_sl' oH18) (own_sl' oW18)).mono ?_
      rintro e w19 ⟨rfl, hb19⟩
      have B19 : Below w.heap.size w w19 := below_trans B18 hb19
      have m19 : w18.heap.size ≤ w19.heap.size := hb19.size
      have oW19 := ownsRow_below oW18 hb19
      have oG19 := ownsRow_below oG18 hb19
      have oH19 := ownsRow_below oH18 hb19
      go_wp2_with fail
      refine (heldByteS_any _ _ _ 1 _ hV (by omega) (by omega) (own_sl' oG19)).mono ?_
      rintro e w20 ⟨rfl, hw20⟩
      have hv20 := hw20.symm
      subst hv20
      go_wp2_with fail
      go_ret
      exact ⟨rfl, B19⟩

end Go.Proofs.YtldjmphflgecjajDoor.fnExactWalk
