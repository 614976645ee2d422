/- The program's WriteCsr. -/
import Derived.Test.YtgcbdlfljplkbabCsrO
namespace Go.Proofs.Ytgcbdlfljplkbab
open Go.RowKit
set_option linter.unusedVariables false

def writeIB (m : Nat) (l : List Int) (n p : Int) : Bool := mayI m l n p && !onlyB n && ((findV n (l.getD 2 0) 22 0).ok || fixB n)

/-- The registers behind a write. -/
def writeI (l : List Int) (n x : Int) : List Int :=
  if (findV n (l.getD 2 0) 22 0).ok = true then l.set (findV n (l.getD 2 0) 22 0).at_.toNat (leftV l (findV n (l.getD 2 0) 22 0).at_.toNat (findV n (l.getD 2 0) 22 0).wr x) else l

def writeIL (m : Nat) (l : List Int) (n p x : Int) : List Int := if writeIB m l n p = true then writeI l n x else []

theorem own_lower {w : World} {base base' : Nat} {e : TypeId} {size : Nat} {v : Value} {n : Nat} {xs : List Value} (h : w.ownsRow base e size v n xs) (hb : base' ≤ base) : w.ownsRow base' e size v n xs := by
  obtain ⟨h1, h2⟩ := h
  refine ⟨h1, ?_⟩
  rcases h2 with h2 | ⟨g, cap, cur, hv, hg, r⟩
  · exact Or.inl h2
  · exact Or.inr ⟨g, cap, cur, hv, Nat.le_trans hb hg, r⟩

set_option maxHeartbeats 3200000 in
theorem implWriteCsr_any (a : Option Addr) (m cap : Nat) (l : List Int) (n p x : Int) (w : World) (hz : l.length = m) (hs : Sl .u64 w a l) (hl : ∀ j, 0 ≤ l.getD j 0 ∧ l.getD j 0 < 18446744073709551616) (h0 : 0 ≤ x) (h1 : x < 18446744073709551616) :
    Calls Try.prog 14 #[.slice a m cap, .int .i64 n, .int .i64 p, .int .u64 x] w fun e w' => ∃ (a' : Option Addr) (c : Nat), e = .returned (.tuple #[.slice a' (writeIL m l n p x).length c, .bool (writeIB m l n p)]) ∧
      w'.ownsRow w.heap.size 24 1 (.slice a' (writeIL m l n p x).length c) (writeIL m l n p x).length ((writeIL m l n p x).map (Value.int .u64)) ∧ Below w.heap.size w w' := by
  have HO : Hid (Calls Try.prog 20 #[.slice a m cap] w fun e w' => e = .returned (.bool (fitsOk m l)) ∧ Below w.heap.size w w') := implCsrsOk_any a m cap l w hz hs hl
  have HM : Hid (∀ w, Calls Try.prog 45 #[.int .i64 n, .int .i64 p] w fun e w' => e = .returned (.bool (reachB n p)) ∧ w' = w) := mayReach_any n p
  have HF : Hid (∀ w, Calls Try.prog 48 #[.int .i64 n] w fun e w' => e = .returned (.tuple #[.int .u64 (fixV n), .bool (fixB n)]) ∧ w' = w) := fixedCsr_any n
  have HN : Hid (∀ w, Calls Try.prog 46 #[.int .i64 n] w fun e w' => e = .returned (.bool (onlyB n)) ∧ w' = w) := readOnly_any n
  have HS : Hid (Sl .u64 w a l) := hs
  cases hok : fitsOk m l with
  | false =>
    have W0 : writeIB m l n p = false := by simp [writeIB, mayI, hok]
    have F : Hid (writeIL m l n p x = [] ∧ writeIB m l n p = false) := ⟨by simp [writeIL, W0], W0⟩
    rw [hok] at HO
    clear hok hs hl W0
    go_enter Try.func14, Try.ntmps14
    go_wp2_with fail
    refine HO.out.mono ?_
    rintro e w1 ⟨rfl, hb⟩
    go_wp2_with fail
    go_ret2
    rw [F.out.1, F.out.2]
    exact ⟨_, _, rfl, own_nilW _ _, hb⟩
  | true =>
    have hm := fitsOk_len hok
    subst hm
    rw [hok] at HO
    cases hre : reachB n p with
    | false =>
      have W0 : writeIB 22 l n p = false := by simp [writeIB, mayI, hre]
      have F : Hid (writeIL 22 l n p x = [] ∧ writeIB 22 l n p = false) := ⟨by simp [writeIL, W0], W0⟩
      rw [hre] at HM
      clear hok hs hl hre W0
      go_enter Try.func14, Try.ntmps14
      go_wp2_with fail
      refine HO.out.mono ?_
      rintro e w1 ⟨rfl, hb⟩
      go_wp2_with fail
      refine (HM.out _).mono ?_
      rintro e w2 ⟨rfl, hw2⟩
      subst hw2
      go_wp2_with fail
      go_ret2
      rw [F.out.1, F.out.2]
      exact ⟨_, _, rfl, own_nilW _ _, hb⟩
    | true =>
      rw [hre] at HM
      cases hon : onlyB n with
      | true =>
        have W0 : writeIB 22 l n p = false := by simp [writeIB, hon]
        have F : Hid (writeIL 22 l n p x = [] ∧ writeIB 22 l n p = false) := ⟨by simp [writeIL, W0], W0⟩
        rw [hon] at HN
        clear hok hs hl hre W0 hon
        go_enter Try.func14, Try.ntmps14
        go_wp2_with fail
        refine HO.out.mono ?_
        rintro e w1 ⟨rfl, hb⟩
        go_wp2_with fail
        refine (HM.out _).mono ?_
        rintro e w2 ⟨rfl, hw2⟩
        subst hw2
        go_wp2_with fail
        refine (HN.out _).mono ?_
        rintro e w2 ⟨rfl, hw2⟩
        subst hw2
        go_wp2_with fail
        go_ret2
        rw [F.out.1, F.out.2]
        exact ⟨_, _, rfl, own_nilW _ _, hb⟩
      | false =>
        rw [hon] at HN
        have W0 : writeIB 22 l n p = ((findV n (l.getD 2 0) 22 0).ok || fixB n) := by simp [writeIB, mayI, hok, hre, hon]
        have W1 : writeI l n x = if (findV n (l.getD 2 0) 22 0).ok = true then l.set (findV n (l.getD 2 0) 22 0).at_.toNat (leftV l (findV n (l.getD 2 0) 22 0).at_.toNat (findV n (l.getD 2 0) 22 0).wr x) else l := rfl
        have W2 : writeIL 22 l n p x = if writeIB 22 l n p = true then writeI l n x else [] := rfl
        have HV : Hid (∀ w, Calls Try.prog 47 #[.int .i64 n, .int .u64 (l.getD 2 0)] w fun e w' => e = .returned (.tuple #[.int .i64 (findV n (l.getD 2 0) 22 0).at_, .agg (findV n (l.getD 2 0) 22 0).cells, .bool (findV n (l.getD 2 0) 22 0).ok]) ∧ Below w.heap.size w w') := viewBy_any n (l.getD 2 0)
        have hbd := findV_bd n (l.getD 2 0) 22 0 (by omega)
        generalize findV n (l.getD 2 0) 22 0 = V at *
        obtain ⟨va, vn, vr, vw, vo⟩ := V
        simp only [Vw.cells] at HV W0 W1 hbd
        obtain ⟨b, off, rfl, hb0, c2⟩ := hs 2 (by omega)
        generalize l.getD 2 0 = mid at *
        obtain ⟨i0, hi, hz0, hz1, hz2⟩ := info_parts infoW
        have hsz5 : (Try.prog.info? 24).map (·.size) = some 1 := by rw [hi]; simp [hz1]
        have hb2 : i0.bytes * 22 ≤ 281474976710656 := by rw [hz2]; omega
        have hb3 : 22 ≤ maxLen := by unfold maxLen; omega
        have HZ : Hid (l.length = 22) := hz
        clear hz2 hz
        cases vo with
        | true =>
          obtain ⟨k, hk, hva⟩ := hbd rfl
          subst hva
          rw [if_pos rfl, Int.toNat_natCast] at W1
          rw [Bool.true_or] at W0
          rw [W0, if_pos rfl, W1] at W2
          have HLB : Hid (∀ w, Sl .u64 w (some ⟨b, off, none⟩) l → Calls Try.prog 49 #[.slice (some ⟨b, off, none⟩) 22 cap, .int .i64 k, .int .u64 vw, .int .u64 x] w fun e w' => e = .returned (.int .u64 (leftV l k vw x)) ∧ Below w.heap.size w w') := fun w hs => leftBy_any _ cap l k hk vw x w HZ.out hs hl h0 h1
          generalize leftV l k vw x = y at *
          have F : Hid (writeIL 22 l n p x = l.set k y ∧ writeIB 22 l n p = true) := ⟨W2, W0⟩
          have hk0 : (0 : Int) ≤ (k : Int) := by omega
          have hk1 : (k : Int) < 22 := by omega
          clear W0 W1 W2 hbd hs hl hok hre hon
          have HF2 := HF.out
          generalize fixV n = fv at *
          generalize fixB n = fb at *
          have HF3 : Hid (∀ w, Calls Try.prog 48 #[.int .i64 n] w fun e w' => e = .returned (.tuple #[.int .u64 fv, .bool fb]) ∧ w' = w) := HF2
          clear HF2
          cases fb with
          | _ =>
            go_enter Try.func14, Try.ntmps14
            go_wp2_with fail
            refine HO.out.mono ?_
            rintro e w1 ⟨rfl, hb⟩
            have c2' : w1.cell? ⟨b, off + 2, none⟩ = some (.int .u64 mid) := (hb.cell (by exact hb0)).trans c2
            go_wp2_with fail
            refine (HM.out _).mono ?_
            rintro e w2 ⟨rfl, hw2⟩
            have hw3 := hw2.symm
            subst hw3
            go_wp2_with fail
            refine (HN.out _).mono ?_
            rintro e w2 ⟨rfl, hw2⟩
            have hw3 := hw2.symm
            subst hw3
            go_wp2_with fail
            refine (HV.out _).mono ?_
            rintro e w3 ⟨rfl, hb3'⟩
            have B3 := below_trans hb hb3'
            go_wp2_with fail
            refine (HF3.out _).mono ?_
            rintro e w4 ⟨rfl, hw4⟩
            subst hw4
            have B4 : Below w.heap.size w (w3.alloc (.cells #[.int .i64 vn, .int .u64 vr, .int .u64 vw] 72)) := B3.alloc B3.size _
            obtain ⟨w5, hw5⟩ : ∃ w5, w3.alloc (.cells #[.int .i64 vn, .int .u64 vr, .int .u64 vw] 72) = w5 := ⟨_, rfl⟩
            have cw5 : w5.cell? ⟨w3.heap.size, 2, none⟩ = some (.int .u64 vw) := by rw [← hw5]; exact cell_of_row _ _ _ _ _ _ (heap_alloc_new _ _)
            have lw5 : w3.heap.size < w5.heap.size := by rw [← hw5]; simp
            rw [hw5] at B4 ⊢
            clear hw5 B3 hb hb3'
            go_wp2_with (first | (at_make; refine wpList_make_full _ rfl (.const (.int .i64 22)) (.const (.int .i64 22)) 30 rfl w5.heap.size 24 i0 (.int .u64 0) 1 Try.underlying30 hi hz0 hz1 .i64 .i64 _ _ 22 rfl rfl rfl rfl hb2 hb3 (Nat.le_refl _) ?_; intro w6 hown hgrow) | (refine wpList_copy_full rfl (.tmp 50) (.tmp 51) 30 rfl 24 Try.underlying30 hsz5 .u64 w5.heap.size w5.heap.size 22 22 b off cap l _ rfl rfl hown ((HS.out.below B4).below ((Below.refl _ _).grown hgrow (Nat.le_refl _) (by intro k h; cases h))) HZ.out ?_; intro w7 hown2 hgrow2; have B7 : Below w5.heap.size w5 w7 := Below.grown ((Below.refl _ _).grown hgrow (Nat.le_refl _) (by intro k h; cases h)) hgrow2 hgrow.size (by intro k h; cases h; exact Nat.le_refl _); have cw7 : w7.cell? ⟨w3.heap.size, 2, none⟩ = some (.int .u64 vw) := (B7.cell (by exact lw5)).trans cw5))
            have B8 := below_trans B4 B7
            refine (HLB.out _ (HS.out.below B8)).mono ?_
            rintro e w8 ⟨rfl, hb8⟩
            have B9 := below_trans B8 hb8
            have hown3 := ownsRow_below hown2 hb8
            have hfr : w8.frozen? ⟨w5.heap.size, k, none⟩ = false := hown3.frozenAt k
            have hst := (hown3.stored k (.int .u64 y)).1
            obtain ⟨v3, hv3⟩ : ∃ v, w8.cell? ⟨w5.heap.size, k, none⟩ = some v := by
              rw [hown3.cellAt k (by omega)]
              exact ⟨_, List.getElem?_eq_getElem (by rw [List.length_map, HZ.out]; exact hk)⟩
            rw [map_set_u64] at hst
            have HST : Hid ((w8.setCell ⟨w5.heap.size, k, none⟩ (.int .u64 y)).ownsRow w5.heap.size 24 1 (.slice (some ⟨w5.heap.size, 0, none⟩) 22 22) 22 ((l.set k y).map (Value.int .u64))) := hst
            have HBX : Hid (Below w.heap.size w (w8.setCell ⟨w5.heap.size, k, none⟩ (.int .u64 y))) := B9.setCell B4.size _
            have HB4 : Hid (w.heap.size ≤ w5.heap.size) := B4.size
            clear hst hown hown2 hown3 hgrow hgrow2 B4 B7 B8 B9 hb8 cw5 cw7
            go_wp2_with fail
            go_ret2
            have hlen : (l.set k y).length = 22 := by rw [List.length_set, HZ.out]
            rw [F.out.1, F.out.2, hlen]
            refine ⟨_, _, rfl, ?_, HBX.out⟩
            exact own_lower HST.out HB4.out
        | false =>
          rw [Bool.false_or] at W0
          rw [if_neg (by decide)] at W1
          cases hfb : fixB n with
          | false =>
            rw [hfb] at HF
            rw [hfb] at W0
            rw [W0, if_neg (by decide)] at W2
            have F : Hid (writeIL 22 l n p x = [] ∧ writeIB 22 l n p = false) := ⟨W2, W0⟩
            generalize fixV n = fv at *
            clear W0 W1 W2 hbd hs hl hok hre hon hfb
            go_enter Try.func14, Try.ntmps14
            go_wp2_with fail
            refine HO.out.mono ?_
            rintro e w1 ⟨rfl, hb⟩
            have c2' : w1.cell? ⟨b, off + 2, none⟩ = some (.int .u64 mid) := (hb.cell (by exact hb0)).trans c2
            go_wp2_with fail
            refine (HM.out _).mono ?_
            rintro e w2 ⟨rfl, hw2⟩
            have hw3 := hw2.symm
            subst hw3
            go_wp2_with fail
            refine (HN.out _).mono ?_
            rintro e w2 ⟨rfl, hw2⟩
            have hw3 := hw2.symm
            subst hw3
            go_wp2_with fail
            refine (HV.out _).mono ?_
            rintro e w3 ⟨rfl, hb3'⟩
            have B3 := below_trans hb hb3'
            go_wp2_with fail
            refine (HF.out _).mono ?_
            rintro e w4 ⟨rfl, hw4⟩
            subst hw4
            go_wp2_with fail
            go_ret2
            rw [F.out.1, F.out.2]
            exact ⟨_, _, rfl, own_nilW _ _, B3.alloc B3.size _⟩
          | true =>
            rw [hfb] at HF
            rw [hfb] at W0
            rw [W0, if_pos rfl, W1] at W2
            have F : Hid (writeIL 22 l n p x = l ∧ writeIB 22 l n p = true) := ⟨W2, W0⟩
            generalize fixV n = fv at *
            clear W0 W1 W2 hbd hs hl hok hre hon hfb
            go_enter Try.func14, Try.ntmps14
            go_wp2_with fail
            refine HO.out.mono ?_
            rintro e w1 ⟨rfl, hb⟩
            have c2' : w1.cell? ⟨b, off + 2, none⟩ = some (.int .u64 mid) := (hb.cell (by exact hb0)).trans c2
            go_wp2_with fail
            refine (HM.out _).mono ?_
            rintro e w2 ⟨rfl, hw2⟩
            have hw3 := hw2.symm
            subst hw3
            go_wp2_with fail
            refine (HN.out _).mono ?_
            rintro e w2 ⟨rfl, hw2⟩
            have hw3 := hw2.symm
            subst hw3
            go_wp2_with fail
            refine (HV.out _).mono ?_
            rintro e w3 ⟨rfl, hb3'⟩
            have B3 := below_trans hb hb3'
            go_wp2_with fail
            refine (HF.out _).mono ?_
            rintro e w4 ⟨rfl, hw4⟩
            subst hw4
            have B4 : Below w.heap.size w (w3.alloc (.cells #[.int .i64 vn, .int .u64 vr, .int .u64 vw] 72)) := B3.alloc B3.size _
            obtain ⟨w5, hw5⟩ : ∃ w5, w3.alloc (.cells #[.int .i64 vn, .int .u64 vr, .int .u64 vw] 72) = w5 := ⟨_, rfl⟩
            rw [hw5] at B4 ⊢
            clear hw5 B3 hb hb3'
            go_wp2_with (first | (at_make; refine wpList_make_full _ rfl (.const (.int .i64 22)) (.const (.int .i64 22)) 30 rfl w5.heap.size 24 i0 (.int .u64 0) 1 Try.underlying30 hi hz0 hz1 .i64 .i64 _ _ 22 rfl rfl rfl rfl hb2 hb3 (Nat.le_refl _) ?_; intro w6 hown hgrow) | (refine wpList_copy_full rfl (.tmp 50) (.tmp 51) 30 rfl 24 Try.underlying30 hsz5 .u64 w5.heap.size w5.heap.size 22 22 b off cap l _ rfl rfl hown ((HS.out.below B4).below ((Below.refl _ _).grown hgrow (Nat.le_refl _) (by intro k h; cases h))) HZ.out ?_; intro w7 hown2 hgrow2; have B7 : Below w5.heap.size w5 w7 := Below.grown ((Below.refl _ _).grown hgrow (Nat.le_refl _) (by intro k h; cases h)) hgrow2 hgrow.size (by intro k h; cases h; exact Nat.le_refl _)))
            go_ret2
            rw [F.out.1, F.out.2, HZ.out]
            refine ⟨_, _, rfl, ?_, below_trans B4 B7⟩
            exact own_lower hown2 B4.size

end Go.Proofs.Ytgcbdlfljplkbab
