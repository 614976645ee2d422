/- The walk of laws.FnRegions: it returns true at every code, and writes nothing that was there. -/
import Derived.Test.YtaicnnkcdpdhaabDoorRegM
import Derived.Test.YtaicnnkcdpdhaabDoorRegH
import Derived.Test.YtaicnnkcdpdhaabDoorDrawW
import Derived.Test.YtaicnnkcdpdhaabDoorOwnP
import Derived.Test.YtaicnnkcdpdhaabDoorCsrY
import Derived.Test.YtaicnnkcdpdhaabDoorLawC
import Derived.BigQuiet
namespace Go.Proofs.YtaicnnkcdpdhaabDoor.fnRegions
open Go.RowKit
set_option linter.unusedVariables false

set_option maxRecDepth 100000 in
set_option maxHeartbeats 6400000 in
theorem walk (a0 : Option Addr) (len0 cap0 : Nat) (z0 : List Int) (w : World) (w0 : IsRow .u8 w a0 len0 cap0 z0) (hT : Tab w) :
    Calls Tryd.prog 3 #[.slice a0 len0 cap0] w fun e w' => e = .returned (.bool true) ∧ Below w.heap.size w w' := by
  have HT : Hid (Tab w) := hT
  clear hT
  by_cases hbig : 4096 < len0
  · have hb : decide (4096 < len0) = true := by simpa using hbig
    go_enter Tryd.func3, Tryd.ntmps3
    go_wp2_with fail
    refine (big_any a0 len0 cap0 _).mono ?_
    rintro e w1 ⟨rfl, hw1⟩
    subst hw1
    rw [hb]
    go_wp2_with fail
    go_ret
    exact ⟨rfl, Below.refl _ _⟩
  · have hb : decide (4096 < len0) = false := by simpa using hbig
    obtain ⟨zs, hcd⟩ := code_of w0 (by omega)
    have HD : Hid (Code w a0 len0 zs) := hcd
    clear hcd w0 hbig
    go_enter Tryd.func3, Tryd.ntmps3
    go_wp2_with fail
    refine (big_any a0 len0 cap0 _).mono ?_
    rintro e w1 ⟨rfl, hw1⟩
    have hw1' := hw1.symm
    subst hw1'
    rw [hb]
    clear hb
    go_wp2_with fail
    refine (DrawRegion_c cap0 _ HD.out).mono ?_
    rintro e w2 ⟨b, m, c, l, i, rfl, hlen, hm, HU, HSL, HB2⟩
    go_wp2_with fail
    refine (implRegion_any b m c l i _ hlen HSL.out HU.out (HT.out.below HB2.out)).mono ?_
    rintro e w3 ⟨rfl, hb3⟩
    have S3 : Hid (Sl .u64 w3 b l) := HSL.out.below hb3
    have B3 : Hid (Below w.heap.size w w3) := below_trans HB2.out hb3
    have HLEN : Hid (l.length = m) := hlen
    have HSP := specRegion_any b m c l i w3 hlen S3.out
    have HN : Hid ((regR m l i).2.2 = false → (regR m l i).1 = 0 ∧ (regR m l i).2.1 = 0) := fun h => reg_no h
    have HY := fun h => reg_yes (i := i) hlen HU.out h
    clear HSL hb3 HB2 hlen
    generalize regR m l i = r at *
    obtain ⟨lo, hi, is⟩ := r
    simp only at HSP HN HY ⊢
    have HSP2 : Hid (Calls Tryd.prog 7 #[.slice b m c, .int .i64 i] w3 fun e w' => e = .returned (.tuple #[.int .u64 lo, .int .u64 hi, .bool is]) ∧ w' = w3) := HSP
    clear HSP
    have t1 : (is != is) = false := by simp
    have t2 : (lo != lo) = false := by simp
    have t3 : (hi != hi) = false := by simp
    have HYY := HY
    clear HY
    cases is with
    | false =>
      obtain ⟨e1, e2⟩ := HN.out rfl
      subst e1 e2
      clear HYY HN
      go_wp2_with fail
      refine HSP2.out.mono ?_
      rintro e w4 ⟨rfl, hw4⟩
      have hw5 := hw4.symm
      subst hw5
      go_wp2_with fail
      go_ret
      exact ⟨rfl, B3.out⟩
    | true =>
      obtain ⟨rfl, j, cc, hj, rfl, e1, e2, e3, ulo, uhi, e4, e5, e6, e7, e8, e9, e10⟩ := HYY rfl
      clear HYY HN
      have d1 : decide (lo > hi) = false := e1
      have d2 : (bits .and .u64 lo 3 != 0) = false := by rw [e2]; rfl
      have d3 : (bits .and .u64 hi 3 != 3) = false := by rw [e3]; rfl
      obtain ⟨q, hq⟩ : ∃ q : Nat, 8 * j = q := ⟨_, rfl⟩
      have f1 : wrap64 (8 * (j : Int)) = (q : Int) := by unfold wrap64; omega
      have f2 : IntKind.u64.wrap (q : Int) = (q : Int) := by rw [IntKind.wrap_u64]; omega
      have f3 : IntKind.i64.wrap (8 * (j : Int)) = (q : Int) := by rw [IntKind.wrap_i64]; omega
      have hq24 : q ≤ 24 := by omega
      rw [hq] at e4
      obtain ⟨cv, hcv⟩ : ∃ cv, aloneC cc j = cv := ⟨_, rfl⟩
      rw [hcv] at e4 e5 e6 e7 e8 e9 e10
      obtain ⟨A, hA⟩ : ∃ A, l.set 16 cv = A := ⟨_, rfl⟩
      rw [hA] at e5 e6 e7 e8 e9 e10
      have HA : Hid (l.set 16 cv = A) := hA
      have E4 : Hid (IntKind.u64.wrap (bits .or .u64 (bits .and .u64 (l.getD 16 0 / 2 ^ q) 24) 7 * 2 ^ q) = cv) := e4
      have PP : ∀ (x kind : Int), U x → ∀ (W : World) (g cp : Nat), Below w.heap.size w W → Sl .u64 W (some ⟨g, 0, none⟩) A → Calls Tryd.prog 8 #[.slice (some ⟨g, 0, none⟩) 22 cp, .int .i64 0, .int .u64 x, .int .i64 1, .int .i64 kind] W fun e w' => e = .returned (.bool (permV 22 A 0 x 1 kind)) ∧ Below W.heap.size W w' := fun x kind hx W g cp hW hs => implPermits_any _ 22 cp A 0 x 1 kind W e6 hs e5 hx (HT.out.below hW)
      have p1 := PP lo 2 ulo
      have p2 := PP hi 3 uhi
      have p3 := PP (IntKind.u64.wrap (hi + 1)) 2 (U_wrap _)
      have p4 := PP (IntKind.u64.wrap (lo - 1)) 1 (U_wrap _)
      rw [e7] at p1
      rw [e8] at p2
      rw [e9] at p3
      have P1 : Hid (∀ (W : World) (g cp : Nat), Below w.heap.size w W → Sl .u64 W (some ⟨g, 0, none⟩) A → Calls Tryd.prog 8 #[.slice (some ⟨g, 0, none⟩) 22 cp, .int .i64 0, .int .u64 lo, .int .i64 1, .int .i64 2] W fun e w' => e = .returned (.bool true) ∧ Below W.heap.size W w') := p1
      have P2 : Hid (∀ (W : World) (g cp : Nat), Below w.heap.size w W → Sl .u64 W (some ⟨g, 0, none⟩) A → Calls Tryd.prog 8 #[.slice (some ⟨g, 0, none⟩) 22 cp, .int .i64 0, .int .u64 hi, .int .i64 1, .int .i64 3] W fun e w' => e = .returned (.bool true) ∧ Below W.heap.size W w') := p2
      have P3 : Hid (∀ (W : World) (g cp : Nat), Below w.heap.size w W → Sl .u64 W (some ⟨g, 0, none⟩) A → Calls Tryd.prog 8 #[.slice (some ⟨g, 0, none⟩) 22 cp, .int .i64 0, .int .u64 (IntKind.u64.wrap (hi + 1)), .int .i64 1, .int .i64 2] W fun e w' => e = .returned (.bool false) ∧ Below W.heap.size W w') := p3
      have P4 : Hid ((lo == 0) = false → ∀ (W : World) (g cp : Nat), Below w.heap.size w W → Sl .u64 W (some ⟨g, 0, none⟩) A → Calls Tryd.prog 8 #[.slice (some ⟨g, 0, none⟩) 22 cp, .int .i64 0, .int .u64 (IntKind.u64.wrap (lo - 1)), .int .i64 1, .int .i64 1] W fun e w' => e = .returned (.bool false) ∧ Below W.heap.size W w') := by
        intro h
        rw [e10 h] at p4
        exact p4
      clear PP p1 p2 p3 p4 e1 e2 e3 e4 e5 e6 e7 e8 e9 e10 hA hcv hq ulo uhi HU
      obtain ⟨b0, off, rfl, hb0, hc16⟩ := S3.out 16 (by rw [HLEN.out]; omega)
      obtain ⟨i0, hi0, hz0, hz1, hz2⟩ := info_parts infoW
      have h1c : ∀ u ∈ l.map (Value.int .u64), u.oneCell' = true := ints_oneCell _ _
      have hb9 : (0 + 22) * 8 ≤ 140737488355328 := by omega
      have hm9 : 0 + 22 ≤ maxLen := by unfold maxLen; omega
      have hlen22 : (l.map (Value.int .u64)).length = 22 * 1 := by rw [List.length_map, HLEN.out]
      have hnews : ∀ (o : Obj) (j : Nat) (u : Value), (l.map (Value.int .u64))[j]? = some u → (w3.alloc o).cell? ((⟨b0, off, none⟩ : Addr).add j) = some u := by
        intro o j u hu
        exact news_ofW S3.out o j u hu
      have HNEWS : Hid (∀ (o : Obj) (j : Nat) (u : Value), (l.map (Value.int .u64))[j]? = some u → (w3.alloc o).cell? ((⟨b0, off, none⟩ : Addr).add j) = some u) := hnews
      have H1C : Hid (∀ u ∈ l.map (Value.int .u64), u.oneCell' = true) := h1c
      have hE := own_emptyW w3 w3.heap.size (Nat.le_refl _) (.cells #[] 27 (0, 0)) rfl
      have HSL3 : Hid (Below w.heap.size w w3) := B3.out
      have C16 : Hid (w3.cell? ⟨b0, off + 16, none⟩ = some (.int .u64 (l.getD 16 0))) := hc16
      generalize l.getD 16 0 = x16 at *
      clear hnews h1c hc16 S3
      go_wp2_with fail
      refine HSP2.out.mono ?_
      rintro e w4 ⟨rfl, hw4⟩
      have hw5 := hw4.symm
      subst hw5
      go_wp2_with (first
        | (at_builtin; refine wpList_append_own _ rfl (.tmp 68) (.tmp 69) 24 rfl _ 27 i0 (.int .u64 0) 1 8 Tryd.underlying24 hi0 hz0 hz1 hz2 rfl (by decide) _ 0 [] (by rfl) hE ⟨b0, off, none⟩ 22 c (l.map (Value.int .u64)) rfl hlen22 (HNEWS.out _) H1C.out hm9 hb9 (by simp) ?_; intro v' w6 hown1 hgrow1 hnil1; simp only [Nat.zero_add, List.nil_append] at hown1; obtain ⟨g, cp, hv, hg⟩ := own_shape hown1 (by omega); rw [hv] at hown1 ⊢; have B6a := below_app hgrow1; have c16 := (B6a.cell (by exact hb0)).trans C16.out; have OW : Hid (Own w6 w3.heap.size g cp l) := hown1; have B6 : Hid (Below w.heap.size w w6) := below_trans B3.out B6a; have HGB : Hid (w.heap.size ≤ g) := Nat.le_trans B3.out.size hg; clear hnil1 hgrow1 hown1 hv B6a hg)
        | (refine wpList_put rfl (.tmp 86) (.tmp 85) rfl rfl OW.out 16 (by omega) _ rfl rfl ?_; intro w7 o7 g7))
      have B := B6.out
      have B := Below.grown B g7 B.size (by intro k e; cases e; exact HGB.out)
      rw [E4.out, HA.out] at o7
      have ow7 : w7.ownsRow w3.heap.size 27 1 (.slice (some ⟨g, 0, none⟩) 22 cp) 22 (A.map (Value.int .u64)) := o7
      clear o7 g7 OW HGB E4 HA
      refine (P1.out _ _ _ B (own_sl ow7)).mono ?_
      rintro e w8 ⟨rfl, hb⟩
      have B := below_trans B hb
      have ow8 := ownsRow_below ow7 hb
      clear hb ow7 P1
      go_wp2_with fail
      refine (P2.out _ _ _ B (own_sl ow8)).mono ?_
      rintro e w9 ⟨rfl, hb⟩
      have B := below_trans B hb
      have ow9 := ownsRow_below ow8 hb
      clear hb ow8 P2
      go_wp2_with fail
      refine (P3.out _ _ _ B (own_sl ow9)).mono ?_
      rintro e w10 ⟨rfl, hb⟩
      have B := below_trans B hb
      have ow10 := ownsRow_below ow9 hb
      clear hb ow9 P3
      cases dz : (lo == 0) with
      | true =>
        clear P4
        go_wp2_with fail
        go_ret
        exact ⟨rfl, B⟩
      | false =>
        have P5 := P4.out dz
        have P6 : Hid (∀ (W : World) (g cp : Nat), Below w.heap.size w W → Sl .u64 W (some ⟨g, 0, none⟩) A → Calls Tryd.prog 8 #[.slice (some ⟨g, 0, none⟩) 22 cp, .int .i64 0, .int .u64 (IntKind.u64.wrap (lo - 1)), .int .i64 1, .int .i64 1] W fun e w' => e = .returned (.bool false) ∧ Below W.heap.size W w') := P5
        clear P4 P5
        go_wp2_with fail
        refine (P6.out _ _ _ B (own_sl ow10)).mono ?_
        rintro e w11 ⟨rfl, hb⟩
        have B := below_trans B hb
        go_wp2_with fail
        go_ret
        exact ⟨rfl, B⟩

end Go.Proofs.YtaicnnkcdpdhaabDoor.fnRegions
