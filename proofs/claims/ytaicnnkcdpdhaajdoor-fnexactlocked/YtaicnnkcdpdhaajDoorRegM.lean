/- The program's Locked and Permits. -/
import Derived.Test.YtaicnnkcdpdhaajDoorRegL
namespace Go.Proofs.YtaicnnkcdpdhaajDoor
open Go.RowKit
set_option linter.unusedVariables false

theorem got_byte {l : List Int} {n : Nat} (hl : ∀ j, U (l.getD j 0)) {q : Nat × Int × Int × Int} (h : q ∈ gotR l n) : ∃ z : Nat, z < 256 ∧ q.2.2.2 = z := by
  obtain ⟨_, e⟩ := got_mem h
  unfold pickR at e
  split at e
  · cases e
  · have := Option.some.inj e
    rw [← this]
    obtain ⟨h0, h1⟩ := fld_bd (l.getD 16 0) (8 * q.1) 8
    exact ⟨(fld (l.getD 16 0) (8 * q.1) 8).toNat, by omega, by show fld _ _ _ = _; omega⟩

theorem let_allow (z : Nat) (hz : z < 256) (p k : Int) : letB z p k = allowB z p k := by
  obtain ⟨e1, e2, e3, e4, e5, e6⟩ := byte8 z hz
  unfold letB allowB kindM
  rw [e1]
  cases h : ((p == 3) && ((z : Int) / 128 == 0)) with
  | true => rfl
  | false =>
    cases k1 : (k == 1) with
    | true => simp only [if_true, Bool.false_eq_true, if_false, Bool.false_or]; rw [e3]
    | false =>
      cases k2 : (k == 2) with
      | true => simp only [if_true, Bool.false_eq_true, if_false, Bool.false_or]; rw [e4]
      | false => simp only [Bool.false_eq_true, if_false, Bool.false_or]; rw [e5]

theorem perm_met {l : List Int} (hl : ∀ j, U (l.getD j 0)) (hok : csrsOk 22 l = true) (p x y k : Int) :
    permRest l p x y k 4 0 = if (metV l x y).2.2.2 = true then (allB (metV l x y).1 (metV l x y).2.1 x y && allowB (metV l x y).2.2.1 p k) else (p == 3) := by
  rw [perm_find hl hok p x y k 4 0 (by omega)]
  have hg : (List.range' 0 4).filterMap (pickR l) = gotR l 4 := by unfold gotR; rw [List.range_eq_range']
  rw [hg]
  unfold metV
  cases hf : (gotR l 4).find? (meetsB x y) with
  | none => rfl
  | some q =>
    obtain ⟨z, hz, e⟩ := got_byte hl (List.mem_of_find?_eq_some hf)
    show (!(decide (x < q.2.1) || decide (q.2.2.1 < y)) && letB q.2.2.2 p k) = (allB q.2.1 q.2.2.1 x y && allowB q.2.2.2 p k)
    rw [e, let_allow z hz p k]
    congr 1
    unfold allB
    rw [Bool.not_or]
    congr 1
    · rw [← decide_not]; congr 1; exact propext ⟨fun h => by omega, fun h => by omega⟩
    · rw [← decide_not]; congr 1; exact propext ⟨fun h => by omega, fun h => by omega⟩

theorem lock_met {l : List Int} (hl : ∀ j, U (l.getD j 0)) (hok : csrsOk 22 l = true) (x : Int) :
    lockRest l x 4 0 = ((metV l x x).2.2.2 && (bits .and .u64 (metV l x x).2.2.1 128 != 0) && (bits .and .u64 (metV l x x).2.2.1 2 == 0)) := by
  rw [lock_find hl hok x 4 0 (by omega)]
  have hg : (List.range' 0 4).filterMap (pickR l) = gotR l 4 := by unfold gotR; rw [List.range_eq_range']
  rw [hg]
  unfold metV
  cases hf : (gotR l 4).find? (meetsB x x) with
  | none => rfl
  | some q =>
    obtain ⟨z, hz, e⟩ := got_byte hl (List.mem_of_find?_eq_some hf)
    obtain ⟨e1, e2, e3, e4, e5, e6⟩ := byte8 z hz
    show ((q.2.2.2 / 128 == 1) && (bits .and .u64 (q.2.2.2 / 2) 1 == 0)) = (true && (bits .and .u64 q.2.2.2 128 != 0) && (bits .and .u64 q.2.2.2 2 == 0))
    rw [e, e2, e6, Bool.true_and]

theorem sl_cells {w : World} {a : Option Addr} {l : List Int} (hs : Sl .u64 w a l) (hz : l.length = 22) : ∃ b off, a = some ⟨b, off, none⟩ ∧ b < w.heap.size ∧ ∀ j, j < 22 → w.cell? ⟨b, off + j, none⟩ = some (.int .u64 (l.getD j 0)) := by
  obtain ⟨b, off, rfl, hb, _⟩ := hs 0 (by omega)
  refine ⟨b, off, rfl, hb, fun j hj => ?_⟩
  obtain ⟨b', off', e, _, hc⟩ := hs j (by omega)
  cases e
  exact hc

theorem csrs22 {n : Nat} {l : List Int} (h : csrsOk n l = true) : n = 22 := by unfold csrsOk at h; simp only [Bool.and_eq_true, decide_eq_true_eq] at h; exact h.1

set_option maxHeartbeats 1600000 in
theorem implLocked_any (a : Option Addr) (n cap : Nat) (l : List Int) (x : Int) (w : World) (hz : l.length = n) (hs : Sl .u64 w a l) (hl : ∀ j, U (l.getD j 0)) (hT : Tab w) :
    Calls Tryd.prog 13 #[.slice a n cap, .int .u64 x] w fun e w' => e = .returned (.bool (lockedV n l x)) ∧ Below w.heap.size w w' := by
  have HO : Hid (Calls Tryd.prog 17 #[.slice a n cap] w fun e w' => e = .returned (.bool (csrsOk n l)) ∧ Below w.heap.size w w') := by
    have := implCsrsOk_any a n cap l w hz hs hl
    rw [fitsOk_eq n l hl] at this
    exact this
  have HM : csrsOk n l = true → Hid ((∀ W, Below w.heap.size w W → Calls Tryd.prog 26 #[.slice a n cap, .int .u64 x, .int .u64 x] W fun e w' => e = .returned (.tuple #[.agg #[.int .u64 (metV l x x).1, .int .u64 (metV l x x).2.1, .int .u64 (metV l x x).2.2.1], .bool (metV l x x).2.2.2]) ∧ Below W.heap.size W w') ∧
      lockedV n l x = ((metV l x x).2.2.2 && (bits .and .u64 (metV l x x).2.2.1 128 != 0) && (bits .and .u64 (metV l x x).2.2.1 2 == 0))) := by
    intro hok
    obtain rfl := csrs22 hok
    obtain ⟨b, off, rfl, hb, hc⟩ := sl_cells hs hz
    refine ⟨fun W hW => firstMet_any b off cap l x x W (Nat.lt_of_lt_of_le hb hW.size) (fun j hj => (hW.cell (p := ⟨b, off + j, none⟩) hb).trans (hc j hj)) hl (hT.below hW), ?_⟩
    show lockedV 22 l x = _
    unfold lockedV
    rw [hok, Bool.true_and, lock_met hl hok x]
  have F0 : Hid (csrsOk n l = false → lockedV n l x = false) := by
    intro h
    show lockedV n l x = false
    unfold lockedV
    rw [h, Bool.false_and]
  clear hz hs hl hT
  generalize csrsOk n l = ok at *
  generalize lockedV n l x = lv at *
  cases ok with
  | false =>
    have F : Hid (lv = false) := F0.out rfl
    clear HM F0
    go_enter Tryd.func13, Tryd.ntmps13
    go_wp2_with fail
    refine HO.out.mono ?_
    rintro e w1 ⟨rfl, hb1⟩
    go_wp2_with fail
    go_ret
    exact ⟨by rw [F.out]; rfl, hb1⟩
  | true =>
    have HM2 := HM rfl
    clear HM F0
    generalize metV l x x = m at *
    obtain ⟨lo, hi, r, ok⟩ := m
    simp only at HM2
    have HF : Hid (∀ W, Below w.heap.size w W → Calls Tryd.prog 26 #[.slice a n cap, .int .u64 x, .int .u64 x] W fun e w' => e = .returned (.tuple #[.agg #[.int .u64 lo, .int .u64 hi, .int .u64 r], .bool ok]) ∧ Below W.heap.size W w') := HM2.out.1
    have F : Hid (lv = (ok && (bits .and .u64 r 128 != 0) && (bits .and .u64 r 2 == 0))) := HM2.out.2
    clear HM2
    cases ok with
    | false =>
      go_enter Tryd.func13, Tryd.ntmps13
      go_wp2_with fail
      refine HO.out.mono ?_
      rintro e w1 ⟨rfl, hb1⟩
      have HB1 : Hid (Below w.heap.size w w1) := hb1
      clear hb1
      go_wp2_with fail
      refine (HF.out _ HB1.out).mono ?_
      rintro e w2 ⟨rfl, hb2⟩
      have HB2 : Hid (Below w.heap.size w w2) := below_trans HB1.out hb2
      clear hb2
      go_wp2_with fail
      go_ret
      exact ⟨by rw [F.out]; rfl, HB2.out.alloc HB2.out.size _⟩
    | true =>
      cases h1 : (bits .and .u64 r 128 != 0) with
      | false =>
        rw [h1] at F
        go_enter Tryd.func13, Tryd.ntmps13
        go_wp2_with fail
        refine HO.out.mono ?_
        rintro e w1 ⟨rfl, hb1⟩
        have HB1 : Hid (Below w.heap.size w w1) := hb1
        clear hb1
        go_wp2_with fail
        refine (HF.out _ HB1.out).mono ?_
        rintro e w2 ⟨rfl, hb2⟩
        have HB2 : Hid (Below w.heap.size w w2) := below_trans HB1.out hb2
        clear hb2
        go_wp2_with fail
        go_ret
        exact ⟨by rw [F.out]; rfl, HB2.out.alloc HB2.out.size _⟩
      | true =>
        rw [h1] at F
        go_enter Tryd.func13, Tryd.ntmps13
        go_wp2_with fail
        refine HO.out.mono ?_
        rintro e w1 ⟨rfl, hb1⟩
        have HB1 : Hid (Below w.heap.size w w1) := hb1
        clear hb1
        go_wp2_with fail
        refine (HF.out _ HB1.out).mono ?_
        rintro e w2 ⟨rfl, hb2⟩
        have HB2 : Hid (Below w.heap.size w w2) := below_trans HB1.out hb2
        clear hb2
        go_wp2_with fail
        go_ret
        exact ⟨by rw [F.out]; rfl, HB2.out.alloc HB2.out.size _⟩

theorem cells_new3 (w : World) (u v z : Value) (t : TypeId) : (w.alloc (.cells #[u, v, z] t)).cell? ⟨w.heap.size, 0, none⟩ = some u ∧ (w.alloc (.cells #[u, v, z] t)).cell? ⟨w.heap.size, 1, none⟩ = some v ∧ (w.alloc (.cells #[u, v, z] t)).cell? ⟨w.heap.size, 2, none⟩ = some z := by
  have h := World.alloc_heap_new w (.cells #[u, v, z] t)
  exact ⟨cell_at h 0, cell_at h 1, cell_at h 2⟩

set_option maxRecDepth 100000 in
set_option maxHeartbeats 3200000 in
theorem implPermits_any (a : Option Addr) (n cap : Nat) (l : List Int) (p x s k : Int) (w : World) (hz : l.length = n) (hs : Sl .u64 w a l) (hl : ∀ j, U (l.getD j 0)) (hx : U x) (hT : Tab w) :
    Calls Tryd.prog 11 #[.slice a n cap, .int .i64 p, .int .u64 x, .int .i64 s, .int .i64 k] w fun e w' => e = .returned (.bool (permV n l p x s k)) ∧ Below w.heap.size w w' := by
  have HL : Hid (Calls Tryd.prog 23 #[.slice a n cap, .int .i64 p] w fun e w' => e = .returned (.bool (legalB n l p)) ∧ Below w.heap.size w w') := implLegal_any a n cap l p w hz hs hl
  have HS : Hid (∀ w, Calls Tryd.prog 24 #[.int .i64 s] w fun e w' => e = .returned (.bool (sizeB s)) ∧ w' = w) := implSize_any s
  have HK : Hid (∀ w, Calls Tryd.prog 25 #[.int .i64 k] w fun e w' => e = .returned (.bool (decide (1 ≤ k ∧ k ≤ 3))) ∧ w' = w) := fun w => by
    have := kindOk_any k w
    rw [kind_eq] at this
    exact this
  have F0 : permV n l p x s k = (legalB n l p && sizeB s && decide (1 ≤ k ∧ k ≤ 3) && !decide (lastOf x s < x) && permRest l p x (lastOf x s) k 4 0) := rfl
  have hy : IntKind.u64.wrap (IntKind.u64.wrap (x + IntKind.u64.wrap s) - 1) = lastOf x s := rfl
  have HM : legalB n l p = true → Hid ((∀ W, Below w.heap.size w W → Calls Tryd.prog 26 #[.slice a n cap, .int .u64 x, .int .u64 (lastOf x s)] W fun e w' => e = .returned (.tuple #[.agg #[.int .u64 (metV l x (lastOf x s)).1, .int .u64 (metV l x (lastOf x s)).2.1, .int .u64 (metV l x (lastOf x s)).2.2.1], .bool (metV l x (lastOf x s)).2.2.2]) ∧ Below W.heap.size W w') ∧
      permRest l p x (lastOf x s) k 4 0 = if (metV l x (lastOf x s)).2.2.2 = true then (allB (metV l x (lastOf x s)).1 (metV l x (lastOf x s)).2.1 x (lastOf x s) && allowB (metV l x (lastOf x s)).2.2.1 p k) else (p == 3)) := by
    intro h
    obtain ⟨rfl, hp⟩ := legalB_parts h
    have hok : csrsOk 22 l = true := by unfold legalB at h; rw [Bool.and_eq_true] at h; exact h.1
    obtain ⟨b, off, rfl, hb, hc⟩ := sl_cells hs hz
    exact ⟨fun W hW => firstMet_any b off cap l x (lastOf x s) W (Nat.lt_of_lt_of_le hb hW.size) (fun j hj => (hW.cell (p := ⟨b, off + j, none⟩) hb).trans (hc j hj)) hl (hT.below hW), perm_met hl hok p x (lastOf x s) k⟩
  clear hz hs hl hT hx
  generalize permV n l p x s k = res at *
  generalize permRest l p x (lastOf x s) k 4 0 = pr at *
  generalize decide (1 ≤ k ∧ k ≤ 3) = kb at *
  generalize sizeB s = sb at *
  generalize lastOf x s = y at *
  generalize legalB n l p = lb at *
  generalize metV l x y = m at *
  obtain ⟨lo, hi, r, ok⟩ := m
  simp only at HM
  cases lb with
  | false =>
    have F : Hid (res = false) := F0
    clear F0 HM
    go_enter Tryd.func11, Tryd.ntmps11
    go_wp2_with fail
    refine HL.out.mono ?_
    rintro e w1 ⟨rfl, hb1⟩
    go_wp2_with fail
    go_ret
    exact ⟨by rw [F.out]; rfl, hb1⟩
  | true =>
    have HM2 := HM rfl
    have HF : Hid (∀ W, Below w.heap.size w W → Calls Tryd.prog 26 #[.slice a n cap, .int .u64 x, .int .u64 y] W fun e w' => e = .returned (.tuple #[.agg #[.int .u64 lo, .int .u64 hi, .int .u64 r], .bool ok]) ∧ Below W.heap.size W w') := HM2.out.1
    have FP : Hid (pr = if ok = true then (allB lo hi x y && allowB r p k) else (p == 3)) := HM2.out.2
    clear HM HM2
    cases sb with
    | false =>
      have F : Hid (res = false) := F0
      clear F0
      go_enter Tryd.func11, Tryd.ntmps11
      go_wp2_with fail
      refine HL.out.mono ?_
      rintro e w1 ⟨rfl, hb1⟩
      go_wp2_with fail
      refine (HS.out _).mono ?_
      rintro e w2 ⟨rfl, hw2⟩
      subst hw2
      go_wp2_with fail
      go_ret
      exact ⟨by rw [F.out]; rfl, hb1⟩
    | true =>
      cases kb with
      | false =>
        have F : Hid (res = false) := F0
        clear F0
        go_enter Tryd.func11, Tryd.ntmps11
        go_wp2_with fail
        refine HL.out.mono ?_
        rintro e w1 ⟨rfl, hb1⟩
        go_wp2_with fail
        refine (HS.out _).mono ?_
        rintro e w2 ⟨rfl, hw2⟩
        subst hw2
        go_wp2_with fail
        refine (HK.out _).mono ?_
        rintro e w3 ⟨rfl, hw3⟩
        subst hw3
        go_wp2_with fail
        go_ret
        exact ⟨by rw [F.out]; rfl, hb1⟩
      | true =>
        cases hlt : decide (y < x) with
        | true =>
          rw [hlt] at F0
          have F : Hid (res = false) := F0
          clear F0
          go_enter Tryd.func11, Tryd.ntmps11
          go_wp2_with fail
          refine HL.out.mono ?_
          rintro e w1 ⟨rfl, hb1⟩
          go_wp2_with fail
          refine (HS.out _).mono ?_
          rintro e w2 ⟨rfl, hw2⟩
          subst hw2
          go_wp2_with fail
          refine (HK.out _).mono ?_
          rintro e w3 ⟨rfl, hw3⟩
          subst hw3
          go_wp2_with fail
          go_ret
          exact ⟨by rw [F.out]; rfl, hb1⟩
        | false =>
          rw [hlt] at F0
          have F1 : Hid (res = pr) := F0.trans (by simp)
          clear F0
          cases ok with
          | false =>
            have F : Hid (res = (p == 3)) := F1.out.trans FP.out
            clear FP F1
            go_enter Tryd.func11, Tryd.ntmps11
            go_wp2_with fail
            refine HL.out.mono ?_
            rintro e w1 ⟨rfl, hb1⟩
            have HB1 : Hid (Below w.heap.size w w1) := hb1
            clear hb1
            go_wp2_with fail
            refine (HS.out _).mono ?_
            rintro e w2 ⟨rfl, hw2⟩
            subst hw2
            go_wp2_with fail
            refine (HK.out _).mono ?_
            rintro e w3 ⟨rfl, hw3⟩
            subst hw3
            go_wp2_with fail
            refine (HF.out _ HB1.out).mono ?_
            rintro e w4 ⟨rfl, hb4⟩
            have HB4 : Hid (Below w.heap.size w w4) := below_trans HB1.out hb4
            clear hb4
            go_wp2_with fail
            go_ret
            exact ⟨by rw [F.out]; rfl, HB4.out.alloc HB4.out.size _⟩
          | true =>
            have F2 : Hid (res = (allB lo hi x y && allowB r p k)) := F1.out.trans FP.out
            clear FP F1
            have HA : Hid (∀ w, Calls Tryd.prog 27 #[.agg #[.int .u64 lo, .int .u64 hi, .int .u64 r], .int .u64 x, .int .u64 y] w fun e w' => e = .returned (.bool (allB lo hi x y)) ∧ Below w.heap.size w w') := hasAll_any lo hi r x y
            have HW : Hid (∀ w, Calls Tryd.prog 28 #[.agg #[.int .u64 lo, .int .u64 hi, .int .u64 r], .int .i64 p, .int .i64 k] w fun e w' => e = .returned (.bool (allowB r p k)) ∧ Below w.heap.size w w') := allows_any lo hi r p k
            generalize allB lo hi x y = ab at *
            generalize allowB r p k = aw at *
            cases ab with
            | false =>
              have F : Hid (res = false) := F2.out
              clear F2
              go_enter Tryd.func11, Tryd.ntmps11
              go_wp2_with fail
              refine HL.out.mono ?_
              rintro e w1 ⟨rfl, hb1⟩
              have HB1 : Hid (Below w.heap.size w w1) := hb1
              clear hb1
              go_wp2_with fail
              refine (HS.out _).mono ?_
              rintro e w2 ⟨rfl, hw2⟩
              subst hw2
              go_wp2_with fail
              refine (HK.out _).mono ?_
              rintro e w3 ⟨rfl, hw3⟩
              subst hw3
              go_wp2_with fail
              refine (HF.out _ HB1.out).mono ?_
              rintro e w4 ⟨rfl, hb4⟩
              have HB4 : Hid (Below w.heap.size w w4) := below_trans HB1.out hb4
              clear hb4
              go_wp2_with fail
              refine (HA.out _).mono ?_
              rintro e w5 ⟨rfl, hb5⟩
              have HB5 : Hid (Below w.heap.size w w5) := below_trans (HB4.out.alloc HB4.out.size _) hb5
              clear hb5
              go_wp2_with fail
              go_ret
              exact ⟨by rw [F.out]; rfl, HB5.out⟩
            | true =>
              have F : Hid (res = aw) := F2.out.trans (by simp)
              clear F2
              go_enter Tryd.func11, Tryd.ntmps11
              go_wp2_with fail
              refine HL.out.mono ?_
              rintro e w1 ⟨rfl, hb1⟩
              have HB1 : Hid (Below w.heap.size w w1) := hb1
              clear hb1
              go_wp2_with fail
              refine (HS.out _).mono ?_
              rintro e w2 ⟨rfl, hw2⟩
              subst hw2
              go_wp2_with fail
              refine (HK.out _).mono ?_
              rintro e w3 ⟨rfl, hw3⟩
              subst hw3
              go_wp2_with fail
              refine (HF.out _ HB1.out).mono ?_
              rintro e w4 ⟨rfl, hb4⟩
              have HB4 : Hid (Below w.heap.size w w4) := below_trans HB1.out hb4
              clear hb4
              go_wp2_with fail
              refine (HA.out _).mono ?_
              rintro e w5 ⟨rfl, hb5⟩
              have HB5 : Hid (Below w.heap.size w w5) := below_trans (HB4.out.alloc HB4.out.size _) hb5
              obtain ⟨n0, n1, n2⟩ := cells_new3 w4 (.int .u64 lo) (.int .u64 hi) (.int .u64 r) 37
              have m0 := (hb5.cell (p := ⟨w4.heap.size, 0, none⟩) (by simp)).trans n0
              have m1 := (hb5.cell (p := ⟨w4.heap.size, 1, none⟩) (by simp)).trans n1
              have m2 := (hb5.cell (p := ⟨w4.heap.size, 2, none⟩) (by simp)).trans n2
              clear hb5 n0 n1 n2
              go_wp2_with fail
              refine (HW.out _).mono ?_
              rintro e w6 ⟨rfl, hb6⟩
              have HB6 : Hid (Below w.heap.size w w6) := below_trans HB5.out hb6
              clear hb6 m0 m1 m2
              go_wp2_with fail
              go_ret
              exact ⟨by rw [F.out]; rfl, HB6.out⟩

end Go.Proofs.YtaicnnkcdpdhaajDoor
