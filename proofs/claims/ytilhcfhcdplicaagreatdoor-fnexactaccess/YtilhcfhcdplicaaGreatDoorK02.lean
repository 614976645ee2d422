/- Own lemmas. -/
import Derived.Test.YtilhcfhcdplicaaGreatDoorK01
import Derived.Test.YtilhcfhcdplicaaGreatDoorProg
namespace Go.Proofs.YtilhcfhcdplicaaGreatDoor
open Go.RowKit
set_option linter.unusedVariables false

theorem Tryz.info5 : (Tryz.prog.info? 5).map (fun i => (i.zero, i.size, i.bytes)) = some (some (.int .u8 0), 1, 1) := by kernel_rfl

set_option maxHeartbeats 400000 in
theorem toByteS_any (a : Option Addr) (n cap : Nat) (zs : List Int) (w : World) (hz : zs.length = n) (hn : n ≤ 1048576) (hs : Sl .u8 w a zs) :
    Calls Tryz.prog 72 #[.slice a n cap] w fun e w' => e = .returned (.slice (some ⟨w.heap.size, 0, none⟩) n n) ∧
      w'.ownsRow w.heap.size 5 1 (.slice (some ⟨w.heap.size, 0, none⟩) n n) n (zs.map (Value.int .u8)) ∧ Below w.heap.size w w' := by
  obtain ⟨i0, hi, hz0, hz1, hz2⟩ := info_parts Tryz.info5
  have hb2 : i0.bytes * n ≤ 281474976710656 := by rw [hz2]; omega
  have hb3 : n ≤ maxLen := by unfold maxLen; omega
  have HZ : Hid (zs.length = n) := hz
  clear hz hz2
  go_enter Tryz.func72, Tryz.ntmps72
  go_wp2_with (at_make; refine wpList_make_full _ rfl (.tmp 6) (.tmp 6) 22 rfl w.heap.size 5 i0 (.int .u8 0) 1 Tryz.underlying22 hi hz0 hz1 .i64 .i64 _ _ n rfl rfl rfl rfl hb2 hb3 (Nat.le_refl _) ?_; intro w1 hown hgrow)
  have hown0 : w1.ownsRow w.heap.size 5 1 (.slice (some ⟨w.heap.size, 0, none⟩) n n) n (Lk .u8 zs n 0) := by
    rw [Lk_zero, ← toList_madeCells_one]; simpa [Value.cells] using hown
  have hb1 : Below w.heap.size w w1 := (Below.refl _ _).grown hgrow (Nat.le_refl _) (by intro k h; cases h)
  clear hown hgrow
  go_loopw [4] (fun i wr => ∃ k : Nat, k ≤ n ∧ i = .int .i64 k ∧ wr.ownsRow w.heap.size 5 1 (.slice (some ⟨w.heap.size, 0, none⟩) n n) n (Lk .u8 zs n k) ∧ Below w.heap.size w wr)
    (fun i _ => n - (intOf i).toNat)
  case atStart => exact ⟨0, Nat.zero_le _, rfl, hown0, hb1⟩
  case round =>
    obtain ⟨k, hk, rfl, hown, hbel⟩ := hrel
    clear hown0 hb1
    by_cases hlt : k < n
    · obtain ⟨b, off, rfl, hb, hc⟩ := hs k (by have := HZ.out; omega)
      have hcx : wr.cell? ⟨b, off + k, none⟩ = some (.int .u8 (zs.getD k 0)) := (hbel.cell (by exact hb)).trans hc
      have hfr : wr.frozen? ⟨w.heap.size, k, none⟩ = false := hown.frozenAt k
      have hst := (hown.stored k (.int .u8 (zs.getD k 0))).1
      have hstb : Below w.heap.size w (wr.setCell ⟨w.heap.size, k, none⟩ (.int .u8 (zs.getD k 0))) := hbel.setCell (Nat.le_refl _) _
      obtain ⟨v3, hv3⟩ : ∃ v, wr.cell? ⟨w.heap.size, k, none⟩ = some v := by
        rw [hown.cellAt k (by omega)]
        exact ⟨_, List.getElem?_eq_getElem (by rw [Lk_len _ _ _ _ HZ.out hk]; exact hlt)⟩
      rw [Lk_set _ _ _ _ HZ.out hlt] at hst
      clear hc hown
      go_wp2
      go_roundw
      case rel => exact ⟨k + 1, by omega, by go_num, hst, hstb⟩
      case measure => simp [intOf]; omega
    · have : k = n := by omega
      subst this
      rw [Lk_end _ _ _ HZ.out] at hown
      go_wp2
      go_ret
      exact ⟨rfl, hown, hbel⟩

set_option maxHeartbeats 400000 in
theorem eqByteS_any (a b : Option Addr) (n m ca cb : Nat) (xs ys : List Int) (w : World) (hx : xs.length = n) (hy : ys.length = m) (hn : n ≤ 1048576) (hm : m ≤ 1048576) (hs : Sl .u8 w a xs) (ht : Sl .u8 w b ys) :
    Calls Tryz.prog 75 #[.slice a n ca, .slice b m cb] w fun e w' => e = .returned (.bool (decide (xs = ys))) ∧ Below w.heap.size w w' := by
  by_cases hnm : n = m
  · subst hnm
    have HX : Hid (xs.length = n) := hx
    have HY : Hid (ys.length = n) := hy
    have hnn : ((n : Int) != (n : Int)) = false := by simp
    clear hx hy
    go_enter Tryz.func75, Tryz.ntmps75
    go_wp2
    go_loopw [5] (fun i wr => ∃ k : Nat, k ≤ n ∧ i = .int .i64 k ∧ Hid (xs.take k = ys.take k) ∧ Below w.heap.size w wr)
      (fun i _ => n - (intOf i).toNat)
    case atStart => exact ⟨0, Nat.zero_le _, rfl, (rfl : xs.take 0 = ys.take 0), Below.refl _ _⟩
    case round =>
      obtain ⟨k, hk, rfl, heq, hbel⟩ := hrel
      by_cases hlt : k < n
      · obtain ⟨b1, o1, rfl, hb1, hc1⟩ := hs k (by have := HX.out; omega)
        obtain ⟨b2, o2, rfl, hb2, hc2⟩ := ht k (by have := HY.out; omega)
        obtain ⟨x, hxx⟩ : ∃ x, x = xs.getD k 0 := ⟨_, rfl⟩
        obtain ⟨y, hyy⟩ : ∃ y, y = ys.getD k 0 := ⟨_, rfl⟩
        have c1 : wr.cell? ⟨b1, o1 + k, none⟩ = some (.int .u8 x) := by rw [hxx]; exact (hbel.cell (by exact hb1)).trans hc1
        have c2 : wr.cell? ⟨b2, o2 + k, none⟩ = some (.int .u8 y) := by rw [hyy]; exact (hbel.cell (by exact hb2)).trans hc2
        have XX : Hid (x = xs.getD k 0) := hxx
        have YY : Hid (y = ys.getD k 0) := hyy
        clear hc1 hc2 hxx hyy
        by_cases hxy : x = y
        · subst hxy
          have R := take_next xs ys k n HX.out HY.out hlt heq.out (XX.out.symm.trans YY.out)
          have RR : Hid (xs.take (k + 1) = ys.take (k + 1)) := R
          clear R
          have hne : (x != x) = false := by simp
          go_wp2
          go_region
          all_goals go_wp2
          all_goals go_roundw
          case rel => exact ⟨k + 1, by omega, by go_num, RR, hbel.drew⟩
          case measure => simp [intOf]; omega
        · have F : Hid (decide (xs = ys) = false) := by
            show decide (xs = ys) = false
            rw [decide_eq_false_iff_not]
            intro h; apply hxy; rw [XX.out, YY.out, h]
          have hne : (x != y) = true := by simpa using hxy
          clear hxy
          go_wp2
          go_region
          all_goals go_wp2
          all_goals go_ret
          all_goals exact ⟨by rw [F.out]; rfl, hbel.drew⟩
      · have hkn : k = n := by omega
        subst hkn
        have F : Hid (decide (xs = ys) = true) := by
          show decide (xs = ys) = true
          rw [decide_eq_true_eq]
          have h := heq.out
          rw [List.take_of_length_le (by have := HX.out; omega), List.take_of_length_le (by have := HY.out; omega)] at h
          exact h
        go_wp2
        go_ret
        exact ⟨by rw [F.out]; rfl, hbel⟩
  · have F : Hid (decide (xs = ys) = false) := by
      show decide (xs = ys) = false
      rw [decide_eq_false_iff_not]
      intro h; apply hnm; rw [← hx, ← hy, h]
    have hne : ((n : Int) != (m : Int)) = true := by simp; omega
    clear hx hy
    go_enter Tryz.func75, Tryz.ntmps75
    go_wp2
    go_ret
    exact ⟨by rw [F.out]; rfl, Below.refl _ _⟩

theorem specRamOk_any (a : Option Addr) (n cap : Nat) (w : World) (hn : n ≤ 1048576) :
    Calls Tryz.prog 56 #[.slice a n cap] w fun e w' => e = .returned (.bool (ramOkB n)) ∧ w' = w := by
  by_cases h1 : 4096 ≤ n
  · by_cases h2 : n ≤ 65536
    · have d2 : decide ((n : Int) ≤ 65536) = true := by simp; omega
      by_cases h3 : n % 4096 = 0
      · have F : Hid (ramOkB n = true) := by show ramOkB n = true; simp [ramOkB, h1, h2, h3]
        have d3 : ((n : Int) % 4096 == 0) = true := by simp; omega
        go_enter Tryz.func56, Tryz.ntmps56
        go_wp2
        go_ret
        exact ⟨by rw [F.out]; rfl, rfl⟩
      · have F : Hid (ramOkB n = false) := by show ramOkB n = false; simp [ramOkB, h3]
        have d3 : ((n : Int) % 4096 == 0) = false := by simp; omega
        go_enter Tryz.func56, Tryz.ntmps56
        go_wp2
        go_ret
        exact ⟨by rw [F.out]; rfl, rfl⟩
    · have F : Hid (ramOkB n = false) := by show ramOkB n = false; simp [ramOkB, h2]
      have d2 : decide ((n : Int) ≤ 65536) = false := by simp; omega
      go_enter Tryz.func56, Tryz.ntmps56
      go_wp2
      go_ret
      exact ⟨by rw [F.out]; rfl, rfl⟩
  · have F : Hid (ramOkB n = false) := by show ramOkB n = false; simp [ramOkB, h1]
    have d1 : decide ((4096 : Int) ≤ n) = false := by simp; omega
    go_enter Tryz.func56, Tryz.ntmps56
    go_wp2
    go_ret
    exact ⟨by rw [F.out]; rfl, rfl⟩

theorem implRamOk_any (a : Option Addr) (n cap : Nat) (w : World) (hn : n ≤ 1048576) :
    Calls Tryz.prog 50 #[.slice a n cap] w fun e w' => e = .returned (.bool (ramOkB n)) ∧ w' = w := by
  by_cases h1 : 4096 ≤ n
  · by_cases h2 : n ≤ 65536
    · have d2 : decide ((n : Int) ≤ 65536) = true := by simp; omega
      by_cases h3 : n % 4096 = 0
      · have F : Hid (ramOkB n = true) := by show ramOkB n = true; simp [ramOkB, h1, h2, h3]
        have d3 : ((n : Int) % 4096 == 0) = true := by simp; omega
        go_enter Tryz.func50, Tryz.ntmps50
        go_wp2
        go_ret
        exact ⟨by rw [F.out]; rfl, rfl⟩
      · have F : Hid (ramOkB n = false) := by show ramOkB n = false; simp [ramOkB, h3]
        have d3 : ((n : Int) % 4096 == 0) = false := by simp; omega
        go_enter Tryz.func50, Tryz.ntmps50
        go_wp2
        go_ret
        exact ⟨by rw [F.out]; rfl, rfl⟩
    · have F : Hid (ramOkB n = false) := by show ramOkB n = false; simp [ramOkB, h2]
      have d2 : decide ((n : Int) ≤ 65536) = false := by simp; omega
      go_enter Tryz.func50, Tryz.ntmps50
      go_wp2
      go_ret
      exact ⟨by rw [F.out]; rfl, rfl⟩
  · have F : Hid (ramOkB n = false) := by show ramOkB n = false; simp [ramOkB, h1]
    have d1 : decide ((4096 : Int) ≤ n) = false := by simp; omega
    go_enter Tryz.func50, Tryz.ntmps50
    go_wp2
    go_ret
    exact ⟨by rw [F.out]; rfl, rfl⟩

set_option maxHeartbeats 400000 in
theorem markByteS_any (a : Option Addr) (n cap base : Nat) (k : Int) (xs : List Int) (w : World) (hn : n ≤ 1048576) (hk0 : 0 ≤ k) (hk1 : k ≤ 1099511627776)
    (hown : w.ownsRow base 5 1 (.slice a n cap) n (xs.map (Value.int .u8))) :
    Calls Tryz.prog 78 #[.slice a n cap, .int .i64 k] w fun e w' => e = .returned (.int .i64 (k + n)) ∧
      w'.ownsRow base 5 1 (.slice a n cap) n ((marks k n).map (Value.int .u8)) ∧ w.grownBy w' (Value.slice a n cap).ownBlock := by
  have HX : Hid (xs.length = n) := by show xs.length = n; have := hown.1; simpa using this
  rcases hown.2 with ⟨h2, h3⟩ | ⟨g, cap', cur, hv, hg, _⟩
  · simp only [Value.slice.injEq] at h2
    obtain ⟨rfl, rfl, rfl⟩ := h2
    have hx0 : xs = [] := List.eq_nil_of_length_eq_zero HX.out
    subst hx0
    go_enter Tryz.func78, Tryz.ntmps78
    go_wp2
    refine wp_loop_rounds 1 ?_
    rw [rounds_succ]
    go_wp2
    go_ret
    exact ⟨by simp, hown, ⟨rfl, rfl, rfl, Nat.le_refl _, fun _ _ _ => rfl⟩⟩
  · simp only [Value.slice.injEq, true_and] at hv
    obtain ⟨rfl, rfl⟩ := hv
    have hown0 : w.ownsRow base 5 1 (.slice (some ⟨g, 0, none⟩) n cap) n ((Mk xs k n 0).map (Value.int .u8)) := by rw [Mk_zero]; exact hown
    clear hown
    go_enter Tryz.func78, Tryz.ntmps78
    go_wp2
    go_loopw [1, 5] (fun c i wr => ∃ j : Nat, j ≤ n ∧ i = .int .i64 j ∧ c = .int .i64 (k + j) ∧ wr.ownsRow base 5 1 (.slice (some ⟨g, 0, none⟩) n cap) n ((Mk xs k n j).map (Value.int .u8)) ∧ w.grownBy wr (some g))
      (fun _ i _ => n - (intOf i).toNat)
    case atStart => exact ⟨0, Nat.zero_le _, rfl, by simp, hown0, ⟨rfl, rfl, rfl, Nat.le_refl _, fun _ _ _ => rfl⟩⟩
    case round =>
      obtain ⟨j, hj, rfl, rfl, hown, hgr⟩ := hrel
      clear hown0
      by_cases hlt : j < n
      · have hfr : wr.frozen? ⟨g, j, none⟩ = false := hown.frozenAt j
        have hst := hown.stored j (.int .u8 ((k + (j : Int)) % 256))
        obtain ⟨v3, hv3⟩ : ∃ v, wr.cell? ⟨g, j, none⟩ = some v := by
          rw [hown.cellAt j (by omega)]
          exact ⟨_, List.getElem?_eq_getElem (by rw [List.length_map, Mk_len _ _ _ _ HX.out hj]; exact hlt)⟩
        rw [map_set_u8, Mk_set _ _ _ _ HX.out hlt] at hst
        have hgr2 : w.grownBy (wr.setCell ⟨g, j, none⟩ (.int .u8 ((k + (j : Int)) % 256))) (some g) :=
          ⟨hst.2.os.trans hgr.os, hst.2.tape.trans hgr.tape, hst.2.output.trans hgr.output, Nat.le_trans hgr.size hst.2.size, fun b hb hne => (hst.2.block b (Nat.lt_of_lt_of_le hb hgr.size) hne).trans (hgr.block b hb hne)⟩
        have hst1 := hst.1
        clear hst hown
        go_wp2
        go_roundw
        case rel => exact ⟨j + 1, by omega, by go_num, by go_num, hst1, hgr2⟩
        case measure => simp [intOf]; omega
      · have : j = n := by omega
        subst this
        rw [Mk_end _ _ _ HX.out] at hown
        go_wp2
        go_ret
        exact ⟨rfl, hown, hgr⟩

theorem heldByteS_any (a : Option Addr) (n cap : Nat) (k : Int) (w : World) (hn : n ≤ 1048576) (hk0 : 0 ≤ k) (hk1 : k ≤ 1099511627776)
    (hs : Sl .u8 w a (marks k n)) :
    Calls Tryz.prog 81 #[.slice a n cap, .int .i64 k] w fun e w' => e = .returned (.int .i64 (k + n)) ∧ w' = w := by
  go_enter Tryz.func81, Tryz.ntmps81
  go_wp2
  go_loop [1, 5] (fun c i => ∃ j : Nat, j ≤ n ∧ i = .int .i64 j ∧ c = .int .i64 (k + j)) (fun _ i => n - (intOf i).toNat)
  case atStart => exact ⟨0, Nat.zero_le _, rfl, by simp⟩
  case round =>
    obtain ⟨j, hj, rfl, rfl⟩ := hrel
    by_cases hlt : j < n
    · obtain ⟨b, off, rfl, hb, hc⟩ := hs j (by rw [marks_len]; exact hlt)
      rw [marks_get k n j hlt] at hc
      have hne : ((k + (j : Int)) % 256 != (k + (j : Int)) % 256) = false := by simp
      go_wp2
      go_round
      case rel => exact ⟨j + 1, by omega, by go_num, by go_num⟩
      case measure => simp [intOf]; omega
    · have : j = n := by omega
      subst this
      go_wp2
      go_ret
      exact ⟨rfl, rfl⟩

theorem specSize_any (s : Int) (w : World) : Calls Tryz.prog 42 #[.int .i64 s] w fun e w' => e = .returned (.bool (sizeB s)) ∧ w' = w := by
  rcases size_cases s with (rfl | rfl | rfl | rfl) | h
  · go_enter Tryz.func42, Tryz.ntmps42
    go_wp2
    go_ret
    exact ⟨rfl, rfl⟩
  · go_enter Tryz.func42, Tryz.ntmps42
    go_wp2
    go_ret
    exact ⟨rfl, rfl⟩
  · go_enter Tryz.func42, Tryz.ntmps42
    go_wp2
    go_ret
    exact ⟨rfl, rfl⟩
  · go_enter Tryz.func42, Tryz.ntmps42
    go_wp2
    go_ret
    exact ⟨rfl, rfl⟩
  · have F : Hid (sizeB s = false) := sizeB_no h
    obtain ⟨h1, h2, h3, h4⟩ := h
    go_enter Tryz.func42, Tryz.ntmps42
    go_wp2
    go_ret
    exact ⟨by rw [F.out]; rfl, rfl⟩

theorem implSize_any (s : Int) (w : World) : Calls Tryz.prog 86 #[.int .i64 s] w fun e w' => e = .returned (.bool (sizeB s)) ∧ w' = w := by
  rcases size_cases s with (rfl | rfl | rfl | rfl) | h
  · go_enter Tryz.func86, Tryz.ntmps86
    go_wp2
    go_ret
    exact ⟨rfl, rfl⟩
  · go_enter Tryz.func86, Tryz.ntmps86
    go_wp2
    go_ret
    exact ⟨rfl, rfl⟩
  · go_enter Tryz.func86, Tryz.ntmps86
    go_wp2
    go_ret
    exact ⟨rfl, rfl⟩
  · go_enter Tryz.func86, Tryz.ntmps86
    go_wp2
    go_ret
    exact ⟨rfl, rfl⟩
  · have F : Hid (sizeB s = false) := sizeB_no h
    obtain ⟨h1, h2, h3, h4⟩ := h
    go_enter Tryz.func86, Tryz.ntmps86
    go_wp2
    go_ret
    exact ⟨by rw [F.out]; rfl, rfl⟩

def placeB (n : Nat) (addr size : Int) : Int := if okB n addr size then addr - 2147483648 else 0

set_option maxHeartbeats 400000 in
theorem place_any (a : Option Addr) (n cap : Nat) (addr size : Int) (w : World) (hn : n ≤ 1048576) (ha : 0 ≤ addr) (ha2 : addr ≤ 18446744073709551615) :
    Calls Tryz.prog 211 #[.slice a n cap, .int .u64 addr, .int .i64 size] w fun e w' => e = .returned (.tuple #[.int .i64 (placeB n addr size), .bool (okB n addr size)]) ∧ w' = w := by
  cases hr : ramOkB n
  · have F1 : Hid (okB n addr size = false) := by show okB n addr size = false; simp [okB, hr]
    have F2 : Hid (placeB n addr size = 0) := by show placeB n addr size = 0; simp [placeB, F1.out]
    go_enter Tryz.func211, Tryz.ntmps211
    go_wp2_with (go_at_call 50; refine (implRamOk_any _ _ _ _ hn).mono ?_; rintro e w' ⟨rfl, rfl⟩)
    go_ret2
    exact ⟨by rw [F1.out, F2.out]; rfl, rfl⟩
  · have hb := ramOkB_bd hr
    cases hsz : sizeB size
    · have F1 : Hid (okB n addr size = false) := by show okB n addr size = false; simp [okB, hsz]
      have F2 : Hid (placeB n addr size = 0) := by show placeB n addr size = 0; simp [placeB, F1.out]
      go_enter Tryz.func211, Tryz.ntmps211
      go_wp2_with (first | (go_at_call 50; refine (implRamOk_any _ _ _ _ hn).mono ?_; rintro e w' ⟨rfl, rfl⟩) | (go_at_call 86; refine (implSize_any _ _).mono ?_; rintro e w' ⟨rfl, rfl⟩))
      go_ret2
      exact ⟨by rw [F1.out, F2.out]; rfl, rfl⟩
    · have hs5 : size = 1 ∨ size = 2 ∨ size = 4 ∨ size = 8 := of_decide_eq_true hsz
      have hs1 : 1 ≤ size := by omega
      have hs2 : size ≤ 8 := by omega
      clear hs5
      by_cases hlow : addr < 2147483648
      · have F1 : Hid (okB n addr size = false) := by show okB n addr size = false; simp [okB]; omega
        have F2 : Hid (placeB n addr size = 0) := by show placeB n addr size = 0; simp [placeB, F1.out]
        have d1 : decide (addr < 2147483648) = true := by simpa using hlow
        go_enter Tryz.func211, Tryz.ntmps211
        go_wp2_with (first | (go_at_call 50; refine (implRamOk_any _ _ _ _ hn).mono ?_; rintro e w' ⟨rfl, rfl⟩) | (go_at_call 86; refine (implSize_any _ _).mono ?_; rintro e w' ⟨rfl, rfl⟩))
        go_ret2
        exact ⟨by rw [F1.out, F2.out]; rfl, rfl⟩
      · have d1 : decide (addr < 2147483648) = false := by simpa using hlow
        by_cases hin : addr - 2147483648 + size ≤ n
        · have F1 : Hid (okB n addr size = true) := by show okB n addr size = true; simp [okB, hr, hsz]; omega
          have F2 : Hid (placeB n addr size = addr - 2147483648) := by show placeB n addr size = _; simp [placeB, F1.out]
          have d2 : decide ((n : Int) - size < addr - 2147483648) = false := by simp; omega
          go_enter Tryz.func211, Tryz.ntmps211
          go_wp2_with (first | (go_at_call 50; refine (implRamOk_any _ _ _ _ hn).mono ?_; rintro e w' ⟨rfl, rfl⟩) | (go_at_call 86; refine (implSize_any _ _).mono ?_; rintro e w' ⟨rfl, rfl⟩))
          go_ret2
          exact ⟨by rw [F1.out, F2.out]; rfl, rfl⟩
        · have F1 : Hid (okB n addr size = false) := by show okB n addr size = false; simp [okB]; omega
          have F2 : Hid (placeB n addr size = 0) := by show placeB n addr size = 0; simp [placeB, F1.out]
          have d2 : decide ((n : Int) - size < addr - 2147483648) = true := by simp; omega
          go_enter Tryz.func211, Tryz.ntmps211
          go_wp2_with (first | (go_at_call 50; refine (implRamOk_any _ _ _ _ hn).mono ?_; rintro e w' ⟨rfl, rfl⟩) | (go_at_call 86; refine (implSize_any _ _).mono ?_; rintro e w' ⟨rfl, rfl⟩))
          go_ret2
          exact ⟨by rw [F1.out, F2.out]; rfl, rfl⟩

set_option maxHeartbeats 400000 in
theorem inside_any (a : Option Addr) (n cap : Nat) (addr size : Int) (w : World) (hr : ramOkB n = true) (hsz : sizeB size = true) (ha : 0 ≤ addr) (ha2 : addr ≤ 18446744073709551615) :
    Calls Tryz.prog 100 #[.slice a n cap, .int .u64 addr, .int .i64 size] w fun e w' => e = .returned (.bool (okB n addr size)) ∧ w' = w := by
  have hb := ramOkB_bd hr
  have hs5 : size = 1 ∨ size = 2 ∨ size = 4 ∨ size = 8 := of_decide_eq_true hsz
  have hs1 : 1 ≤ size := by omega
  have hs2 : size ≤ 8 := by omega
  clear hs5
  by_cases hlow : 2147483648 ≤ addr
  · by_cases hlt : addr - 2147483648 < n
    · by_cases hin : size ≤ n - (addr - 2147483648)
      · have F1 : Hid (okB n addr size = true) := by show okB n addr size = true; simp [okB, hr, hsz]; omega
        have d1 : decide (2147483648 ≤ addr) = true := by simpa using hlow
        have d2 : decide (addr - 2147483648 < (n : Int)) = true := by simpa using hlt
        have d3 : decide (size ≤ (n : Int) - (addr - 2147483648)) = true := by simpa using hin
        go_enter Tryz.func100, Tryz.ntmps100
        go_wp2
        go_ret
        exact ⟨by rw [F1.out]; rfl, rfl⟩
      · have F1 : Hid (okB n addr size = false) := by show okB n addr size = false; simp [okB]; omega
        have d1 : decide (2147483648 ≤ addr) = true := by simpa using hlow
        have d2 : decide (addr - 2147483648 < (n : Int)) = true := by simpa using hlt
        have d3 : decide (size ≤ (n : Int) - (addr - 2147483648)) = false := by simpa using hin
        go_enter Tryz.func100, Tryz.ntmps100
        go_wp2
        go_ret
        exact ⟨by rw [F1.out]; rfl, rfl⟩
    · have F1 : Hid (okB n addr size = false) := by show okB n addr size = false; simp [okB]; omega
      have d1 : decide (2147483648 ≤ addr) = true := by simpa using hlow
      have d2 : decide (addr - 2147483648 < (n : Int)) = false := by simpa using hlt
      go_enter Tryz.func100, Tryz.ntmps100
      go_wp2
      go_ret
      exact ⟨by rw [F1.out]; rfl, rfl⟩
  · have F1 : Hid (okB n addr size = false) := by show okB n addr size = false; simp [okB]; omega
    have d1 : decide (2147483648 ≤ addr) = false := by simpa using hlow
    go_enter Tryz.func100, Tryz.ntmps100
    go_wp2
    go_ret
    exact ⟨by rw [F1.out]; rfl, rfl⟩

set_option maxHeartbeats 400000 in
theorem l1Load_any (a : Option Addr) (n cap f m : Nat) (zs : List Int) (w : World) (hz : zs.length = n) (hn : n ≤ 1048576) (hs : Sl .u8 w a zs) (hw : ∀ y ∈ zs, (Lit.int .u8 y).wf = true)
    (hm1 : 1 ≤ m) (hm : m ≤ 8) (hf : f + m ≤ n) :
    Calls Tryz.prog 101 #[.slice a n cap, .int .u64 (2147483648 + (f : Int)), .int .i64 (m : Int)] w fun e w' => e = .returned (.int .u64 (le zs f m)) ∧ w' = w := by
  have HZ : Hid (zs.length = n) := hz
  have HW : Hid (∀ y ∈ zs, (Lit.int .u8 y).wf = true) := hw
  clear hz hw
  go_enter Tryz.func101, Tryz.ntmps101
  go_wp2
  go_loop [8, 9] (fun x i => ∃ j : Nat, j ≤ m ∧ i = .int .i64 ((j : Int) - 1) ∧ x = .int .u64 (le zs (f + j) (m - j))) (fun _ i => (intOf i + 1).toNat)
  case atStart => exact ⟨m, Nat.le_refl _, rfl, by simp [le]⟩
  case round =>
    obtain ⟨j, hj, rfl, rfl⟩ := hrel
    by_cases hlt : 1 ≤ j
    · obtain ⟨k, rfl⟩ : ∃ k, j = k + 1 := ⟨j - 1, by omega⟩
      obtain ⟨b, off, rfl, hb, hc⟩ := hs (f + k) (by have := HZ.out; omega)
      have hx := byte_bd HW.out (f + k)
      obtain ⟨x, hxx⟩ : ∃ x, x = zs.getD (f + k) 0 := ⟨_, rfl⟩
      obtain ⟨y, hyy⟩ : ∃ y, y = le zs (f + (k + 1)) (m - (k + 1)) := ⟨_, rfl⟩
      rw [← hxx] at hc hx
      rw [← hyy]
      have hy := le_bd7 zs (byte_bd HW.out) (m - (k + 1)) (f + (k + 1)) (by omega)
      rw [← hyy] at hy
      have S : Hid (bits .or .u64 (y * 256) x = le zs (f + k) (m - k)) := by
        show bits .or .u64 (y * 256) x = le zs (f + k) (m - k)
        rw [or_low y x hy.1 hy.2 hx.1 hx.2, show m - k = (m - (k + 1)) + 1 from by omega, le, hxx, hyy]
        rfl
      clear hxx hyy
      go_wp2
      go_round
      case rel => exact ⟨k, by omega, by go_num, by rw [← S.out]⟩
      case measure => simp [intOf]
    · have h0 : j = 0 := by omega
      subst h0
      go_wp2
      go_ret
      exact ⟨rfl, rfl⟩

theorem idx8_0 (b0 b1 b2 b3 b4 b5 b6 b7 : Int) (w : World) : (Instr.index 241 (.agg #[.int .u8 b0, .int .u8 b1, .int .u8 b2, .int .u8 b3, .int .u8 b4, .int .u8 b5, .int .u8 b6, .int .u8 b7]) (.int .i64 0)).run Tryz.prog w = .ok (.int .u8 b0) w := by kernel_rfl
theorem idx8_1 (b0 b1 b2 b3 b4 b5 b6 b7 : Int) (w : World) : (Instr.index 241 (.agg #[.int .u8 b0, .int .u8 b1, .int .u8 b2, .int .u8 b3, .int .u8 b4, .int .u8 b5, .int .u8 b6, .int .u8 b7]) (.int .i64 1)).run Tryz.prog w = .ok (.int .u8 b1) w := by kernel_rfl
theorem idx8_2 (b0 b1 b2 b3 b4 b5 b6 b7 : Int) (w : World) : (Instr.index 241 (.agg #[.int .u8 b0, .int .u8 b1, .int .u8 b2, .int .u8 b3, .int .u8 b4, .int .u8 b5, .int .u8 b6, .int .u8 b7]) (.int .i64 2)).run Tryz.prog w = .ok (.int .u8 b2) w := by kernel_rfl
theorem idx8_3 (b0 b1 b2 b3 b4 b5 b6 b7 : Int) (w : World) : (Instr.index 241 (.agg #[.int .u8 b0, .int .u8 b1, .int .u8 b2, .int .u8 b3, .int .u8 b4, .int .u8 b5, .int .u8 b6, .int .u8 b7]) (.int .i64 3)).run Tryz.prog w = .ok (.int .u8 b3) w := by kernel_rfl
theorem idx8_4 (b0 b1 b2 b3 b4 b5 b6 b7 : Int) (w : World) : (Instr.index 241 (.agg #[.int .u8 b0, .int .u8 b1, .int .u8 b2, .int .u8 b3, .int .u8 b4, .int .u8 b5, .int .u8 b6, .int .u8 b7]) (.int .i64 4)).run Tryz.prog w = .ok (.int .u8 b4) w := by kernel_rfl
theorem idx8_5 (b0 b1 b2 b3 b4 b5 b6 b7 : Int) (w : World) : (Instr.index 241 (.agg #[.int .u8 b0, .int .u8 b1, .int .u8 b2, .int .u8 b3, .int .u8 b4, .int .u8 b5, .int .u8 b6, .int .u8 b7]) (.int .i64 5)).run Tryz.prog w = .ok (.int .u8 b5) w := by kernel_rfl
theorem idx8_6 (b0 b1 b2 b3 b4 b5 b6 b7 : Int) (w : World) : (Instr.index 241 (.agg #[.int .u8 b0, .int .u8 b1, .int .u8 b2, .int .u8 b3, .int .u8 b4, .int .u8 b5, .int .u8 b6, .int .u8 b7]) (.int .i64 6)).run Tryz.prog w = .ok (.int .u8 b6) w := by kernel_rfl
theorem idx8_7 (b0 b1 b2 b3 b4 b5 b6 b7 : Int) (w : World) : (Instr.index 241 (.agg #[.int .u8 b0, .int .u8 b1, .int .u8 b2, .int .u8 b3, .int .u8 b4, .int .u8 b5, .int .u8 b6, .int .u8 b7]) (.int .i64 7)).run Tryz.prog w = .ok (.int .u8 b7) w := by kernel_rfl
theorem idx8 (b0 b1 b2 b3 b4 b5 b6 b7 : Int) (w : World) (k : Nat) (hk : k < 8) :
    (Instr.index 241 (.agg #[.int .u8 b0, .int .u8 b1, .int .u8 b2, .int .u8 b3, .int .u8 b4, .int .u8 b5, .int .u8 b6, .int .u8 b7]) (.int .i64 (k : Int))).run Tryz.prog w = .ok (.int .u8 ([b0, b1, b2, b3, b4, b5, b6, b7].getD k 0)) w := by
  match k, hk with
  | 0, _ => exact idx8_0 b0 b1 b2 b3 b4 b5 b6 b7 w
  | 1, _ => exact idx8_1 b0 b1 b2 b3 b4 b5 b6 b7 w
  | 2, _ => exact idx8_2 b0 b1 b2 b3 b4 b5 b6 b7 w
  | 3, _ => exact idx8_3 b0 b1 b2 b3 b4 b5 b6 b7 w
  | 4, _ => exact idx8_4 b0 b1 b2 b3 b4 b5 b6 b7 w
  | 5, _ => exact idx8_5 b0 b1 b2 b3 b4 b5 b6 b7 w
  | 6, _ => exact idx8_6 b0 b1 b2 b3 b4 b5 b6 b7 w
  | 7, _ => exact idx8_7 b0 b1 b2 b3 b4 b5 b6 b7 w

set_option maxHeartbeats 400000 in
theorem wordOf_any (bs : List Int) (b0 b1 b2 b3 b4 b5 b6 b7 : Int) (w : World) (hb : bs = [b0, b1, b2, b3, b4, b5, b6, b7]) (hw : ∀ i, 0 ≤ bs.getD i 0 ∧ bs.getD i 0 ≤ 255) :
    Calls Tryz.prog 212 #[.agg #[.int .u8 b0, .int .u8 b1, .int .u8 b2, .int .u8 b3, .int .u8 b4, .int .u8 b5, .int .u8 b6, .int .u8 b7]] w fun e w' => e = .returned (.int .u64 (le bs 0 8)) ∧ Below w.heap.size w w' := by
  have HB : Hid (bs = [b0, b1, b2, b3, b4, b5, b6, b7]) := hb
  have HW : Hid (∀ i, 0 ≤ bs.getD i 0 ∧ bs.getD i 0 ≤ 255) := hw
  clear hb hw
  go_enter Tryz.func212, Tryz.ntmps212
  go_wp2
  go_loop [3, 7] (fun x i => ∃ k : Nat, k ≤ 8 ∧ i = .int .i64 (k : Int) ∧ x = .int .u64 (le bs 0 k)) (fun _ i => 8 - (intOf i).toNat)
  case atStart => exact ⟨0, by omega, rfl, rfl⟩
  case round =>
    obtain ⟨k, hk, rfl, rfl⟩ := hrel
    by_cases hlt : k < 8
    · obtain ⟨x, hxx⟩ : ∃ x, x = bs.getD k 0 := ⟨_, rfl⟩
      obtain ⟨y, hyy⟩ : ∃ y, y = le bs 0 k := ⟨_, rfl⟩
      have hx := HW.out k
      have hy := le_bd bs HW.out k 0
      rw [← hxx] at hx
      rw [← hyy] at hy ⊢
      have hix : ∀ w, (Instr.index 241 (.agg #[.int .u8 b0, .int .u8 b1, .int .u8 b2, .int .u8 b3, .int .u8 b4, .int .u8 b5, .int .u8 b6, .int .u8 b7]) (.int .i64 (k : Int))).run Tryz.prog w = .ok (.int .u8 x) w := by
        intro w
        rw [hxx, HB.out]
        exact idx8 b0 b1 b2 b3 b4 b5 b6 b7 w k hlt
      have S : Hid (bits .or .u64 y (IntKind.u64.wrap (x * 2 ^ (8 * k))) = le bs 0 (k + 1)) := by
        show bits .or .u64 y (IntKind.u64.wrap (x * 2 ^ (8 * k))) = le bs 0 (k + 1)
        have := word_step bs HW.out 0 k hlt
        rw [Nat.zero_add] at this
        rw [hxx, hyy]; exact this
      clear hxx hyy
      go_wp2
      go_round
      case rel => exact ⟨k + 1, by omega, by go_num, by rw [S.out]⟩
      case measure => simp [intOf]; omega
    · have h0 : k = 8 := by omega
      subst h0
      go_wp2
      go_ret
      exact ⟨rfl, (Below.refl _ _).alloc (Nat.le_refl _) _⟩

theorem lowBytes_any (x : Int) (m : Nat) (w : World) (h1 : 1 ≤ m) (hm : m ≤ 8) (h0 : 0 ≤ x) (hx : x < 18446744073709551616) :
    Calls Tryz.prog 213 #[.int .u64 x, .int .i64 (m : Int)] w fun e w' => e = .returned (.int .u64 (x % 256 ^ m)) ∧ w' = w := by
  have F : Hid (IntKind.u64.wrap (x * 2 ^ (64 - 8 * m)) / 2 ^ (64 - 8 * m) = x % 256 ^ m) := low_bytes x m h1 hm h0
  go_enter Tryz.func213, Tryz.ntmps213
  go_wp2
  go_ret
  exact ⟨by rw [← F.out]; rfl, rfl⟩

def loadB (zs : List Int) (n : Nat) (addr size : Int) : Int := if okB n addr size then le zs (addr - 2147483648).toNat size.toNat else 0

theorem eight (g p n : Nat) (zs : List Int) (w : World) (hz : zs.length = n) (hp : p + 8 ≤ n) (hs : Sl .u8 w (some ⟨g, 0, none⟩) zs) (hw : ∀ y ∈ zs, (Lit.int .u8 y).wf = true) :
    ∃ b0 b1 b2 b3 b4 b5 b6 b7 : Int, ∃ B : { bs : List Int // bs = [b0, b1, b2, b3, b4, b5, b6, b7] },
      w.cell? ⟨g, p, none⟩ = some (.int .u8 b0) ∧ w.cell? ⟨g, p + 1, none⟩ = some (.int .u8 b1) ∧ w.cell? ⟨g, p + 2, none⟩ = some (.int .u8 b2) ∧ w.cell? ⟨g, p + 3, none⟩ = some (.int .u8 b3) ∧
      w.cell? ⟨g, p + 4, none⟩ = some (.int .u8 b4) ∧ w.cell? ⟨g, p + 5, none⟩ = some (.int .u8 b5) ∧ w.cell? ⟨g, p + 6, none⟩ = some (.int .u8 b6) ∧ w.cell? ⟨g, p + 7, none⟩ = some (.int .u8 b7) ∧
      Hid (∀ i, 0 ≤ B.1.getD i 0 ∧ B.1.getD i 0 ≤ 255) ∧ Hid (le B.1 0 8 = le zs p 8) := by
  have c : ∀ i, i < 8 → w.cell? ⟨g, p + i, none⟩ = some (.int .u8 (zs.getD (p + i) 0)) := by
    intro i hi
    obtain ⟨b, off, e, _, hc⟩ := hs (p + i) (by omega)
    simp only [Option.some.injEq, Addr.mk.injEq, and_true] at e
    obtain ⟨rfl, rfl⟩ := e
    rw [Nat.zero_add] at hc
    exact hc
  have bd := byte_bd hw
  refine ⟨_, _, _, _, _, _, _, _, ⟨[zs.getD p 0, zs.getD (p + 1) 0, zs.getD (p + 2) 0, zs.getD (p + 3) 0, zs.getD (p + 4) 0, zs.getD (p + 5) 0, zs.getD (p + 6) 0, zs.getD (p + 7) 0], rfl⟩, c 0 (by omega), c 1 (by omega), c 2 (by omega), c 3 (by omega), c 4 (by omega), c 5 (by omega), c 6 (by omega), c 7 (by omega), ?_, ?_⟩
  · intro i
    match i with
    | 0 => exact bd p
    | 1 => exact bd (p + 1)
    | 2 => exact bd (p + 2)
    | 3 => exact bd (p + 3)
    | 4 => exact bd (p + 4)
    | 5 => exact bd (p + 5)
    | 6 => exact bd (p + 6)
    | 7 => exact bd (p + 7)
    | i + 8 => simp
  · show le [zs.getD p 0, zs.getD (p + 1) 0, zs.getD (p + 2) 0, zs.getD (p + 3) 0, zs.getD (p + 4) 0, zs.getD (p + 5) 0, zs.getD (p + 6) 0, zs.getD (p + 7) 0] 0 8 = le zs p 8
    rfl

set_option maxHeartbeats 400000 in
theorem implLoad_any (g n cap : Nat) (zs : List Int) (addr size : Int) (w : World) (hz : zs.length = n) (hn : n ≤ 1048576) (hs : Sl .u8 w (some ⟨g, 0, none⟩) zs) (hw : ∀ y ∈ zs, (Lit.int .u8 y).wf = true) (hcap : n ≤ cap) (hcap2 : cap ≤ 9223372036854775807)
    (ha : 0 ≤ addr) (ha2 : addr ≤ 18446744073709551615) :
    Calls Tryz.prog 148 #[.slice (some ⟨g, 0, none⟩) n cap, .int .u64 addr, .int .i64 size] w fun e w' => e = .returned (.tuple #[.int .u64 (loadB zs n addr size), .bool (okB n addr size)]) ∧ Below w.heap.size w w' := by
  have HZ : Hid (zs.length = n) := hz
  have HW : Hid (∀ y ∈ zs, (Lit.int .u8 y).wf = true) := hw
  clear hz hw
  cases hok : okB n addr size
  · have F2 : Hid (loadB zs n addr size = 0) := by show loadB zs n addr size = 0; simp [loadB, hok]
    go_enter Tryz.func148, Tryz.ntmps148
    go_wp2_with (go_at_call 211; refine (place_any _ _ _ _ _ _ hn ha ha2).mono ?_; rintro e w' ⟨rfl, rfl⟩)
    go_ret2
    exact ⟨by rw [F2.out]; rfl, Below.refl _ _⟩
  · obtain ⟨_, _, hb1, hb2, hs1, hs2, hn1, hn2⟩ := okB_true hok
    obtain ⟨f, hf⟩ : ∃ f : Nat, addr = 2147483648 + (f : Int) := ⟨(addr - 2147483648).toNat, by omega⟩
    obtain ⟨m, hm⟩ : ∃ m : Nat, size = (m : Int) := ⟨size.toNat, by omega⟩
    subst hf hm
    have F2 : Hid (loadB zs n (2147483648 + (f : Int)) (m : Int) = le zs f m) := by
      show loadB zs n (2147483648 + (f : Int)) (m : Int) = le zs f m
      simp only [loadB, hok, if_true]
      rw [show (2147483648 + (f : Int) - 2147483648).toNat = f from by omega, Int.toNat_natCast]
    have P2 : Hid (placeB n (2147483648 + (f : Int)) (m : Int) = f) := by
      show placeB n (2147483648 + (f : Int)) (m : Int) = f
      simp only [placeB, hok, if_true]
      omega
    by_cases hle : f ≤ n - 8
    · have hat : ∀ w, (Instr.arrayAt 241 (.slice (some ⟨g, f, none⟩) 8 (cap - f))).run Tryz.prog w = .ok (.pointer (some ⟨g, f, none⟩)) w := fun w => run_arrayAt w 241 _ 8 _ 8 (cap - f) Tryz.underlying241 (by omega)
      obtain ⟨b0, b1, b2, b3, b4, b5, b6, b7, B, c0, c1, c2, c3, c4, c5, c6, c7, hbs, L⟩ := eight g f n zs w HZ.out (by omega) hs HW.out
      go_enter Tryz.func148, Tryz.ntmps148
      go_wp2_with (first | (go_at_call 211; refine (place_any _ _ _ _ _ _ hn ha ha2).mono ?_; rw [P2.out]; rintro e w' ⟨rfl, rfl⟩) | (go_at_call 212; refine (wordOf_any B.1 b0 b1 b2 b3 b4 b5 b6 b7 _ B.2 hbs.out).mono ?_; rw [L.out]; rintro e w1 ⟨rfl, hw1⟩))
      have R : Hid (le zs f 8 % 256 ^ m = le zs f m) := by
        have := le_mod zs (byte_bd HW.out) f m (8 - m)
        rw [show m + (8 - m) = 8 from by omega] at this
        exact this
      have bd := le_bd8 zs (byte_bd HW.out) 8 f (by omega)
      refine (lowBytes_any (le zs f 8) m _ (by omega) (by omega) bd.1 bd.2).mono ?_
      rw [R.out]
      rintro e w2 ⟨rfl, rfl⟩
      go_wp2_with fail
      go_ret2
      exact ⟨by rw [F2.out]; rfl, hw1⟩
    · obtain ⟨p, hp⟩ : ∃ p, n = p + 8 := ⟨n - 8, by omega⟩
      obtain ⟨d, hd⟩ : ∃ d, f = p + d := ⟨f - p, by omega⟩
      subst hp hd
      have hat : ∀ w, (Instr.arrayAt 241 (.slice (some ⟨g, p, none⟩) 8 (cap - p))).run Tryz.prog w = .ok (.pointer (some ⟨g, p, none⟩)) w := fun w => run_arrayAt w 241 _ 8 _ 8 (cap - p) Tryz.underlying241 (by omega)
      obtain ⟨b0, b1, b2, b3, b4, b5, b6, b7, B, c0, c1, c2, c3, c4, c5, c6, c7, hbs, L⟩ := eight g p (p + 8) zs w HZ.out (by omega) hs HW.out
      have hok' : okB (p + 8) (2147483648 + ((p : Int) + (d : Int))) (m : Int) = true := by rw [← Int.natCast_add]; exact hok
      have D : Hid (le zs p 8 / 2 ^ (8 * d) = le zs (p + d) (8 - d)) := by
        show le zs p 8 / 2 ^ (8 * d) = le zs (p + d) (8 - d)
        have := le_div zs (byte_bd HW.out) p d (8 - d)
        rw [show d + (8 - d) = 8 from by omega] at this
        rw [pow_8]; exact this
      have R : Hid (le zs (p + d) (8 - d) % 256 ^ m = le zs (p + d) m) := by
        have := le_mod zs (byte_bd HW.out) (p + d) m (8 - d - m)
        rw [show m + (8 - d - m) = 8 - d from by omega] at this
        exact this
      have BD : Hid (0 ≤ le zs (p + d) (8 - d) ∧ le zs (p + d) (8 - d) < 18446744073709551616) := le_bd8 zs (byte_bd HW.out) (8 - d) (p + d) (by omega)
      go_enter Tryz.func148, Tryz.ntmps148
      go_wp2_with (first | (go_at_call 211; refine (place_any _ _ _ _ _ _ hn ha ha2).mono ?_; rw [P2.out]; rintro e w' ⟨rfl, rfl⟩) | (go_at_call 212; refine (wordOf_any B.1 b0 b1 b2 b3 b4 b5 b6 b7 _ B.2 hbs.out).mono ?_; rw [L.out]; rintro e w1 ⟨rfl, hw1⟩))
      rw [D.out]
      refine (lowBytes_any (le zs (p + d) (8 - d)) m _ (by omega) (by omega) BD.out.1 BD.out.2).mono ?_
      rw [R.out]
      rintro e w2 ⟨rfl, rfl⟩
      go_wp2_with fail
      go_ret2
      exact ⟨by rw [F2.out]; rfl, hw1⟩

set_option maxHeartbeats 400000 in
theorem l1Put_any (g n cap f m base : Nat) (zs : List Int) (x : Int) (w : World) (hn : n ≤ 1048576) (hm : m ≤ 8) (hf : f + m ≤ n) (hx0 : 0 ≤ x) (hx1 : x ≤ 18446744073709551615)
    (hown : w.ownsRow base 5 1 (.slice (some ⟨g, 0, none⟩) n cap) n (zs.map (Value.int .u8))) :
    Calls Tryz.prog 102 #[.slice (some ⟨g, 0, none⟩) n cap, .int .u64 (2147483648 + (f : Int)), .int .i64 (m : Int), .int .u64 x] w fun e w' => e = .returned (.tuple #[]) ∧
      w'.ownsRow base 5 1 (.slice (some ⟨g, 0, none⟩) n cap) n ((put zs f x m).map (Value.int .u8)) ∧ w.grownBy w' (some g) := by
  have HX : Hid (zs.length = n) := by show zs.length = n; have := hown.1; simpa using this
  go_enter Tryz.func102, Tryz.ntmps102
  go_wp2
  go_loopw [3, 9] (fun y i wr => ∃ j : Nat, j ≤ m ∧ i = .int .i64 (j : Int) ∧ y = .int .u64 (x / 256 ^ j) ∧ wr.ownsRow base 5 1 (.slice (some ⟨g, 0, none⟩) n cap) n ((put zs f x j).map (Value.int .u8)) ∧ w.grownBy wr (some g))
    (fun _ i _ => m - (intOf i).toNat)
  case atStart => exact ⟨0, Nat.zero_le _, rfl, by simp, hown, grown_refl _ _⟩
  case round =>
    obtain ⟨j, hj, rfl, rfl, hown1, hgr⟩ := hrel
    clear hown
    by_cases hlt : j < m
    · have hfr : wr.frozen? ⟨g, f + j, none⟩ = false := hown1.frozenAt (f + j)
      have hst := hown1.stored (f + j) (.int .u8 (x / 256 ^ j % 256))
      obtain ⟨v3, hv3⟩ : ∃ v, wr.cell? ⟨g, f + j, none⟩ = some v := by
        rw [hown1.cellAt (f + j) (by omega)]
        exact ⟨_, List.getElem?_eq_getElem (by rw [List.length_map, put_len, HX.out]; omega)⟩
      rw [map_set_u8] at hst
      have hst1 : (wr.setCell ⟨g, f + j, none⟩ (.int .u8 (x / 256 ^ j % 256))).ownsRow base 5 1 (.slice (some ⟨g, 0, none⟩) n cap) n ((put zs f x (j + 1)).map (Value.int .u8)) := hst.1
      have hgr2 := grown_trans hgr hst.2
      have N : Hid (x / 256 ^ (j + 1) = x / 256 ^ j / 256) := by
        show x / 256 ^ (j + 1) = x / 256 ^ j / 256
        rw [Int.pow_succ, Int.ediv_ediv_of_nonneg (Int.le_of_lt (Int.pow_pos (by omega)))]
      have hy0 : 0 ≤ x / 256 ^ j := Int.ediv_nonneg hx0 (Int.le_of_lt (Int.pow_pos (by omega)))
      have hy1 : x / 256 ^ j ≤ 18446744073709551615 := Int.le_trans (Int.ediv_le_self _ hx0) hx1
      obtain ⟨y, hyy⟩ : ∃ y, y = x / 256 ^ j := ⟨_, rfl⟩
      rw [← hyy] at hst1 hgr2 hy0 hy1 N ⊢
      clear hst hown1 hyy
      go_wp2
      go_roundw
      case rel => exact ⟨j + 1, by omega, by go_num, by rw [N.out], hst1, hgr2⟩
      case measure => simp [intOf]; omega
    · have : j = m := by omega
      subst this
      go_wp2
      go_end0
      exact ⟨rfl, hown1, hgr⟩

def storeLen (zs : List Int) (n : Nat) (addr size x : Int) : Nat := (storeB zs n addr size x).length

theorem own_nil (w : World) (base : Nat) : w.ownsRow base 5 1 (.slice none 0 0) 0 (([] : List Int).map (Value.int .u8)) := World.ownsRow_nil w base 5 1

set_option maxHeartbeats 400000 in
theorem implStore_any (a : Option Addr) (n cap : Nat) (zs : List Int) (addr size x : Int) (w : World) (hz : zs.length = n) (hn : n ≤ 1048576) (hs : Sl .u8 w a zs)
    (ha : 0 ≤ addr) (ha2 : addr ≤ 18446744073709551615) (hx0 : 0 ≤ x) (hx1 : x ≤ 18446744073709551615) :
    Calls Tryz.prog 208 #[.slice a n cap, .int .u64 addr, .int .i64 size, .int .u64 x] w fun e w' => ∃ (a' : Option Addr) (c : Nat), e = .returned (.tuple #[.slice a' (storeLen zs n addr size x) c, .bool (okB n addr size)]) ∧
      w'.ownsRow w.heap.size 5 1 (.slice a' (storeLen zs n addr size x) c) (storeLen zs n addr size x) ((storeB zs n addr size x).map (Value.int .u8)) ∧ Below w.heap.size w w' := by
  have HZ : Hid (zs.length = n) := hz
  clear hz
  cases hok : okB n addr size
  · have F2 : Hid (storeB zs n addr size x = []) := by show storeB zs n addr size x = []; simp [storeB, hok]
    have F3 : Hid (storeLen zs n addr size x = 0) := by show storeLen zs n addr size x = 0; simp [storeLen, F2.out]
    go_enter Tryz.func208, Tryz.ntmps208
    go_wp2_with (go_at_call 211; refine (place_any _ _ _ _ _ _ hn ha ha2).mono ?_; rintro e w' ⟨rfl, rfl⟩)
    go_ret2
    rw [F2.out, F3.out]
    exact ⟨_, _, rfl, own_nil _ _, Below.refl _ _⟩
  · obtain ⟨hr, hsz, hb1, hb2, hs1, hs2, hn1, hn2⟩ := okB_true hok
    obtain ⟨f, hf⟩ : ∃ f : Nat, addr = 2147483648 + (f : Int) := ⟨(addr - 2147483648).toNat, by omega⟩
    obtain ⟨m, hm⟩ : ∃ m : Nat, size = (m : Int) := ⟨size.toNat, by omega⟩
    subst hf hm
    have F2 : Hid (storeB zs n (2147483648 + (f : Int)) (m : Int) x = put zs f x m) := by
      show storeB zs n (2147483648 + (f : Int)) (m : Int) x = put zs f x m
      simp only [storeB, hok, if_true]
      rw [show (2147483648 + (f : Int) - 2147483648).toNat = f from by omega, Int.toNat_natCast]
    have F3 : Hid (storeLen zs n (2147483648 + (f : Int)) (m : Int) x = n) := by
      show storeLen zs n (2147483648 + (f : Int)) (m : Int) x = n
      rw [storeLen, F2.out, put_len, HZ.out]
    have P2 : Hid (placeB n (2147483648 + (f : Int)) (m : Int) = f) := by
      show placeB n (2147483648 + (f : Int)) (m : Int) = f
      simp only [placeB, hok, if_true]
      omega
    obtain ⟨b, off, rfl, hblt, hc0⟩ := hs 0 (by have := HZ.out; omega)
    clear hc0
    obtain ⟨i0, hi, hz0, hz1, hz2⟩ := info_parts Tryz.info5
    have hsz5 : (Tryz.prog.info? 5).map (·.size) = some 1 := by rw [hi]; simp [hz1]
    have hb2' : i0.bytes * n ≤ 281474976710656 := by rw [hz2]; omega
    have hb3 : n ≤ maxLen := by unfold maxLen; omega
    go_enter Tryz.func208, Tryz.ntmps208
    go_wp2_with (first | (go_at_call 211; refine (place_any _ _ _ _ _ _ hn ha ha2).mono ?_; rw [P2.out]; rintro e w' ⟨rfl, hw'⟩; have hw2 := hw'.symm; subst hw2) | (at_make; refine wpList_make_full _ rfl (.tmp 24) (.tmp 24) 22 rfl w.heap.size 5 i0 (.int .u8 0) 1 Tryz.underlying22 hi hz0 hz1 .i64 .i64 _ _ n rfl rfl rfl rfl hb2' hb3 (Nat.le_refl _) ?_; intro w1 hown hgrow) | (refine wpList_copy_full rfl (.tmp 26) (.tmp 27) 22 rfl 5 Tryz.underlying22 hsz5 .u8 w.heap.size w.heap.size n n b off cap zs _ rfl rfl hown (hs.below ((Below.refl _ _).grown hgrow (Nat.le_refl _) (by intro k h; cases h))) HZ.out ?_; intro w2 hown2 hgrow2))
    have hbel2 : Below w.heap.size w w2 := Below.grown ((Below.refl _ _).grown hgrow (Nat.le_refl _) (by intro k h; cases h)) hgrow2 hgrow.size (by intro k h; cases h; exact Nat.le_refl _)
    clear hown hgrow hgrow2 hs
    go_loopw [30] (fun i wr => ∃ j : Nat, j ≤ m ∧ i = .int .i64 (j : Int) ∧ wr.ownsRow w.heap.size 5 1 (.slice (some ⟨w.heap.size, 0, none⟩) n n) n ((put zs f x j).map (Value.int .u8)) ∧ Below w.heap.size w wr)
      (fun i _ => m - (intOf i).toNat)
    case atStart => exact ⟨0, Nat.zero_le _, rfl, hown2, hbel2⟩
    case round =>
      obtain ⟨j, hj, rfl, hown1, hbel⟩ := hrel
      clear hown2 hbel2
      by_cases hlt : j < m
      · have hfr : wr.frozen? ⟨w.heap.size, f + j, none⟩ = false := hown1.frozenAt (f + j)
        have hst := (hown1.stored (f + j) (.int .u8 (x / 256 ^ j % 256))).1
        obtain ⟨v3, hv3⟩ : ∃ v, wr.cell? ⟨w.heap.size, f + j, none⟩ = some v := by
          rw [hown1.cellAt (f + j) (by omega)]
          exact ⟨_, List.getElem?_eq_getElem (by rw [List.length_map, put_len, HZ.out]; omega)⟩
        rw [map_set_u8] at hst
        have hst1 : (wr.setCell ⟨w.heap.size, f + j, none⟩ (.int .u8 (x / 256 ^ j % 256))).ownsRow w.heap.size 5 1 (.slice (some ⟨w.heap.size, 0, none⟩) n n) n ((put zs f x (j + 1)).map (Value.int .u8)) := hst
        have hst2 : Below w.heap.size w (wr.setCell ⟨w.heap.size, f + j, none⟩ (.int .u8 (x / 256 ^ j % 256))) := hbel.setCell (Nat.le_refl _) _
        have hy0 : 0 ≤ x / 256 ^ j := Int.ediv_nonneg hx0 (Int.le_of_lt (Int.pow_pos (by omega)))
        clear hst hown1
        rw [← pow_8] at hst1 hst2 hy0
        go_wp2
        go_roundw
        case rel => exact ⟨j + 1, by omega, by go_num, hst1, hst2⟩
        case measure => simp [intOf]; omega
      · have : j = m := by omega
        subst this
        go_wp2
        go_ret2
        rw [F3.out, F2.out]
        exact ⟨_, _, rfl, hown1, hbel⟩

structure FRow where
  t : TypeId
  v : Value
  n : Nat
  xs : List Value

structure Fam (B E : Nat) (w : World) (L : List FRow) : Prop where
  own : ∀ r ∈ L, w.ownsRow B r.t 1 r.v r.n r.xs
  hi : ∀ r ∈ L, ∀ k, r.v.ownBlock = some k → k < E
  ne : L.Pairwise (fun r s => ∀ k, r.v.ownBlock = some k → s.v.ownBlock ≠ some k)

structure Keep (B E : Nat) (w w' : World) : Prop where
  os : w'.os = w.os
  tape : w'.tape = w.tape
  output : w'.output = w.output
  size : w.heap.size ≤ w'.heap.size
  block : ∀ k, k < w.heap.size → (k < B ∨ E ≤ k) → w'.heap[k]? = w.heap[k]?

theorem Keep.refl (B E : Nat) (w : World) : Keep B E w w := ⟨rfl, rfl, rfl, Nat.le_refl _, fun _ _ _ => rfl⟩

theorem Keep.trans {B E : Nat} {a b c : World} (h : Keep B E a b) (k : Keep B E b c) : Keep B E a c :=
  ⟨k.os.trans h.os, k.tape.trans h.tape, k.output.trans h.output, Nat.le_trans h.size k.size, fun i hi ho => (k.block i (Nat.lt_of_lt_of_le hi h.size) ho).trans (h.block i hi ho)⟩

theorem Keep.of_below {B E : Nat} {w w' : World} (h : Below w.heap.size w w') : Keep B E w w' := ⟨h.os, h.tape, h.output, h.size, fun k hk _ => h.block k hk⟩

theorem Keep.below {B0 B E : Nat} {w w' : World} (h : Keep B E w w') (hB : B0 ≤ B) (hw : B0 ≤ w.heap.size) : Below B0 w w' := ⟨h.os, h.tape, h.output, h.size, fun k hk => h.block k (by omega) (.inl (by omega))⟩

theorem Keep.of_grown {B E : Nat} {w w' : World} {row : Option Nat} (h : w.grownBy w' row) (hr : ∀ k, row = some k → B ≤ k ∧ k < E) : Keep B E w w' :=
  ⟨h.os, h.tape, h.output, h.size, fun k hk ho => h.block k hk (fun e => by have := hr k e.symm; omega)⟩

theorem fown_of {w w' : World} {B n : Nat} {t : TypeId} {v : Value} {xs : List Value} (h : w.ownsRow B t 1 v n xs) (hk : ∀ k, v.ownBlock = some k → w'.heap[k]? = w.heap[k]?) : w'.ownsRow B t 1 v n xs := by
  refine ⟨h.1, ?_⟩
  rcases h.2 with h2 | ⟨g, cap, cur, h1, h2, h3, h4⟩
  · exact .inl h2
  · exact .inr ⟨g, cap, cur, h1, h2, (hk g (by rw [h1]; rfl)).trans h3, h4⟩

theorem Fam.mono {B E : Nat} {w w' : World} {L : List FRow} (h : Fam B E w L) (hk : ∀ k, B ≤ k → k < E → k < w.heap.size → w'.heap[k]? = w.heap[k]?) : Fam B E w' L :=
  ⟨fun r hr => fown_of (h.own r hr) (fun k e => hk k ((h.own r hr).lt k e).1 (h.hi r hr k e) ((h.own r hr).lt k e).2), h.hi, h.ne⟩

theorem Fam.below {B E : Nat} {w w' : World} {L : List FRow} (h : Fam B E w L) (hb : Below w.heap.size w w') : Fam B E w' L := h.mono fun k _ _ hk => hb.block k hk

theorem Fam.keep {B E B2 E2 : Nat} {w w' : World} {L : List FRow} (h : Fam B E w L) (hk : Keep B2 E2 w w') (hd : E ≤ B2 ∨ E2 ≤ B) : Fam B E w' L := h.mono fun k h1 h2 h3 => hk.block k h3 (by omega)

theorem Fam.low {B B' E E' : Nat} {w : World} {L : List FRow} (h : Fam B E w L) (hb : B' ≤ B) (he : E ≤ E') : Fam B' E' w L :=
  ⟨fun r hr => own_low (h.own r hr) hb, fun r hr k e => Nat.lt_of_lt_of_le (h.hi r hr k e) he, h.ne⟩

theorem Fam.set {B E : Nat} {w : World} {L : List FRow} (h : Fam B E w L) (p : Addr) (v : Value) (hp : p.block < B ∨ E ≤ p.block) : Fam B E (w.setCell p v) L := h.mono fun k h1 h2 h3 => Below.heap_setCell w p v k (by omega)

theorem Fam.nil (B E : Nat) (w : World) : Fam B E w [] := ⟨fun r hr => (nomatch hr), fun r hr => (nomatch hr), List.Pairwise.nil⟩

theorem Fam.cons {B E : Nat} {w : World} {L : List FRow} (h : Fam B E w L) (r : FRow) (base E' : Nat) (ho : w.ownsRow base r.t 1 r.v r.n r.xs) (h1 : E ≤ base) (h2 : B ≤ base) (h3 : w.heap.size ≤ E') (h4 : E ≤ E') : Fam B E' w (r :: L) := by
  refine ⟨fun s hs => ?_, fun s hs k e => ?_, List.pairwise_cons.2 ⟨fun s hs k e e2 => ?_, h.ne⟩⟩
  · rcases List.mem_cons.1 hs with rfl | hs
    · exact own_low ho h2
    · exact h.own s hs
  · rcases List.mem_cons.1 hs with rfl | hs
    · have := (ho.lt k e).2; omega
    · have := h.hi s hs k e; omega
  · have := (ho.lt k e).1
    have := h.hi s hs k e2
    omega

theorem Fam.snoc {B E : Nat} {w : World} {L : List FRow} (h : Fam B E w L) (r : FRow) (base E' : Nat) (ho : w.ownsRow base r.t 1 r.v r.n r.xs) (h1 : E ≤ base) (h2 : B ≤ base) (h3 : w.heap.size ≤ E') (h4 : E ≤ E') : Fam B E' w (L ++ [r]) := by
  have c := h.cons r base E' ho h1 h2 h3 h4
  refine ⟨fun s hs => c.own s ?_, fun s hs => c.hi s ?_, List.pairwise_append.2 ⟨h.ne, List.pairwise_singleton _ _, fun s hs q hq k e e2 => ?_⟩⟩
  · rcases List.mem_append.1 hs with hs | hs
    · exact List.mem_cons_of_mem _ hs
    · rw [List.mem_singleton.1 hs]; exact List.mem_cons_self ..
  · rcases List.mem_append.1 hs with hs | hs
    · exact List.mem_cons_of_mem _ hs
    · rw [List.mem_singleton.1 hs]; exact List.mem_cons_self ..
  · simp only [List.mem_singleton] at hq
    subst hq
    exact (List.pairwise_cons.1 c.ne).1 s hs k e2 e

theorem Fam.mark {B E : Nat} {w w' : World} {L1 L2 : List FRow} {r : FRow} (h : Fam B E w (L1 ++ r :: L2)) (hg : w.grownBy w' r.v.ownBlock) (xs : List Value) (ho : w'.ownsRow B r.t 1 r.v r.n xs) : Fam B E w' (L1 ++ ⟨r.t, r.v, r.n, xs⟩ :: L2) ∧ Keep B E w w' := by
  have hne := List.pairwise_append.1 h.ne
  have hne2 := List.pairwise_cons.1 hne.2.1
  have kept : ∀ s ∈ L1 ++ r :: L2, (∀ k, s.v.ownBlock = some k → r.v.ownBlock ≠ some k) → w'.ownsRow B s.t 1 s.v s.n s.xs := fun s hs hd => fown_of (h.own s hs) (fun k e => hg.block k ((h.own s hs).lt k e).2 (fun e2 => hd k e e2.symm))
  have hr : r ∈ L1 ++ r :: L2 := by simp
  refine ⟨⟨fun s hs => ?_, fun s hs k e => ?_, ?_⟩, Keep.of_grown hg fun k e => ⟨((h.own r hr).lt k e).1, h.hi r hr k e⟩⟩
  · rcases List.mem_append.1 hs with hs | hs
    · exact kept s (List.mem_append_left _ hs) (fun k e => hne.2.2 s hs r (List.mem_cons_self ..) k e)
    · rcases List.mem_cons.1 hs with rfl | hs
      · exact ho
      · exact kept s (List.mem_append_right _ (List.mem_cons_of_mem _ hs)) (fun k e e2 => hne2.1 s hs k e2 e)
  · rcases List.mem_append.1 hs with hs | hs
    · exact h.hi s (List.mem_append_left _ hs) k e
    · rcases List.mem_cons.1 hs with rfl | hs
      · exact h.hi r hr k e
      · exact h.hi s (List.mem_append_right _ (List.mem_cons_of_mem _ hs)) k e
  · refine List.pairwise_append.2 ⟨hne.1, List.pairwise_cons.2 ⟨fun s hs k e => hne2.1 s hs k e, hne2.2⟩, fun s hs q hq k e => ?_⟩
    rcases List.mem_cons.1 hq with rfl | hq
    · exact hne.2.2 s hs r (List.mem_cons_self ..) k e
    · exact hne.2.2 s hs q (List.mem_cons_of_mem _ hq) k e

end Go.Proofs.YtilhcfhcdplicaaGreatDoor
