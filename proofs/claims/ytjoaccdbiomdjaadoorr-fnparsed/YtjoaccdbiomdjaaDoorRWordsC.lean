/- Lists of words: copied, compared, marked, held. Written by tools/genWords.py. -/
import Derived.Test.YtjoaccdbiomdjaaDoorRProg
import Derived.Test.YtjoaccdbiomdjaaDoorRMem
namespace Go.Proofs.YtjoaccdbiomdjaaDoorR
open Go.RowKit
set_option linter.unusedVariables false

theorem infoW : (Tryd.prog.info? 41).map (fun i => (i.zero, i.size, i.bytes)) = some (some (.int .u64 0), 1, 8) := by kernel_rfl

theorem map_set_u64 (zs : List Int) (i : Nat) (y : Int) : (zs.map (Value.int .u64)).set i (.int .u64 y) = (zs.set i y).map (Value.int .u64) := by
  rw [List.map_set]

def marksW (k : Int) (n : Nat) : List Int := (List.range n).map fun (i : Nat) => k + (i : Int)

theorem marksW_len (k : Int) (n : Nat) : (marksW k n).length = n := by simp [marksW]

theorem marksW_get (k : Int) (n i : Nat) (h : i < n) : (marksW k n).getD i 0 = k + (i : Int) := by
  simp [marksW, List.getD, h]

def MkW (xs : List Int) (k : Int) (n j : Nat) : List Int := (marksW k n).take j ++ xs.drop j

theorem MkW_zero (xs : List Int) (k : Int) (n : Nat) : MkW xs k n 0 = xs := by simp [MkW]

theorem MkW_end (xs : List Int) (k : Int) (n : Nat) (h : xs.length = n) : MkW xs k n n = marksW k n := by
  have h1 : xs.drop n = [] := List.drop_of_length_le (by omega)
  have h2 : (marksW k n).take n = marksW k n := List.take_of_length_le (by rw [marksW_len]; omega)
  rw [MkW, h1, h2, List.append_nil]

theorem MkW_len (xs : List Int) (k : Int) (n j : Nat) (h : xs.length = n) (hj : j ≤ n) : (MkW xs k n j).length = n := by
  simp [MkW, marksW_len]; omega

theorem MkW_set (xs : List Int) (k : Int) (n j : Nat) (h : xs.length = n) (hj : j < n) : (MkW xs k n j).set j (k + (j : Int)) = MkW xs k n (j + 1) := by
  unfold MkW
  have h1 : (marksW k n).take (j + 1) = (marksW k n).take j ++ [k + (j : Int)] := by
    rw [List.take_succ_eq_append_getElem (by rw [marksW_len]; exact hj)]
    simp [marksW]
  have h2 : xs.drop j = xs[j] :: xs.drop (j + 1) := List.drop_eq_getElem_cons (by omega)
  have h3 : ((marksW k n).take j).length = j := by rw [List.length_take, marksW_len]; omega
  rw [h1, h2, List.set_append_right _ _ (by omega), h3, Nat.sub_self, List.set_cons_zero, List.append_assoc]
  rfl

set_option maxHeartbeats 400000 in
theorem eqUint64S_any (a b : Option Addr) (n m ca cb : Nat) (xs ys : List Int) (w : World) (hx : xs.length = n) (hy : ys.length = m) (hn : n ≤ 1048576) (hm : m ≤ 1048576) (hs : Sl .u64 w a xs) (ht : Sl .u64 w b ys) :
    Calls Tryd.prog 15 #[.slice a n ca, .slice b m cb] w fun e w' => e = .returned (.bool (decide (xs = ys))) ∧ Below w.heap.size w w' := by
  by_cases hnm : n = m
  · subst hnm
    have HX : Hid (xs.length = n) := hx
    have HY : Hid (ys.length = n) := hy
    have hnn : ((n : Int) != (n : Int)) = false := by simp
    clear hx hy
    go_enter Tryd.func15, Tryd.ntmps15
    go_wp2
    go_loopw [5] (fun i wr => ∃ k : Nat, k ≤ n ∧ i = .int .i64 k ∧ Hid (xs.take k = ys.take k) ∧ Below w.heap.size w wr)
      (fun i _ => n - (intOf i).toNat)
    case atStart => exact ⟨0, Nat.zero_le _, rfl, (rfl : xs.take 0 = ys.take 0), Below.refl _ _⟩
    case round =>
      obtain ⟨k, hk, rfl, heq, hbel⟩ := hrel
      by_cases hlt : k < n
      · obtain ⟨b1, o1, rfl, hb1, hc1⟩ := hs k (by have := HX.out; omega)
        obtain ⟨b2, o2, rfl, hb2, hc2⟩ := ht k (by have := HY.out; omega)
        obtain ⟨x, hxx⟩ : ∃ x, x = xs.getD k 0 := ⟨_, rfl⟩
        obtain ⟨y, hyy⟩ : ∃ y, y = ys.getD k 0 := ⟨_, rfl⟩
        have c1 : wr.cell? ⟨b1, o1 + k, none⟩ = some (.int .u64 x) := by rw [hxx]; exact (hbel.cell (by exact hb1)).trans hc1
        have c2 : wr.cell? ⟨b2, o2 + k, none⟩ = some (.int .u64 y) := by rw [hyy]; exact (hbel.cell (by exact hb2)).trans hc2
        have XX : Hid (x = xs.getD k 0) := hxx
        have YY : Hid (y = ys.getD k 0) := hyy
        clear hc1 hc2 hxx hyy
        by_cases hxy : x = y
        · subst hxy
          have R := take_next xs ys k n HX.out HY.out hlt heq.out (XX.out.symm.trans YY.out)
          have RR : Hid (xs.take (k + 1) = ys.take (k + 1)) := R
          clear R
          have hne : (x != x) = false := by simp
          go_wp2
          go_region
          all_goals go_wp2
          all_goals go_roundw
          case rel => exact ⟨k + 1, by omega, by go_num, RR, hbel.drew⟩
          case measure => simp [intOf]; omega
        · have F : Hid (decide (xs = ys) = false) := by
            show decide (xs = ys) = false
            rw [decide_eq_false_iff_not]
            intro h; apply hxy; rw [XX.out, YY.out, h]
          have hne : (x != y) = true := by simpa using hxy
          clear hxy
          go_wp2
          go_region
          all_goals go_wp2
          all_goals go_ret
          all_goals exact ⟨by rw [F.out]; rfl, hbel.drew⟩
      · have hkn : k = n := by omega
        subst hkn
        have F : Hid (decide (xs = ys) = true) := by
          show decide (xs = ys) = true
          rw [decide_eq_true_eq]
          have h := heq.out
          rw [List.take_of_length_le (by have := HX.out; omega), List.take_of_length_le (by have := HY.out; omega)] at h
          exact h
        go_wp2
        go_ret
        exact ⟨by rw [F.out]; rfl, hbel⟩
  · have F : Hid (decide (xs = ys) = false) := by
      show decide (xs = ys) = false
      rw [decide_eq_false_iff_not]
      intro h; apply hnm; rw [← hx, ← hy, h]
    have hne : ((n : Int) != (m : Int)) = true := by simp; omega
    clear hx hy
    go_enter Tryd.func15, Tryd.ntmps15
    go_wp2
    go_ret
    exact ⟨by rw [F.out]; rfl, Below.refl _ _⟩

set_option maxHeartbeats 400000 in
theorem markUint64S_any (a : Option Addr) (n cap base : Nat) (k : Int) (xs : List Int) (w : World) (hn : n ≤ 1048576) (hk0 : 0 ≤ k) (hk1 : k ≤ 1099511627776)
    (hown : w.ownsRow base 41 1 (.slice a n cap) n (xs.map (Value.int .u64))) :
    Calls Tryd.prog 16 #[.slice a n cap, .int .i64 k] w fun e w' => e = .returned (.int .i64 (k + n)) ∧
      w'.ownsRow base 41 1 (.slice a n cap) n ((marksW k n).map (Value.int .u64)) ∧ w.grownBy w' (Value.slice a n cap).ownBlock := by
  have HX : Hid (xs.length = n) := by show xs.length = n; have := hown.1; simpa using this
  rcases hown.2 with ⟨h2, h3⟩ | ⟨g, cap', cur, hv, hg, _⟩
  · simp only [Value.slice.injEq] at h2
    obtain ⟨rfl, rfl, rfl⟩ := h2
    have hx0 : xs = [] := List.eq_nil_of_length_eq_zero HX.out
    subst hx0
    go_enter Tryd.func16, Tryd.ntmps16
    go_wp2
    refine wp_loop_rounds 1 ?_
    rw [rounds_succ]
    go_wp2
    go_ret
    exact ⟨by simp, hown, ⟨rfl, rfl, rfl, Nat.le_refl _, fun _ _ _ => rfl⟩⟩
  · simp only [Value.slice.injEq, true_and] at hv
    obtain ⟨rfl, rfl⟩ := hv
    have hown0 : w.ownsRow base 41 1 (.slice (some ⟨g, 0, none⟩) n cap) n ((MkW xs k n 0).map (Value.int .u64)) := by rw [MkW_zero]; exact hown
    clear hown
    go_enter Tryd.func16, Tryd.ntmps16
    go_wp2
    go_loopw [1, 5] (fun c i wr => ∃ j : Nat, j ≤ n ∧ i = .int .i64 j ∧ c = .int .i64 (k + j) ∧ wr.ownsRow base 41 1 (.slice (some ⟨g, 0, none⟩) n cap) n ((MkW xs k n j).map (Value.int .u64)) ∧ w.grownBy wr (some g))
      (fun _ i _ => n - (intOf i).toNat)
    case atStart => exact ⟨0, Nat.zero_le _, rfl, by simp, hown0, ⟨rfl, rfl, rfl, Nat.le_refl _, fun _ _ _ => rfl⟩⟩
    case round =>
      obtain ⟨j, hj, rfl, rfl, hown, hgr⟩ := hrel
      clear hown0
      by_cases hlt : j < n
      · have hfr : wr.frozen? ⟨g, j, none⟩ = false := hown.frozenAt j
        have hst := hown.stored j (.int .u64 (k + (j : Int)))
        obtain ⟨v3, hv3⟩ : ∃ v, wr.cell? ⟨g, j, none⟩ = some v := by
          rw [hown.cellAt j (by omega)]
          exact ⟨_, List.getElem?_eq_getElem (by rw [List.length_map, MkW_len _ _ _ _ HX.out hj]; exact hlt)⟩
        rw [map_set_u64, MkW_set _ _ _ _ HX.out hlt] at hst
        have hgr2 : w.grownBy (wr.setCell ⟨g, j, none⟩ (.int .u64 (k + (j : Int)))) (some g) :=
          ⟨hst.2.os.trans hgr.os, hst.2.tape.trans hgr.tape, hst.2.output.trans hgr.output, Nat.le_trans hgr.size hst.2.size, fun b hb hne => (hst.2.block b (Nat.lt_of_lt_of_le hb hgr.size) hne).trans (hgr.block b hb hne)⟩
        have hst1 := hst.1
        clear hst hown
        go_wp2
        go_roundw
        case rel => exact ⟨j + 1, by omega, by go_num, by go_num, hst1, hgr2⟩
        case measure => simp [intOf]; omega
      · have : j = n := by omega
        subst this
        rw [MkW_end _ _ _ HX.out] at hown
        go_wp2
        go_ret
        exact ⟨rfl, hown, hgr⟩

/-- What was marked is held. -/
theorem heldUint64S_any (a : Option Addr) (n cap : Nat) (k : Int) (w : World) (hn : n ≤ 1048576) (hk0 : 0 ≤ k) (hk1 : k ≤ 1099511627776)
    (hs : Sl .u64 w a (marksW k n)) :
    Calls Tryd.prog 17 #[.slice a n cap, .int .i64 k] w fun e w' => e = .returned (.int .i64 (k + n)) ∧ w' = w := by
  go_enter Tryd.func17, Tryd.ntmps17
  go_wp2
  go_loop [1, 5] (fun c i => ∃ j : Nat, j ≤ n ∧ i = .int .i64 j ∧ c = .int .i64 (k + j)) (fun _ i => n - (intOf i).toNat)
  case atStart => exact ⟨0, Nat.zero_le _, rfl, by simp⟩
  case round =>
    obtain ⟨j, hj, rfl, rfl⟩ := hrel
    by_cases hlt : j < n
    · obtain ⟨b, off, rfl, hb, hc⟩ := hs j (by rw [marksW_len]; exact hlt)
      rw [marksW_get k n j hlt] at hc
      have hne : (k + (j : Int) != k + (j : Int)) = false := by simp
      have hwr : IntKind.u64.wrap (k + (j : Int)) = k + (j : Int) := by rw [IntKind.wrap_u64]; omega
      go_wp2
      go_round
      case rel => exact ⟨j + 1, by omega, by go_num, by go_num⟩
      case measure => simp [intOf]; omega
    · have : j = n := by omega
      subst this
      go_wp2
      go_ret
      exact ⟨rfl, rfl⟩

end Go.Proofs.YtjoaccdbiomdjaaDoorR
