/- Own lemmas. -/
import Derived.Test.YtcdjfiljlahaeaaK01
import Derived.Test.YtcdjfiljlahaeaaK03
import Derived.Test.YtcdjfiljlahaeaaK08
import Derived.OwnWalk
namespace Go.Proofs.Ytcdjfiljlahaeaa
open Go.RowKit
set_option linter.unusedVariables false

set_option maxHeartbeats 400000 in
theorem likeWords_any (a b : Option Addr) (n m ca cb : Nat) (xs ys : List Int) (w : World) (hx : xs.length = n) (hy : ys.length = m) (hn : n ≤ 1048576) (hm : m ≤ 1048576) (hs : Sl .u64 w a xs) (ht : Sl .u64 w b ys) :
    Calls Try.prog 27 #[.slice a n ca, .slice b m cb] w fun e w' => e = .returned (.bool (decide (xs = ys))) ∧ Below w.heap.size w w' := by
  by_cases hnm : n = m
  · subst hnm
    have HX : Hid (xs.length = n) := hx
    have HY : Hid (ys.length = n) := hy
    have hnn : ((n : Int) != (n : Int)) = false := by simp
    clear hx hy
    go_enter Try.func27, Try.ntmps27
    go_wp2
    go_loopw [5] (fun i wr => ∃ k : Nat, k ≤ n ∧ i = .int .i64 k ∧ Hid (xs.take k = ys.take k) ∧ Below w.heap.size w wr)
      (fun i _ => n - (intOf i).toNat)
    case atStart => exact ⟨0, Nat.zero_le _, rfl, (rfl : xs.take 0 = ys.take 0), Below.refl _ _⟩
    case round =>
      obtain ⟨k, hk, rfl, heq, hbel⟩ := hrel
      by_cases hlt : k < n
      · obtain ⟨b1, o1, rfl, hb1, hc1⟩ := hs k (by have := HX.out; omega)
        obtain ⟨b2, o2, rfl, hb2, hc2⟩ := ht k (by have := HY.out; omega)
        obtain ⟨x, hxx⟩ : ∃ x, x = xs.getD k 0 := ⟨_, rfl⟩
        obtain ⟨y, hyy⟩ : ∃ y, y = ys.getD k 0 := ⟨_, rfl⟩
        have c1 : wr.cell? ⟨b1, o1 + k, none⟩ = some (.int .u64 x) := by rw [hxx]; exact (hbel.cell (by exact hb1)).trans hc1
        have c2 : wr.cell? ⟨b2, o2 + k, none⟩ = some (.int .u64 y) := by rw [hyy]; exact (hbel.cell (by exact hb2)).trans hc2
        have XX : Hid (x = xs.getD k 0) := hxx
        have YY : Hid (y = ys.getD k 0) := hyy
        clear hc1 hc2 hxx hyy
        by_cases hxy : x = y
        · subst hxy
          have R := take_next xs ys k n HX.out HY.out hlt heq.out (XX.out.symm.trans YY.out)
          have RR : Hid (xs.take (k + 1) = ys.take (k + 1)) := R
          clear R
          have hne : (x != x) = false := by simp
          go_wp2
          go_region
          all_goals go_wp2
          all_goals go_roundw
          case rel => exact ⟨k + 1, by omega, by go_num, RR, hbel.drew⟩
          case measure => simp [intOf]; omega
        · have F : Hid (decide (xs = ys) = false) := by
            show decide (xs = ys) = false
            rw [decide_eq_false_iff_not]
            intro h; apply hxy; rw [XX.out, YY.out, h]
          have hne : (x != y) = true := by simpa using hxy
          clear hxy
          go_wp2
          go_region
          all_goals go_wp2
          all_goals go_ret
          all_goals exact ⟨by rw [F.out]; rfl, hbel.drew⟩
      · have hkn : k = n := by omega
        subst hkn
        have F : Hid (decide (xs = ys) = true) := by
          show decide (xs = ys) = true
          rw [decide_eq_true_eq]
          have h := heq.out
          rw [List.take_of_length_le (by have := HX.out; omega), List.take_of_length_le (by have := HY.out; omega)] at h
          exact h
        go_wp2
        go_ret
        exact ⟨by rw [F.out]; rfl, hbel⟩
  · have F : Hid (decide (xs = ys) = false) := by
      show decide (xs = ys) = false
      rw [decide_eq_false_iff_not]
      intro h; apply hnm; rw [← hx, ← hy, h]
    have hne : ((n : Int) != (m : Int)) = true := by simp; omega
    clear hx hy
    go_enter Try.func27, Try.ntmps27
    go_wp2
    go_ret
    exact ⟨by rw [F.out]; rfl, Below.refl _ _⟩

end Go.Proofs.Ytcdjfiljlahaeaa
