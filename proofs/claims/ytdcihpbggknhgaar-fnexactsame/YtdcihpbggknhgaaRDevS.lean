/- The model's devices. -/
import Derived.Test.YtdcihpbggknhgaaRDevP
import Derived.Deep.RegionWith
namespace Go.Proofs.YtdcihpbggknhgaaR
open Go.RowKit
set_option linter.unusedVariables false

theorem l3If_dev (b : Bool) (w : World) : Calls Try.prog 48 #[.bool b] w fun e w' => e = .returned (.int .u64 (oneIf b)) ∧ w' = w := by
  cases b with
  | false =>
    go_enter Try.func48, Try.ntmps48
    go_wp2_with fail
    go_ret
    exact ⟨rfl, rfl⟩
  | true =>
    go_enter Try.func48, Try.ntmps48
    go_wp2_with fail
    go_ret
    exact ⟨rfl, rfl⟩

theorem l1In_8 (x : Int) (w : World) : Calls Try.prog 47 #[.int .i64 x, .int .i64 0, .int .i64 1] w fun e w' => e = .returned (.bool (decide (0 ≤ x ∧ x ≤ 1))) ∧ w' = w := by
  by_cases h1 : 0 ≤ x
  · by_cases h2 : x ≤ 1
    · have F : Hid (decide (0 ≤ x ∧ x ≤ 1) = true) := by show decide (0 ≤ x ∧ x ≤ 1) = true; simp [h1, h2]
      have d1 : decide (0 ≤ x) = true := by simpa using h1
      have d2 : decide (x ≤ 1) = true := by simpa using h2
      clear h1 h2
      generalize decide (0 ≤ x ∧ x ≤ 1) = v at *
      go_enter Try.func47, Try.ntmps47
      go_wp2
      go_ret
      exact ⟨by rw [F.out]; rfl, rfl⟩
    · have F : Hid (decide (0 ≤ x ∧ x ≤ 1) = false) := by show _ = false; simp; omega
      have d1 : decide (0 ≤ x) = true := by simpa using h1
      have d2 : decide (x ≤ 1) = false := by simpa using h2
      clear h1 h2
      generalize decide (0 ≤ x ∧ x ≤ 1) = v at *
      go_enter Try.func47, Try.ntmps47
      go_wp2
      go_ret
      exact ⟨by rw [F.out]; rfl, rfl⟩
  · have F : Hid (decide (0 ≤ x ∧ x ≤ 1) = false) := by show _ = false; simp; omega
    have d1 : decide (0 ≤ x) = false := by simpa using h1
    clear h1
    generalize decide (0 ≤ x ∧ x ≤ 1) = v at *
    go_enter Try.func47, Try.ntmps47
    go_wp2
    go_ret
    exact ⟨by rw [F.out]; rfl, rfl⟩

theorem specDevOk_any (t cm : Int) (so : Bool) (a1 : Option Addr) (n1 c1 : Nat) (a2 : Option Addr) (n2 c2 : Nat) (ir : Int) (w : World) (hn1 : n1 ≤ 1048576) (hn2 : n2 ≤ 1048576) :
    Calls Try.prog 37 #[.agg #[.int .u64 t, .int .u64 cm, .bool so, .slice a1 n1 c1, .slice a2 n2 c2, .int .i64 ir]] w fun e w' => e = .returned (.bool (okD n1 n2 ir)) ∧ Below w.heap.size w w' := by
  have HI : Hid (∀ w, Calls Try.prog 47 #[.int .i64 ir, .int .i64 0, .int .i64 1] w fun e w' => e = .returned (.bool (decide (0 ≤ ir ∧ ir ≤ 1))) ∧ w' = w) := l1In_8 ir
  have hB : ∀ o, Below w.heap.size w (w.alloc o) := fun o => (Below.refl _ _).alloc (Nat.le_refl _) o
  have F : okD n1 n2 ir = (decide (n1 ≤ 16) && decide (n2 ≤ 4096) && decide (0 ≤ ir ∧ ir ≤ 1)) := rfl
  generalize okD n1 n2 ir = v at *
  generalize decide (0 ≤ ir ∧ ir ≤ 1) = q at *
  by_cases h1 : n1 ≤ 16
  · have d1 : decide ((n1 : Int) ≤ 16) = true := by simp; omega
    by_cases h2 : n2 ≤ 4096
    · have d2 : decide ((n2 : Int) ≤ 4096) = true := by simp; omega
      have F2 : Hid (v = q) := by show v = q; rw [F, decide_eq_true h1, decide_eq_true h2]; rfl
      clear F h1 h2 hn1 hn2
      go_enter Try.func37, Try.ntmps37
      go_wp2_with fail
      refine (HI.out _).mono ?_
      rintro e w1 ⟨rfl, hw1⟩
      subst hw1
      go_wp2_with fail
      go_ret
      exact ⟨by rw [F2.out]; rfl, hB _⟩
    · have d2 : decide ((n2 : Int) ≤ 4096) = false := by simp; omega
      have F2 : Hid (v = false) := by show v = _; rw [F, decide_eq_true h1, decide_eq_false h2]; rfl
      clear F h1 h2 hn1 hn2
      go_enter Try.func37, Try.ntmps37
      go_wp2_with fail
      go_ret
      exact ⟨by rw [F2.out]; rfl, hB _⟩
  · have d1 : decide ((n1 : Int) ≤ 16) = false := by simp; omega
    have F2 : Hid (v = false) := by show v = _; rw [F, decide_eq_false h1]; rfl
    clear F h1 hn1 hn2
    go_enter Try.func37, Try.ntmps37
    go_wp2_with fail
    go_ret
    exact ⟨by rw [F2.out]; rfl, hB _⟩

theorem row_al8 {W : World} {g : Nat} {o : Obj} (h : W.heap[g]? = some o) (o' : Obj) : (W.alloc o').heap[g]? = some o := (Below.heap_alloc W o' g (Array.getElem?_eq_some_iff.1 h).1).trans h

theorem app2 {w w1 : World} {o1 o2 o3 : Obj} (gr : (((w.alloc o1).alloc o2).alloc o3).grownBy w1 (some (w.heap.size + 1 + 1))) : w1.heap[w.heap.size]? = some o1 ∧ w1.heap[w.heap.size + 1]? = some o2 ∧ Below w.heap.size w w1 ∧ w.heap.size + 1 + 1 + 1 ≤ w1.heap.size := by
  obtain ⟨h1, h2, _⟩ := rows3 (w := w) (o1 := o1) (o2 := o2) (o3 := o3) (Below.refl _ (((w.alloc o1).alloc o2).alloc o3))
  have hs := gr.size
  simp only [World.size_alloc] at hs
  refine ⟨(gr.block _ (by simp only [World.size_alloc]; omega) (by simp; omega)).trans h1, (gr.block _ (by simp only [World.size_alloc]; omega) (by simp)).trans h2, ?_, hs⟩
  exact Below.grown ((((Below.refl _ _).alloc (Nat.le_refl _) o1).alloc (by simp) o2).alloc (by simp; omega) o3) gr (by simp only [World.size_alloc]; omega) (fun k hk => by simp at hk; omega)

theorem app1 {w w1 : World} {o : Obj} {g : Nat} (gr : (w.alloc o).grownBy w1 (some g)) (hg : g = w.heap.size) : Below w.heap.size w w1 := by
  subst hg
  exact Below.grown ((Below.refl _ _).alloc (Nat.le_refl _) o) gr (by simp) (fun k hk => by simp at hk; omega)

end Go.Proofs.YtdcihpbggknhgaaR
