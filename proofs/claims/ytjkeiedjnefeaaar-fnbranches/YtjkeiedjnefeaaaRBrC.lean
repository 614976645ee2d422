/- Branches: the program's and the model's. -/
import Derived.Test.YtjkeiedjnefeaaaRAluC
namespace Go.Proofs.YtjkeiedjnefeaaaR
open Go.RowKit
set_option linter.unusedVariables false

def brB (op : Int) : Bool := decide (5 ≤ op ∧ op ≤ 10)

def brV (op a b : Int) : Bool :=
  if op = 5 then (a == b) else if op = 6 then !(a == b) else if op = 7 then decide (wrap64 a < wrap64 b) else if op = 8 then !decide (wrap64 a < wrap64 b)
  else if op = 9 then decide (a < b) else if op = 10 then !decide (a < b) else false

theorem br_cases {op : Int} (h : brB op = true) : op = 5 ∨ op = 6 ∨ op = 7 ∨ op = 8 ∨ op = 9 ∨ op = 10 := by
  have : 5 ≤ op ∧ op ≤ 10 := by simpa [brB] using h
  omega

theorem br_none {op : Int} (h : brB op = false) (a b : Int) : brV op a b = false := by
  have : ¬ (5 ≤ op ∧ op ≤ 10) := by simpa [brB] using h
  unfold brV
  rw [if_neg (by omega), if_neg (by omega), if_neg (by omega), if_neg (by omega), if_neg (by omega), if_neg (by omega)]

theorem branchRows_size : (Try.prog.info? 74).map (·.size) = some 3 := by kernel_rfl

theorem branchRows_one : (#[Value.func (.func 74) #[] #[], .func (.func 75) #[] #[], .func (.func 76) #[] #[]] : Array Value).all (·.oneCell') = true := by kernel_rfl

theorem branchRows_any (w : World) : Calls Try.prog 46 #[] w fun e w' => e = .returned (.agg #[.func (.func 74) #[] #[], .func (.func 75) #[] #[], .func (.func 76) #[] #[]]) ∧ Below w.heap.size w w' := by
  have hg : (w.alloc (.cells #[.nilFunc, .nilFunc, .nilFunc] 74)).heap[w.heap.size]? = some (.cells #[.nilFunc, .nilFunc, .nilFunc] 74 (0, 0)) := heap_alloc_new _ _
  go_enter Try.func46, Try.ntmps46
  go_wp2_with (refine wpList_store_rowTo rfl 74 (.tmp 0) (.tmp 4) rfl rfl w.heap.size #[.func (.func 74) #[] #[], .func (.func 75) #[] #[], .func (.func 76) #[] #[]] rfl rfl 74 _ hg branchRows_size rfl branchRows_one ?_)
  refine bodyPost_ret (results_cell_row Try.results46 _ _ _ _ _ _ _ rfl (setRow_heap _ _ _ _ _ _ hg) Try.underlying74 rfl branchRows_size) rfl ⟨rfl, ?_⟩
  exact below_setRow ((Below.refl _ _).alloc (Nat.le_refl _) _) (Nat.le_refl _) _

set_option maxHeartbeats 800000 in
theorem implBranch_some (op a b : Int) (h : brB op = true) (w : World) :
    Calls Try.prog 22 #[.int .i64 op, .int .u64 a, .int .u64 b] w fun e w' => e = .returned (.tuple #[.bool (brV op a b), .bool true]) ∧ Below w.heap.size w w' := by
  have e1 := isEqual_any a b
  have e2 := isSignedLess_any a b
  have e3 := isWordLess_any a b
  obtain ⟨c1, h1⟩ : ∃ c, c = (a == b) := ⟨_, rfl⟩
  obtain ⟨c2, h2⟩ : ∃ c, c = decide (wrap64 a < wrap64 b) := ⟨_, rfl⟩
  obtain ⟨c3, h3⟩ : ∃ c, c = decide (a < b) := ⟨_, rfl⟩
  have F : Hid (∀ op, brV op a b = if op = 5 then c1 else if op = 6 then !c1 else if op = 7 then c2 else if op = 8 then !c2 else if op = 9 then c3 else if op = 10 then !c3 else false) := by
    intro op; rw [h1, h2, h3]; rfl
  have E1 : Hid (∀ w : World, Calls Try.prog 74 #[.int .u64 a, .int .u64 b] w fun e w' => e = .returned (.bool c1) ∧ w' = w) := by rw [h1]; exact isEqual_any a b
  have E2 : Hid (∀ w : World, Calls Try.prog 75 #[.int .u64 a, .int .u64 b] w fun e w' => e = .returned (.bool c2) ∧ w' = w) := by rw [h2]; exact isSignedLess_any a b
  have E3 : Hid (∀ w : World, Calls Try.prog 76 #[.int .u64 a, .int .u64 b] w fun e w' => e = .returned (.bool c3) ∧ w' = w) := by rw [h3]; exact isWordLess_any a b
  clear h1 h2 h3 e1 e2 e3
  rcases br_cases h with rfl | rfl | rfl | rfl | rfl | rfl
  all_goals
    go_enter Try.func22, Try.ntmps22
    go_wp2_with fail
    refine (branchRows_any _).mono ?_
    rintro e w1 ⟨rfl, hb⟩
    have hg : (w1.alloc (.cells #[.nilFunc, .nilFunc, .nilFunc] 74)).heap[w1.heap.size]? = some (.cells #[.nilFunc, .nilFunc, .nilFunc] 74 (0, 0)) := heap_alloc_new _ _
    obtain ⟨w2, hw2⟩ : ∃ w2, w2 = (w1.alloc (.cells #[.nilFunc, .nilFunc, .nilFunc] 74)).setRow w1.heap.size #[.func (.func 74) #[] #[], .func (.func 75) #[] #[], .func (.func 76) #[] #[]] := ⟨_, rfl⟩
    have hr : w2.heap[w1.heap.size]? = some (.cells #[.func (.func 74) #[] #[], .func (.func 75) #[] #[], .func (.func 76) #[] #[]] 74 (0, 0)) := by rw [hw2]; exact setRow_heap _ _ _ _ _ _ hg
    have k0 : w2.cell? ⟨w1.heap.size, 0, none⟩ = some (.func (.func 74) #[] #[]) := cell_of_row _ _ _ _ _ _ hr
    have k1 : w2.cell? ⟨w1.heap.size, 1, none⟩ = some (.func (.func 75) #[] #[]) := cell_of_row _ _ _ _ _ _ hr
    have k2 : w2.cell? ⟨w1.heap.size, 2, none⟩ = some (.func (.func 76) #[] #[]) := cell_of_row _ _ _ _ _ _ hr
    have HB : Hid (Below w.heap.size w w2) := by rw [hw2]; exact below_setRow (hb.alloc hb.size _) hb.size _
    have HW2 : Hid (w2 = (w1.alloc (.cells #[.nilFunc, .nilFunc, .nilFunc] 74)).setRow w1.heap.size #[.func (.func 74) #[] #[], .func (.func 75) #[] #[], .func (.func 76) #[] #[]]) := hw2
    clear hw2 hr
    go_wp2_with (first
      | (refine wpList_store_rowTo rfl 74 (.tmp 8) (.tmp 12) rfl rfl w1.heap.size #[.func (.func 74) #[] #[], .func (.func 75) #[] #[], .func (.func 76) #[] #[]] rfl rfl 74 _ hg branchRows_size rfl branchRows_one ?_; rw [← HW2.out])
      | (go_at_call 74; with_reducible refine (E1.out _).mono ?_; rintro e w3 ⟨rfl, hw3⟩; subst hw3)
      | (go_at_call 75; with_reducible refine (E2.out _).mono ?_; rintro e w3 ⟨rfl, hw3⟩; subst hw3)
      | (go_at_call 76; with_reducible refine (E3.out _).mono ?_; rintro e w3 ⟨rfl, hw3⟩; subst hw3))
    go_ret2
    exact ⟨by rw [F.out]; rfl, HB.out⟩

set_option maxHeartbeats 800000 in
theorem implBranch_none (op a b : Int) (hw : (Lit.int .i64 op).wf = true) (h : brB op = false) (w : World) :
    Calls Try.prog 22 #[.int .i64 op, .int .u64 a, .int .u64 b] w fun e w' => e = .returned (.tuple #[.bool false, .bool false]) ∧ Below w.heap.size w w' := by
  have hr : ¬ (5 ≤ op ∧ op ≤ 10) := by simpa [brB] using h
  have hwf := i64_bd hw
  clear hw h
  by_cases h1 : op < 5
  · have d1 : decide (op < 5) = true := by simpa using h1
    clear hr h1
    go_enter Try.func22, Try.ntmps22
    go_wp2_with fail
    refine (branchRows_any _).mono ?_
    rintro e w1 ⟨rfl, hb⟩
    have hg : (w1.alloc (.cells #[.nilFunc, .nilFunc, .nilFunc] 74)).heap[w1.heap.size]? = some (.cells #[.nilFunc, .nilFunc, .nilFunc] 74 (0, 0)) := heap_alloc_new _ _
    go_wp2_with (refine wpList_store_rowTo rfl 74 (.tmp 8) (.tmp 12) rfl rfl w1.heap.size #[.func (.func 74) #[] #[], .func (.func 75) #[] #[], .func (.func 76) #[] #[]] rfl rfl 74 _ hg branchRows_size rfl branchRows_one ?_)
    go_ret2
    exact ⟨rfl, below_setRow (hb.alloc hb.size _) hb.size _⟩
  · have d1 : decide (op < 5) = false := by simpa using h1
    have hk : wrap64 (op - 5) = op - 5 := by unfold wrap64; omega
    have d2 : decide (6 ≤ op - 5) = true := by simp; omega
    clear hr h1
    go_enter Try.func22, Try.ntmps22
    go_wp2_with fail
    refine (branchRows_any _).mono ?_
    rintro e w1 ⟨rfl, hb⟩
    have hg : (w1.alloc (.cells #[.nilFunc, .nilFunc, .nilFunc] 74)).heap[w1.heap.size]? = some (.cells #[.nilFunc, .nilFunc, .nilFunc] 74 (0, 0)) := heap_alloc_new _ _
    go_wp2_with (refine wpList_store_rowTo rfl 74 (.tmp 8) (.tmp 12) rfl rfl w1.heap.size #[.func (.func 74) #[] #[], .func (.func 75) #[] #[], .func (.func 76) #[] #[]] rfl rfl 74 _ hg branchRows_size rfl branchRows_one ?_)
    go_ret2
    exact ⟨rfl, below_setRow (hb.alloc hb.size _) hb.size _⟩

theorem implBranch_any (op a b : Int) (hw : (Lit.int .i64 op).wf = true) (w : World) :
    Calls Try.prog 22 #[.int .i64 op, .int .u64 a, .int .u64 b] w fun e w' => e = .returned (.tuple #[.bool (brV op a b), .bool (brB op)]) ∧ Below w.heap.size w w' := by
  cases h : brB op with
  | false => rw [br_none h]; exact implBranch_none op a b hw h w
  | true => exact implBranch_some op a b h w

theorem not_lt_ge (x y : Int) : decide (y ≤ x) = !decide (x < y) := by
  by_cases h : x < y
  · simp [h]
  · simp [h]; omega

set_option maxHeartbeats 800000 in
theorem specBranch_any (op a b : Int) (w : World) :
    Calls Try.prog 23 #[.int .i64 op, .int .u64 a, .int .u64 b] w fun e w' => e = .returned (.tuple #[.bool (brV op a b), .bool (brB op)]) ∧ w' = w := by
  cases h : brB op with
  | false =>
    rw [br_none h]
    have hr : ¬ (5 ≤ op ∧ op ≤ 10) := by simpa [brB] using h
    have d5 : (op == 5) = false := by simp; omega
    have d6 : (op == 6) = false := by simp; omega
    have d7 : (op == 7) = false := by simp; omega
    have d8 : (op == 8) = false := by simp; omega
    have d9 : (op == 9) = false := by simp; omega
    have d10 : (op == 10) = false := by simp; omega
    clear h hr
    go_enter Try.func23, Try.ntmps23
    go_wp2_with fail
    go_ret2
    exact ⟨rfl, rfl⟩
  | true =>
    have g1 := not_lt_ge (wrap64 a) (wrap64 b)
    have g2 := not_lt_ge a b
    have g3 : (a != b) = !(a == b) := rfl
    obtain ⟨c1, h1⟩ : ∃ c, c = (a == b) := ⟨_, rfl⟩
    obtain ⟨c2, h2⟩ : ∃ c, c = decide (wrap64 a < wrap64 b) := ⟨_, rfl⟩
    obtain ⟨c3, h3⟩ : ∃ c, c = decide (a < b) := ⟨_, rfl⟩
    have F : Hid (∀ op, brV op a b = if op = 5 then c1 else if op = 6 then !c1 else if op = 7 then c2 else if op = 8 then !c2 else if op = 9 then c3 else if op = 10 then !c3 else false) := by
      intro op; rw [h1, h2, h3]; rfl
    rw [← h1] at g3
    rw [← h2] at g1
    rw [← h3] at g2
    have k1 := h1.symm
    have k2 := h2.symm
    have k3 := h3.symm
    clear h1 h2 h3
    rcases br_cases h with rfl | rfl | rfl | rfl | rfl | rfl
    all_goals
      go_enter Try.func23, Try.ntmps23
      go_wp2_with fail
      go_ret2
      exact ⟨by rw [F.out]; rfl, rfl⟩

end Go.Proofs.YtjkeiedjnefeaaaR
