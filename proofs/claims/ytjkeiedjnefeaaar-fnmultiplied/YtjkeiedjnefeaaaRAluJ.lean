/- impl.Alu. -/
import Derived.Test.YtjkeiedjnefeaaaRAluI
namespace Go.Proofs.YtjkeiedjnefeaaaR
open Go.RowKit
set_option linter.unusedVariables false

/-- The arithmetic's table lies in block g. -/
def TabA (w : World) (g : Nat) : Prop := g < w.heap.size ∧ ∀ k, k < 41 → ∀ c0 c1 c2, (aoAt k).cells = [c0, c1, c2] → w.cell? ⟨g, k * 3, none⟩ = some c0 ∧ w.cell? ⟨g, k * 3 + 1, none⟩ = some c1 ∧ w.cell? ⟨g, k * 3 + 2, none⟩ = some c2

theorem TabA_of {w : World} {g : Nat} {t : TypeId} (h : w.heap[g]? = some (.cells aluCells t (0, 0))) : TabA w g := by
  refine ⟨?_, fun k hk c0 c1 c2 hc => ?_⟩
  · by_cases hl : g < w.heap.size
    · exact hl
    · rw [Array.getElem?_eq_none (by omega)] at h; cases h
  · have e : ∀ j, j < 3 → w.cell? ⟨g, k * 3 + j, none⟩ = (aoAt k).cells[j]? := by
      intro j hj
      rw [cell_of_row _ _ _ _ _ _ h]
      exact aluCells_at k hk j hj
    rw [hc] at e
    exact ⟨e 0 (by decide), e 1 (by decide), e 2 (by decide)⟩

theorem func_eq_nil (x : Nat) (w : World) : (binOp .eql 58 (.func (.func x) #[] #[]) .nilFunc).run Try.prog w = .ok (.bool false) w := by kernel_rfl

theorem nil_eq_nil (w : World) : (binOp .eql 58 .nilFunc .nilFunc).run Try.prog w = .ok (.bool true) w := by kernel_rfl

theorem aluRow_size : (Try.prog.info? 60).map (·.size) = some 3 := by kernel_rfl

theorem row3_one (a b c : Nat) : (#[Value.func (.func a) #[] #[], .func (.func b) #[] #[], .func (.func c) #[] #[]] : Array Value).all (·.oneCell') = true := by
  simp [Value.oneCell']

theorem row1_one (a : Nat) : (#[Value.func (.func a) #[] #[], .nilFunc, .nilFunc] : Array Value).all (·.oneCell') = true := by
  simp [Value.oneCell']

set_option maxRecDepth 100000 in
set_option maxHeartbeats 1600000 in
theorem implAlu_w (k : Nat) (hk : k < 41) (a b : Int) (a0 : 0 ≤ a) (a1 : a < 18446744073709551616) (b0 : 0 ≤ b) (b1 : b < 18446744073709551616) (f : AF) (l r : SD) (hr : Hid (aoAt k = .w f l r)) (w : World) :
    Calls Try.prog 15 #[.int .i64 ((k : Int) + 22), .int .u64 a, .int .u64 b] w fun e w' => e = .returned (.tuple #[.int .u64 (widen 32 (f.v (l.v a) (r.v b))), .bool true]) ∧ Below w.heap.size w w' := by
  have hkk : wrap64 ((k : Int) + 22 - 22) = k := by unfold wrap64; omega
  have d1 : decide ((k : Int) + 22 < 22) = false := by simp; omega
  have d2 : decide (41 ≤ (k : Int)) = false := by simp; omega
  have hnil := func_eq_nil
  have en1 := enters_b f.enters
  have en2 := enters_b l.enters
  have en3 := enters_b r.enters
  go_enter Try.func15, Try.ntmps15
  go_wp2_with fail
  refine (aluRows_T _).mono ?_
  rintro e w1 ⟨T, rfl, HT, hb⟩
  have hg : (w1.alloc (.cells (Value.agg aluZero).cells 61)).heap[w1.heap.size]? = some (.cells aluZero 61 (0, 0)) := heap_alloc_new _ _
  obtain ⟨w2, hw2⟩ : ∃ w2, w2 = (w1.alloc (.cells (Value.agg aluZero).cells 61)).setRow w1.heap.size aluCells := ⟨_, rfl⟩
  have HA : Hid (TabA w2 w1.heap.size) := by
    show TabA _ _
    rw [hw2]; exact TabA_of (setRow_heap _ _ _ _ _ _ hg)
  have HW2 : Hid (w2 = (w1.alloc (.cells (Value.agg aluZero).cells 61)).setRow w1.heap.size aluCells) := hw2
  clear hw2
  have hg2 : (w2.alloc (.cells #[.nilFunc, .nilFunc, .nilFunc] 60)).heap[w2.heap.size]? = some (.cells #[.nilFunc, .nilFunc, .nilFunc] 60 (0, 0)) := heap_alloc_new _ _
  obtain ⟨w3, hw3⟩ : ∃ w3, w3 = (w2.alloc (.cells #[.nilFunc, .nilFunc, .nilFunc] 60)).setRow w2.heap.size #[.func (.func f.fn) #[] #[], .func (.func l.fn) #[] #[], .func (.func r.fn) #[] #[]] := ⟨_, rfl⟩
  have hr3 : w3.heap[w2.heap.size]? = some (.cells #[.func (.func f.fn) #[] #[], .func (.func l.fn) #[] #[], .func (.func r.fn) #[] #[]] 60 (0, 0)) := by rw [hw3]; exact setRow_heap _ _ _ _ _ _ hg2
  have e0 : w3.cell? ⟨w2.heap.size, 0, none⟩ = some (.func (.func f.fn) #[] #[]) := cell_of_row _ _ _ _ _ _ hr3
  have e1 : w3.cell? ⟨w2.heap.size, 1, none⟩ = some (.func (.func l.fn) #[] #[]) := cell_of_row _ _ _ _ _ _ hr3
  have e2 : w3.cell? ⟨w2.heap.size, 2, none⟩ = some (.func (.func r.fn) #[] #[]) := cell_of_row _ _ _ _ _ _ hr3
  have HW3 : Hid (w3 = (w2.alloc (.cells #[.nilFunc, .nilFunc, .nilFunc] 60)).setRow w2.heap.size #[.func (.func f.fn) #[] #[], .func (.func l.fn) #[] #[], .func (.func r.fn) #[] #[]]) := hw3
  clear hw3 hr3
  obtain ⟨c0, c1, c2⟩ := HA.out.2 k hk _ _ _ (by rw [hr.out]; rfl)
  go_wp2_with (first | refine wpList_allocZ rfl 61 rfl (some 8) rfl _ aluZero_info ?_ | (refine wpList_store_rowTo rfl 61 (.tmp 8) (.tmp 10) rfl rfl w1.heap.size aluCells rfl HT.out 61 aluZero hg (by rw [aluRows_size, aluCells_size]) (by rw [aluZero_size, aluCells_size]) aluCells_one ?_; rw [← HW2.out]) | (refine wpList_store_rowTo rfl 60 (.tmp 9) (.tmp 21) rfl rfl w2.heap.size #[.func (.func f.fn) #[] #[], .func (.func l.fn) #[] #[], .func (.func r.fn) #[] #[]] rfl rfl 60 _ hg2 aluRow_size rfl (row3_one _ _ _) ?_; rw [← HW3.out]))
  have HL : Hid (∀ w : World, Calls Try.prog l.fn #[.int .u64 a] w fun e w' => e = .returned (.int .u64 (l.v a)) ∧ ∃ m, w' = w.drewN m) := SD.calls l a a0 a1
  have HR : Hid (∀ w : World, Calls Try.prog r.fn #[.int .u64 b] w fun e w' => e = .returned (.int .u64 (r.v b)) ∧ ∃ m, w' = w.drewN m) := SD.calls r b b0 b1
  have HF : Hid (∀ w : World, Calls Try.prog f.fn #[.int .u64 (l.v a), .int .u64 (r.v b)] w fun e w' => e = .returned (.int .u64 (f.v (l.v a) (r.v b))) ∧ ∃ m, w' = w.drewN m) := AF.calls f _ _ (l.bd a a0).1 (l.bd a a0).2 (r.bd b b0).1 (r.bd b b0).2
  have HQ : Hid (∀ (x : Int) (w : World), Calls Try.prog 12 #[.int .u64 x, .int .i64 32] w fun e w' => e = .returned (.int .u64 (widen 32 x)) ∧ ∃ m, w' = w.drewN m) := fun x w => quiet_same (implWiden_any x 32 (by omega) (by omega) w)
  go_quiet (first | with_reducible refine Calls.quiet_of (HL.out _) | with_reducible refine Calls.quiet_of (HR.out _) | with_reducible refine Calls.quiet_of (HF.out _) | with_reducible refine Calls.quiet_of (HQ.out _ _))
  go_wp2_with fail
  go_ret2
  refine ⟨rfl, below_dN ?_ _⟩
  rw [HW3.out, HW2.out]
  refine below_setRow (Below.alloc (below_setRow (hb.alloc hb.size _) hb.size _) ?_ _) ?_ _
  · rw [setRow_size]; exact Nat.le_trans hb.size (by simp)
  · rw [setRow_size]; exact Nat.le_trans hb.size (by simp)

set_option maxRecDepth 100000 in
set_option maxHeartbeats 1600000 in
theorem implAlu_d (k : Nat) (hk : k < 41) (a b : Int) (a0 : 0 ≤ a) (a1 : a < 18446744073709551616) (b0 : 0 ≤ b) (b1 : b < 18446744073709551616) (f : AF) (hr : Hid (aoAt k = .d f)) (w : World) :
    Calls Try.prog 15 #[.int .i64 ((k : Int) + 22), .int .u64 a, .int .u64 b] w fun e w' => e = .returned (.tuple #[.int .u64 (f.v a b), .bool true]) ∧ Below w.heap.size w w' := by
  have hkk : wrap64 ((k : Int) + 22 - 22) = k := by unfold wrap64; omega
  have d1 : decide ((k : Int) + 22 < 22) = false := by simp; omega
  have d2 : decide (41 ≤ (k : Int)) = false := by simp; omega
  have hnil := nil_eq_nil
  have en1 := enters_b f.enters
  go_enter Try.func15, Try.ntmps15
  go_wp2_with fail
  refine (aluRows_T _).mono ?_
  rintro e w1 ⟨T, rfl, HT, hb⟩
  have hg : (w1.alloc (.cells (Value.agg aluZero).cells 61)).heap[w1.heap.size]? = some (.cells aluZero 61 (0, 0)) := heap_alloc_new _ _
  obtain ⟨w2, hw2⟩ : ∃ w2, w2 = (w1.alloc (.cells (Value.agg aluZero).cells 61)).setRow w1.heap.size aluCells := ⟨_, rfl⟩
  have HA : Hid (TabA w2 w1.heap.size) := by
    show TabA _ _
    rw [hw2]; exact TabA_of (setRow_heap _ _ _ _ _ _ hg)
  have HW2 : Hid (w2 = (w1.alloc (.cells (Value.agg aluZero).cells 61)).setRow w1.heap.size aluCells) := hw2
  clear hw2
  have hg2 : (w2.alloc (.cells #[.nilFunc, .nilFunc, .nilFunc] 60)).heap[w2.heap.size]? = some (.cells #[.nilFunc, .nilFunc, .nilFunc] 60 (0, 0)) := heap_alloc_new _ _
  obtain ⟨w3, hw3⟩ : ∃ w3, w3 = (w2.alloc (.cells #[.nilFunc, .nilFunc, .nilFunc] 60)).setRow w2.heap.size #[.func (.func f.fn) #[] #[], .nilFunc, .nilFunc] := ⟨_, rfl⟩
  have hr3 : w3.heap[w2.heap.size]? = some (.cells #[.func (.func f.fn) #[] #[], .nilFunc, .nilFunc] 60 (0, 0)) := by rw [hw3]; exact setRow_heap _ _ _ _ _ _ hg2
  have e0 : w3.cell? ⟨w2.heap.size, 0, none⟩ = some (.func (.func f.fn) #[] #[]) := cell_of_row _ _ _ _ _ _ hr3
  have e1 : w3.cell? ⟨w2.heap.size, 1, none⟩ = some .nilFunc := cell_of_row _ _ _ _ _ _ hr3
  have e2 : w3.cell? ⟨w2.heap.size, 2, none⟩ = some .nilFunc := cell_of_row _ _ _ _ _ _ hr3
  have HW3 : Hid (w3 = (w2.alloc (.cells #[.nilFunc, .nilFunc, .nilFunc] 60)).setRow w2.heap.size #[.func (.func f.fn) #[] #[], .nilFunc, .nilFunc]) := hw3
  clear hw3 hr3
  obtain ⟨c0, c1, c2⟩ := HA.out.2 k hk _ _ _ (by rw [hr.out]; rfl)
  go_wp2_with (first | refine wpList_allocZ rfl 61 rfl (some 8) rfl _ aluZero_info ?_ | (refine wpList_store_rowTo rfl 61 (.tmp 8) (.tmp 10) rfl rfl w1.heap.size aluCells rfl HT.out 61 aluZero hg (by rw [aluRows_size, aluCells_size]) (by rw [aluZero_size, aluCells_size]) aluCells_one ?_; rw [← HW2.out]) | (refine wpList_store_rowTo rfl 60 (.tmp 9) (.tmp 21) rfl rfl w2.heap.size #[.func (.func f.fn) #[] #[], .nilFunc, .nilFunc] rfl rfl 60 _ hg2 aluRow_size rfl (row1_one _) ?_; rw [← HW3.out]))
  refine (AF.calls f a b a0 a1 b0 b1 _).mono ?_
  rintro e w4 ⟨rfl, nq, hw4⟩
  subst hw4
  go_wp2_with fail
  go_ret2
  refine ⟨rfl, below_dN ?_ _⟩
  rw [HW3.out, HW2.out]
  refine below_setRow (Below.alloc (below_setRow (hb.alloc hb.size _) hb.size _) ?_ _) ?_ _
  · rw [setRow_size]; exact Nat.le_trans hb.size (by simp)
  · rw [setRow_size]; exact Nat.le_trans hb.size (by simp)

set_option maxRecDepth 100000 in
set_option maxHeartbeats 1600000 in
theorem implAlu_none (op a b : Int) (hw : (Lit.int .i64 op).wf = true) (h : aluB op = false) (w : World) :
    Calls Try.prog 15 #[.int .i64 op, .int .u64 a, .int .u64 b] w fun e w' => e = .returned (.tuple #[.int .u64 0, .bool false]) ∧ Below w.heap.size w w' := by
  have hr : ¬ (22 ≤ op ∧ op ≤ 62) := by simpa [aluB] using h
  have hwf := i64_bd hw
  clear hw h
  by_cases h1 : op < 22
  · have d1 : decide (op < 22) = true := by simpa using h1
    clear hr h1
    go_enter Try.func15, Try.ntmps15
    go_wp2_with fail
    refine (aluRows_T _).mono ?_
    rintro e w1 ⟨T, rfl, HT, hb⟩
    have hg : (w1.alloc (.cells (Value.agg aluZero).cells 61)).heap[w1.heap.size]? = some (.cells aluZero 61 (0, 0)) := heap_alloc_new _ _
    go_wp2_with (first | refine wpList_allocZ rfl 61 rfl (some 8) rfl _ aluZero_info ?_ | (refine wpList_store_rowTo rfl 61 (.tmp 8) (.tmp 10) rfl rfl w1.heap.size aluCells rfl HT.out 61 aluZero hg (by rw [aluRows_size, aluCells_size]) (by rw [aluZero_size, aluCells_size]) aluCells_one ?_))
    go_ret2
    exact ⟨rfl, below_setRow (hb.alloc hb.size _) hb.size _⟩
  · have d1 : decide (op < 22) = false := by simpa using h1
    have hk : wrap64 (op - 22) = op - 22 := by unfold wrap64; omega
    have d2 : decide (41 ≤ op - 22) = true := by simp; omega
    clear hr h1
    go_enter Try.func15, Try.ntmps15
    go_wp2_with fail
    refine (aluRows_T _).mono ?_
    rintro e w1 ⟨T, rfl, HT, hb⟩
    have hg : (w1.alloc (.cells (Value.agg aluZero).cells 61)).heap[w1.heap.size]? = some (.cells aluZero 61 (0, 0)) := heap_alloc_new _ _
    go_wp2_with (first | refine wpList_allocZ rfl 61 rfl (some 8) rfl _ aluZero_info ?_ | (refine wpList_store_rowTo rfl 61 (.tmp 8) (.tmp 10) rfl rfl w1.heap.size aluCells rfl HT.out 61 aluZero hg (by rw [aluRows_size, aluCells_size]) (by rw [aluZero_size, aluCells_size]) aluCells_one ?_))
    go_ret2
    exact ⟨rfl, below_setRow (hb.alloc hb.size _) hb.size _⟩

theorem implAlu_any (op a b : Int) (hw : (Lit.int .i64 op).wf = true) (a0 : 0 ≤ a) (a1 : a < 18446744073709551616) (b0 : 0 ≤ b) (b1 : b < 18446744073709551616) (w : World) :
    Calls Try.prog 15 #[.int .i64 op, .int .u64 a, .int .u64 b] w fun e w' => e = .returned (.tuple #[.int .u64 (aluV op a b), .bool (aluB op)]) ∧ Below w.heap.size w w' := by
  cases h : aluB op with
  | false =>
    have e : aluV op a b = 0 := by simp [aluV, h]
    rw [e]; exact implAlu_none op a b hw h w
  | true =>
    have h2 : 22 ≤ op ∧ op ≤ 62 := by simpa [aluB] using h
    obtain ⟨k, rfl⟩ : ∃ k : Nat, op = (k : Int) + 22 := ⟨(op - 22).toNat, by omega⟩
    have e : aluV ((k : Int) + 22) a b = (aoAt k).v a b := by simp [aluV, h]
    rw [e]
    cases hr : aoAt k with
    | d f => exact implAlu_d k (by omega) a b a0 a1 b0 b1 f hr w
    | w f l r => exact implAlu_w k (by omega) a b a0 a1 b0 b1 f l r hr w

end Go.Proofs.YtjkeiedjnefeaaaR
