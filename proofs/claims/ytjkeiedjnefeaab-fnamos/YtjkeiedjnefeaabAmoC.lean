/- Atomic sums: the program's and the model's. Written by tools/genAmo.py. -/
import Derived.Test.YtjkeiedjnefeaabAluC
import Derived.Test.YtjkeiedjnefeaabAmoP
namespace Go.Proofs.Ytjkeiedjnefeaab
open Go.RowKit
set_option linter.unusedVariables false

theorem signedLesser_any (a b : Int) (a0 : 0 ≤ a) (a1 : a < 18446744073709551616) (b0 : 0 ≤ b) (b1 : b < 18446744073709551616) (w : World) : Calls Try.prog 26 #[.int .u64 a, .int .u64 b] w fun e w' => e = .returned (.int .u64 (MF.smin.v a b)) ∧ w' = w := by
  have ua := u64_back a0 a1
  have ub := u64_back b0 b1
  go_enter Try.func26, Try.ntmps26
  go_wp2_with fail
  · go_ret
    exact ⟨by simp only [MF.v]; rw [if_pos h]; rfl, rfl⟩
  · go_ret
    exact ⟨by simp only [MF.v]; rw [if_neg (by omega)]; rfl, rfl⟩

theorem signedGreater_any (a b : Int) (a0 : 0 ≤ a) (a1 : a < 18446744073709551616) (b0 : 0 ≤ b) (b1 : b < 18446744073709551616) (w : World) : Calls Try.prog 27 #[.int .u64 a, .int .u64 b] w fun e w' => e = .returned (.int .u64 (MF.smax.v a b)) ∧ w' = w := by
  have ua := u64_back a0 a1
  have ub := u64_back b0 b1
  go_enter Try.func27, Try.ntmps27
  go_wp2_with fail
  · go_ret
    exact ⟨by simp only [MF.v]; rw [if_pos h]; rfl, rfl⟩
  · go_ret
    exact ⟨by simp only [MF.v]; rw [if_neg (by omega)]; rfl, rfl⟩

theorem wordLesser_any (a b : Int) (a0 : 0 ≤ a) (a1 : a < 18446744073709551616) (b0 : 0 ≤ b) (b1 : b < 18446744073709551616) (w : World) : Calls Try.prog 28 #[.int .u64 a, .int .u64 b] w fun e w' => e = .returned (.int .u64 (MF.umin.v a b)) ∧ w' = w := by
  have ua := u64_back a0 a1
  have ub := u64_back b0 b1
  go_enter Try.func28, Try.ntmps28
  go_wp2_with fail
  · go_ret
    exact ⟨by simp only [MF.v]; rw [if_pos h]; rfl, rfl⟩
  · go_ret
    exact ⟨by simp only [MF.v]; rw [if_neg (by omega)]; rfl, rfl⟩

theorem wordGreater_any (a b : Int) (a0 : 0 ≤ a) (a1 : a < 18446744073709551616) (b0 : 0 ≤ b) (b1 : b < 18446744073709551616) (w : World) : Calls Try.prog 29 #[.int .u64 a, .int .u64 b] w fun e w' => e = .returned (.int .u64 (MF.umax.v a b)) ∧ w' = w := by
  have ua := u64_back a0 a1
  have ub := u64_back b0 b1
  go_enter Try.func29, Try.ntmps29
  go_wp2_with fail
  · go_ret
    exact ⟨by simp only [MF.v]; rw [if_pos h]; rfl, rfl⟩
  · go_ret
    exact ⟨by simp only [MF.v]; rw [if_neg (by omega)]; rfl, rfl⟩

def MF.fn : MF → Nat
  | .second => 21
  | .sum => 22
  | .xor => 23
  | .and => 24
  | .or => 25
  | .smin => 26
  | .smax => 27
  | .umin => 28
  | .umax => 29

theorem MF.calls (f : MF) (a b : Int) (a0 : 0 ≤ a) (a1 : a < 18446744073709551616) (b0 : 0 ≤ b) (b1 : b < 18446744073709551616) (w : World) :
    Calls Try.prog f.fn #[.int .u64 a, .int .u64 b] w fun e w' => e = .returned (.int .u64 (f.v a b)) ∧ ∃ m, w' = w.drewN m := by
  cases f
  · exact quiet_same (secondOf_any a b w)
  · exact quiet_same (sumOf_any a b w)
  · exact quiet_same (xorOf_any a b w)
  · exact quiet_same (andOf_any a b w)
  · exact quiet_same (orOf_any a b w)
  · exact quiet_same (signedLesser_any a b a0 a1 b0 b1 w)
  · exact quiet_same (signedGreater_any a b a0 a1 b0 b1 w)
  · exact quiet_same (wordLesser_any a b a0 a1 b0 b1 w)
  · exact quiet_same (wordGreater_any a b a0 a1 b0 b1 w)

theorem MF.enters (f : MF) : (Try.prog.funcs[f.fn]?).map (fun fn => (fn.name == "runtime.NumGoroutine", fn.body.isSome)) = some (false, true) := by cases f <;> kernel_rfl

def amoCells : Array Value := (mfs.map fun f => Value.func (.func f.fn) #[] #[]).toArray

def amoZero : Array Value := (List.replicate 9 Value.nilFunc).toArray

theorem amoZero_size : amoZero.size = 9 := by kernel_rfl

theorem amoCells_size : amoCells.size = 9 := by kernel_rfl

theorem amoZero_info : (Try.prog.info? 39).bind (·.zero) = some (.agg amoZero) := by kernel_rfl

theorem amoCells_one : amoCells.all (·.oneCell') = true := by kernel_rfl

theorem amoRows_size : (Try.prog.info? 39).map (·.size) = some 9 := by kernel_rfl

theorem amoCells_at (k : Nat) (h : k < 9) : amoCells[k]? = some (.func (.func (mfAt k).fn) #[] #[]) := by
  match k, h with
  | 0, _ => rfl
  | 1, _ => rfl
  | 2, _ => rfl
  | 3, _ => rfl
  | 4, _ => rfl
  | 5, _ => rfl
  | 6, _ => rfl
  | 7, _ => rfl
  | 8, _ => rfl
  | k + 9, h => exact absurd h (by omega)

set_option maxRecDepth 100000 in
set_option maxHeartbeats 4000000 in
theorem amoRows_any (w : World) : Calls Try.prog 14 #[] w fun e w' => e = .returned (.agg amoCells) ∧ Below w.heap.size w w' := by
  go_enter Try.func14, Try.ntmps14
  apply wp_seq_k; intro K0 hK0
  apply wp_region_list
  refine wpList_allocZ rfl 39 rfl (some 0) rfl _ amoZero_info ?_
  apply wpList_nil
  refine hK0 _ _ ?_
  clear hK0 K0
  apply wp_seq_k; intro K0 hK0
  apply wp_region_lit
  refine wpList_buildsTo 10 0 10 (.pointer (some ⟨w.heap.size, 0, none⟩)) (.agg amoCells) (by kernel_rfl) ?_
  intro a' h0 h99 hd
  have hg : (w.alloc (.cells (Value.agg amoZero).cells 39)).heap[w.heap.size]? = some (.cells amoZero 39 (0, 0)) := heap_alloc_new _ _
  refine wpList_store_rowTo rfl 39 (.tmp 0) (.tmp 10) rfl rfl w.heap.size amoCells h0 h99 39 amoZero hg (by rw [amoRows_size, amoCells_size]) (by rw [amoZero_size, amoCells_size]) amoCells_one ?_
  apply wpList_nil
  refine hK0 _ _ ?_
  clear hK0 K0
  apply wp_ret
  refine bodyPost_ret (results_cell_row Try.results14 _ _ _ _ _ _ _ h0 (setRow_heap _ _ _ _ _ _ hg) Try.underlying39 rfl (by rw [amoRows_size, amoCells_size])) hd ⟨rfl, ?_⟩
  exact below_setRow ((Below.refl _ _).alloc (Nat.le_refl _) _) (Nat.le_refl _) _

theorem amoRows_T (w : World) : Calls Try.prog 14 #[] w fun e w' => ∃ T, e = .returned T ∧ Hid (T = .agg amoCells) ∧ Below w.heap.size w w' :=
  (amoRows_any w).mono fun e w' h => ⟨.agg amoCells, h.1, (rfl : Value.agg amoCells = .agg amoCells), h.2⟩

set_option maxRecDepth 100000 in
set_option maxHeartbeats 1600000 in
theorem implAmo_wide (k : Nat) (hk : k < 9) (a b : Int) (a0 : 0 ≤ a) (a1 : a < 18446744073709551616) (b0 : 0 ≤ b) (b1 : b < 18446744073709551616) (f : MF) (hf : Hid (mfAt k = f)) (w : World) :
    Calls Try.prog 6 #[.int .i64 ((k : Int) + 76), .int .u64 a, .int .u64 b] w fun e w' => e = .returned (.tuple #[.int .u64 (f.v a b), .bool true]) ∧ Below w.heap.size w w' := by
  have hkk : wrap64 ((k : Int) + 76 - 76) = k := by unfold wrap64; omega
  have d1 : decide (76 ≤ (k : Int) + 76) = true := by simp; omega
  have d2 : decide ((k : Int) < 9) = true := by simp; omega
  have en1 := enters_b f.enters
  go_enter Try.func6, Try.ntmps6
  go_wp2_with fail
  refine (amoRows_T _).mono ?_
  rintro e w1 ⟨T, rfl, HT, hb⟩
  have hg : (w1.alloc (.cells (Value.agg amoZero).cells 39)).heap[w1.heap.size]? = some (.cells amoZero 39 (0, 0)) := heap_alloc_new _ _
  obtain ⟨w2, hw2⟩ : ∃ w2, w2 = (w1.alloc (.cells (Value.agg amoZero).cells 39)).setRow w1.heap.size amoCells := ⟨_, rfl⟩
  have HR : Hid (w2.heap[w1.heap.size]? = some (.cells amoCells 39 (0, 0))) := by
    show _ = _
    rw [hw2]; exact setRow_heap _ _ _ _ _ _ hg
  have HB : Hid (Below w.heap.size w w2) := by
    show Below _ _ _
    rw [hw2]; exact below_setRow (hb.alloc hb.size _) hb.size _
  have HW2 : Hid (w2 = (w1.alloc (.cells (Value.agg amoZero).cells 39)).setRow w1.heap.size amoCells) := hw2
  clear hw2
  have c0 : w2.cell? ⟨w1.heap.size, k, none⟩ = some (.func (.func f.fn) #[] #[]) := by
    rw [cell_of_row _ _ _ _ _ _ HR.out, amoCells_at k hk, hf.out]
  go_wp2_with (first | refine wpList_allocZ rfl 39 rfl (some 8) rfl _ amoZero_info ?_ | (refine wpList_store_rowTo rfl 39 (.tmp 8) (.tmp 10) rfl rfl w1.heap.size amoCells rfl HT.out 39 amoZero hg (by rw [amoRows_size, amoCells_size]) (by rw [amoZero_size, amoCells_size]) amoCells_one ?_; rw [← HW2.out]))
  refine (MF.calls f a b a0 a1 b0 b1 _).mono ?_
  rintro e w4 ⟨rfl, nq, hw4⟩
  subst hw4
  go_wp2_with fail
  go_ret2
  exact ⟨rfl, below_dN HB.out _⟩

set_option maxRecDepth 100000 in
set_option maxHeartbeats 1600000 in
theorem implAmo_low (k : Nat) (hk : k < 9) (a b : Int) (a0 : 0 ≤ a) (a1 : a < 18446744073709551616) (b0 : 0 ≤ b) (b1 : b < 18446744073709551616) (f : MF) (hf : Hid (mfAt k = f)) (w : World) :
    Calls Try.prog 6 #[.int .i64 ((k : Int) + 65), .int .u64 a, .int .u64 b] w fun e w' => e = .returned (.tuple #[.int .u64 (f.v (widen 32 a) (widen 32 b) % 4294967296), .bool true]) ∧ Below w.heap.size w w' := by
  have hkk : wrap64 ((k : Int) + 65 - 65) = k := by unfold wrap64; omega
  have d1 : decide (76 ≤ (k : Int) + 65) = false := by simp; omega
  have d2 : decide (65 ≤ (k : Int) + 65) = true := by simp; omega
  have d3 : decide ((k : Int) < 9) = true := by simp; omega
  have d4 : 0 ≤ (k : Int) ∧ (k : Int) < ((9 : Nat) : Int) := by omega
  have en1 := enters_b f.enters
  go_enter Try.func6, Try.ntmps6
  go_wp2_with fail
  refine (amoRows_T _).mono ?_
  rintro e w1 ⟨T, rfl, HT, hb⟩
  have hg : (w1.alloc (.cells (Value.agg amoZero).cells 39)).heap[w1.heap.size]? = some (.cells amoZero 39 (0, 0)) := heap_alloc_new _ _
  obtain ⟨w2, hw2⟩ : ∃ w2, w2 = (w1.alloc (.cells (Value.agg amoZero).cells 39)).setRow w1.heap.size amoCells := ⟨_, rfl⟩
  have HR : Hid (w2.heap[w1.heap.size]? = some (.cells amoCells 39 (0, 0))) := by
    show _ = _
    rw [hw2]; exact setRow_heap _ _ _ _ _ _ hg
  have HB : Hid (Below w.heap.size w w2) := by
    show Below _ _ _
    rw [hw2]; exact below_setRow (hb.alloc hb.size _) hb.size _
  have HW2 : Hid (w2 = (w1.alloc (.cells (Value.agg amoZero).cells 39)).setRow w1.heap.size amoCells) := hw2
  clear hw2
  have c0 : w2.cell? ⟨w1.heap.size, k, none⟩ = some (.func (.func f.fn) #[] #[]) := by
    rw [cell_of_row _ _ _ _ _ _ HR.out, amoCells_at k hk, hf.out]
  go_wp2_with (first | refine wpList_allocZ rfl 39 rfl (some 8) rfl _ amoZero_info ?_ | (refine wpList_store_rowTo rfl 39 (.tmp 8) (.tmp 10) rfl rfl w1.heap.size amoCells rfl HT.out 39 amoZero hg (by rw [amoRows_size, amoCells_size]) (by rw [amoZero_size, amoCells_size]) amoCells_one ?_; rw [← HW2.out]))
  have Z0 : 0 ≤ f.v (widen 32 a) (widen 32 b) := f.pos (widen32_bd a).1 (widen32_bd a).2 (widen32_bd b).1 (widen32_bd b).2
  have HL : Hid (∀ (x : Int) (w : World), Calls Try.prog 15 #[.int .u64 x] w fun e w' => e = .returned (.int .u64 (widen 32 x)) ∧ ∃ m, w' = w.drewN m) := fun x w => quiet_same (signedLow_any x w)
  have HF : Hid (∀ w : World, Calls Try.prog f.fn #[.int .u64 (widen 32 a), .int .u64 (widen 32 b)] w fun e w' => e = .returned (.int .u64 (f.v (widen 32 a) (widen 32 b))) ∧ ∃ m, w' = w.drewN m) := MF.calls f _ _ (widen32_bd a).1 (widen32_bd a).2 (widen32_bd b).1 (widen32_bd b).2
  go_quiet (first | with_reducible refine Calls.quiet_of (HL.out _ _) | with_reducible refine Calls.quiet_of (HF.out _))
  go_wp2_with fail
  refine (lowHalf_any _ Z0 _).mono ?_
  rintro e w4 ⟨rfl, hw4⟩
  subst hw4
  go_wp2_with fail
  go_ret2
  exact ⟨rfl, below_dN HB.out _⟩

set_option maxRecDepth 100000 in
set_option maxHeartbeats 1600000 in
theorem implAmo_none (op a b : Int) (hw : (Lit.int .i64 op).wf = true) (h : amoB op = false) (w : World) :
    Calls Try.prog 6 #[.int .i64 op, .int .u64 a, .int .u64 b] w fun e w' => e = .returned (.tuple #[.int .u64 0, .bool false]) ∧ Below w.heap.size w w' := by
  have h2 : ¬ (65 ≤ op ∧ op ≤ 73) ∧ ¬ (76 ≤ op ∧ op ≤ 84) := by simpa [amoB] using h
  have hwf := i64_bd hw
  clear hw h
  by_cases h1 : op < 65
  · have d1 : decide (76 ≤ op) = false := by simp; omega
    have d2 : decide (65 ≤ op) = false := by simp; omega
    clear h1 h2
    go_enter Try.func6, Try.ntmps6
    go_wp2_with fail
    refine (amoRows_T _).mono ?_
    rintro e w1 ⟨T, rfl, HT, hb⟩
    have hg : (w1.alloc (.cells (Value.agg amoZero).cells 39)).heap[w1.heap.size]? = some (.cells amoZero 39 (0, 0)) := heap_alloc_new _ _

    go_wp2_with (first | refine wpList_allocZ rfl 39 rfl (some 8) rfl _ amoZero_info ?_ | (refine wpList_store_rowTo rfl 39 (.tmp 8) (.tmp 10) rfl rfl w1.heap.size amoCells rfl HT.out 39 amoZero hg (by rw [amoRows_size, amoCells_size]) (by rw [amoZero_size, amoCells_size]) amoCells_one ?_))
    go_ret2
    exact ⟨rfl, below_setRow (hb.alloc hb.size _) hb.size _⟩
  · have d0 : decide (65 ≤ op) = true := by simp; omega
    have hk : wrap64 (op - 65) = op - 65 := by unfold wrap64; omega
    have d3 : decide (op - 65 < 9) = false := by simp; omega
    by_cases h3 : op < 76
    · have d1 : decide (76 ≤ op) = false := by simp; omega
      clear h1 h2 h3
      go_enter Try.func6, Try.ntmps6
      go_wp2_with fail
      refine (amoRows_T _).mono ?_
      rintro e w1 ⟨T, rfl, HT, hb⟩
      have hg : (w1.alloc (.cells (Value.agg amoZero).cells 39)).heap[w1.heap.size]? = some (.cells amoZero 39 (0, 0)) := heap_alloc_new _ _

      go_wp2_with (first | refine wpList_allocZ rfl 39 rfl (some 8) rfl _ amoZero_info ?_ | (refine wpList_store_rowTo rfl 39 (.tmp 8) (.tmp 10) rfl rfl w1.heap.size amoCells rfl HT.out 39 amoZero hg (by rw [amoRows_size, amoCells_size]) (by rw [amoZero_size, amoCells_size]) amoCells_one ?_))
      go_ret2
      exact ⟨rfl, below_setRow (hb.alloc hb.size _) hb.size _⟩
    · have d1 : decide (76 ≤ op) = true := by simp; omega
      have hk2 : wrap64 (op - 76) = op - 76 := by unfold wrap64; omega
      have d4 : decide (op - 76 < 9) = false := by simp; omega
      clear h1 h2 h3
      go_enter Try.func6, Try.ntmps6
      go_wp2_with fail
      refine (amoRows_T _).mono ?_
      rintro e w1 ⟨T, rfl, HT, hb⟩
      have hg : (w1.alloc (.cells (Value.agg amoZero).cells 39)).heap[w1.heap.size]? = some (.cells amoZero 39 (0, 0)) := heap_alloc_new _ _

      go_wp2_with (first | refine wpList_allocZ rfl 39 rfl (some 8) rfl _ amoZero_info ?_ | (refine wpList_store_rowTo rfl 39 (.tmp 8) (.tmp 10) rfl rfl w1.heap.size amoCells rfl HT.out 39 amoZero hg (by rw [amoRows_size, amoCells_size]) (by rw [amoZero_size, amoCells_size]) amoCells_one ?_))
      go_ret2
      exact ⟨rfl, below_setRow (hb.alloc hb.size _) hb.size _⟩

theorem implAmo_any (op a b : Int) (hw : (Lit.int .i64 op).wf = true) (a0 : 0 ≤ a) (a1 : a < 18446744073709551616) (b0 : 0 ≤ b) (b1 : b < 18446744073709551616) (w : World) :
    Calls Try.prog 6 #[.int .i64 op, .int .u64 a, .int .u64 b] w fun e w' => e = .returned (.tuple #[.int .u64 (amoV op a b), .bool (amoB op)]) ∧ Below w.heap.size w w' := by
  cases h : amoB op with
  | false => rw [amo_none h]; exact implAmo_none op a b hw h w
  | true =>
    obtain ⟨k, hk, rfl | rfl⟩ := amo_cases h
    · rw [amo_wide hk]; exact implAmo_wide k hk a b a0 a1 b0 b1 _ (rfl : mfAt k = mfAt k) w
    · rw [amo_low hk]; exact implAmo_low k hk a b a0 a1 b0 b1 _ (rfl : mfAt k = mfAt k) w

set_option maxRecDepth 100000 in
set_option maxHeartbeats 1600000 in
theorem specAmo_d0 (a b : Int) (a0 : 0 ≤ a) (a1 : a < 18446744073709551616) (b0 : 0 ≤ b) (b1 : b < 18446744073709551616) (w : World) : Calls Try.prog 7 #[.int .i64 76, .int .u64 a, .int .u64 b] w fun e w' => e = .returned (.tuple #[.int .u64 ((mfAt 0).v a b), .bool true]) ∧ w' = w := by
  have m1 := and_all a0 a1
  have m2 := and_all b0 b1
  have WN : Hid (∀ (x : Int) (w : World), Calls Try.prog 18 #[.int .u64 x, .int .u64 64] w fun e w' => e = .returned (.int .u64 (widen 64 x)) ∧ w' = w) := fun x w => l1Widen_any x 64 (by omega) (by omega) w
  have e1 := widen64_id a0 a1
  have e2 := widen64_id b0 b1
  have F : Hid ((mfAt 0).v a b = b) := rfl
  go_enter Try.func7, Try.ntmps7
  go_wp2_with (first | (go_at_call 17; with_reducible refine (l1In_any _ _ _ _).mono ?_; rintro e w1 ⟨rfl, rfl⟩) | (go_at_call 18; with_reducible refine (WN.out _ _).mono ?_; rintro e w1 ⟨rfl, rfl⟩))
  go_ret2
  exact ⟨by rw [F.out]; rfl, rfl⟩

set_option maxRecDepth 100000 in
set_option maxHeartbeats 1600000 in
theorem specAmo_d1 (a b : Int) (a0 : 0 ≤ a) (a1 : a < 18446744073709551616) (b0 : 0 ≤ b) (b1 : b < 18446744073709551616) (w : World) : Calls Try.prog 7 #[.int .i64 77, .int .u64 a, .int .u64 b] w fun e w' => e = .returned (.tuple #[.int .u64 ((mfAt 1).v a b), .bool true]) ∧ w' = w := by
  have m1 := and_all a0 a1
  have m2 := and_all b0 b1
  have WN : Hid (∀ (x : Int) (w : World), Calls Try.prog 18 #[.int .u64 x, .int .u64 64] w fun e w' => e = .returned (.int .u64 (widen 64 x)) ∧ w' = w) := fun x w => l1Widen_any x 64 (by omega) (by omega) w
  have e1 := widen64_id a0 a1
  have e2 := widen64_id b0 b1
  have F : Hid ((mfAt 1).v a b = IntKind.u64.wrap (a + b)) := rfl
  have s0 : 0 ≤ IntKind.u64.wrap (a + b) ∧ IntKind.u64.wrap (a + b) < 18446744073709551616 := by rw [IntKind.wrap_u64]; omega
  have m3 := and_all s0.1 s0.2
  go_enter Try.func7, Try.ntmps7
  go_wp2_with (first | (go_at_call 17; with_reducible refine (l1In_any _ _ _ _).mono ?_; rintro e w1 ⟨rfl, rfl⟩) | (go_at_call 18; with_reducible refine (WN.out _ _).mono ?_; rintro e w1 ⟨rfl, rfl⟩))
  go_ret2
  exact ⟨by rw [F.out]; rfl, rfl⟩

set_option maxRecDepth 100000 in
set_option maxHeartbeats 1600000 in
theorem specAmo_d2 (a b : Int) (a0 : 0 ≤ a) (a1 : a < 18446744073709551616) (b0 : 0 ≤ b) (b1 : b < 18446744073709551616) (w : World) : Calls Try.prog 7 #[.int .i64 78, .int .u64 a, .int .u64 b] w fun e w' => e = .returned (.tuple #[.int .u64 ((mfAt 2).v a b), .bool true]) ∧ w' = w := by
  have m1 := and_all a0 a1
  have m2 := and_all b0 b1
  have WN : Hid (∀ (x : Int) (w : World), Calls Try.prog 18 #[.int .u64 x, .int .u64 64] w fun e w' => e = .returned (.int .u64 (widen 64 x)) ∧ w' = w) := fun x w => l1Widen_any x 64 (by omega) (by omega) w
  have e1 := widen64_id a0 a1
  have e2 := widen64_id b0 b1
  have F : Hid ((mfAt 2).v a b = bits .xor .u64 a b) := rfl
  go_enter Try.func7, Try.ntmps7
  go_wp2_with (first | (go_at_call 17; with_reducible refine (l1In_any _ _ _ _).mono ?_; rintro e w1 ⟨rfl, rfl⟩) | (go_at_call 18; with_reducible refine (WN.out _ _).mono ?_; rintro e w1 ⟨rfl, rfl⟩))
  go_ret2
  exact ⟨by rw [F.out]; rfl, rfl⟩

set_option maxRecDepth 100000 in
set_option maxHeartbeats 1600000 in
theorem specAmo_d3 (a b : Int) (a0 : 0 ≤ a) (a1 : a < 18446744073709551616) (b0 : 0 ≤ b) (b1 : b < 18446744073709551616) (w : World) : Calls Try.prog 7 #[.int .i64 79, .int .u64 a, .int .u64 b] w fun e w' => e = .returned (.tuple #[.int .u64 ((mfAt 3).v a b), .bool true]) ∧ w' = w := by
  have m1 := and_all a0 a1
  have m2 := and_all b0 b1
  have WN : Hid (∀ (x : Int) (w : World), Calls Try.prog 18 #[.int .u64 x, .int .u64 64] w fun e w' => e = .returned (.int .u64 (widen 64 x)) ∧ w' = w) := fun x w => l1Widen_any x 64 (by omega) (by omega) w
  have e1 := widen64_id a0 a1
  have e2 := widen64_id b0 b1
  have F : Hid ((mfAt 3).v a b = bits .and .u64 a b) := rfl
  go_enter Try.func7, Try.ntmps7
  go_wp2_with (first | (go_at_call 17; with_reducible refine (l1In_any _ _ _ _).mono ?_; rintro e w1 ⟨rfl, rfl⟩) | (go_at_call 18; with_reducible refine (WN.out _ _).mono ?_; rintro e w1 ⟨rfl, rfl⟩))
  go_ret2
  exact ⟨by rw [F.out]; rfl, rfl⟩

set_option maxRecDepth 100000 in
set_option maxHeartbeats 1600000 in
theorem specAmo_d4 (a b : Int) (a0 : 0 ≤ a) (a1 : a < 18446744073709551616) (b0 : 0 ≤ b) (b1 : b < 18446744073709551616) (w : World) : Calls Try.prog 7 #[.int .i64 80, .int .u64 a, .int .u64 b] w fun e w' => e = .returned (.tuple #[.int .u64 ((mfAt 4).v a b), .bool true]) ∧ w' = w := by
  have m1 := and_all a0 a1
  have m2 := and_all b0 b1
  have WN : Hid (∀ (x : Int) (w : World), Calls Try.prog 18 #[.int .u64 x, .int .u64 64] w fun e w' => e = .returned (.int .u64 (widen 64 x)) ∧ w' = w) := fun x w => l1Widen_any x 64 (by omega) (by omega) w
  have e1 := widen64_id a0 a1
  have e2 := widen64_id b0 b1
  have F : Hid ((mfAt 4).v a b = bits .or .u64 a b) := rfl
  go_enter Try.func7, Try.ntmps7
  go_wp2_with (first | (go_at_call 17; with_reducible refine (l1In_any _ _ _ _).mono ?_; rintro e w1 ⟨rfl, rfl⟩) | (go_at_call 18; with_reducible refine (WN.out _ _).mono ?_; rintro e w1 ⟨rfl, rfl⟩))
  go_ret2
  exact ⟨by rw [F.out]; rfl, rfl⟩

set_option maxRecDepth 100000 in
set_option maxHeartbeats 1600000 in
theorem specAmo_d5 (a b : Int) (a0 : 0 ≤ a) (a1 : a < 18446744073709551616) (b0 : 0 ≤ b) (b1 : b < 18446744073709551616) (w : World) : Calls Try.prog 7 #[.int .i64 81, .int .u64 a, .int .u64 b] w fun e w' => e = .returned (.tuple #[.int .u64 ((mfAt 5).v a b), .bool true]) ∧ w' = w := by
  have m1 := and_all a0 a1
  have m2 := and_all b0 b1
  have WN : Hid (∀ (x : Int) (w : World), Calls Try.prog 18 #[.int .u64 x, .int .u64 64] w fun e w' => e = .returned (.int .u64 (widen 64 x)) ∧ w' = w) := fun x w => l1Widen_any x 64 (by omega) (by omega) w
  have e1 := widen64_id a0 a1
  have e2 := widen64_id b0 b1
  have F0 : (mfAt 5).v a b = if wrap64 a < wrap64 b then a else b := smin_eq a0 a1 b0 b1
  by_cases hc : wrap64 a < wrap64 b
  · have F : Hid ((mfAt 5).v a b = a) := by rw [F0, if_pos hc]; rfl
    have d : decide (wrap64 a < wrap64 b) = true := by simpa using hc
    clear F0 hc
    go_enter Try.func7, Try.ntmps7
    go_wp2_with (first | (go_at_call 17; with_reducible refine (l1In_any _ _ _ _).mono ?_; rintro e w1 ⟨rfl, rfl⟩) | (go_at_call 18; with_reducible refine (WN.out _ _).mono ?_; rintro e w1 ⟨rfl, rfl⟩))
    go_ret2
    exact ⟨by rw [F.out]; rfl, rfl⟩
  · have F : Hid ((mfAt 5).v a b = b) := by rw [F0, if_neg hc]; rfl
    have d : decide (wrap64 a < wrap64 b) = false := by simpa using hc
    clear F0 hc
    go_enter Try.func7, Try.ntmps7
    go_wp2_with (first | (go_at_call 17; with_reducible refine (l1In_any _ _ _ _).mono ?_; rintro e w1 ⟨rfl, rfl⟩) | (go_at_call 18; with_reducible refine (WN.out _ _).mono ?_; rintro e w1 ⟨rfl, rfl⟩))
    go_ret2
    exact ⟨by rw [F.out]; rfl, rfl⟩

set_option maxRecDepth 100000 in
set_option maxHeartbeats 1600000 in
theorem specAmo_d6 (a b : Int) (a0 : 0 ≤ a) (a1 : a < 18446744073709551616) (b0 : 0 ≤ b) (b1 : b < 18446744073709551616) (w : World) : Calls Try.prog 7 #[.int .i64 82, .int .u64 a, .int .u64 b] w fun e w' => e = .returned (.tuple #[.int .u64 ((mfAt 6).v a b), .bool true]) ∧ w' = w := by
  have m1 := and_all a0 a1
  have m2 := and_all b0 b1
  have WN : Hid (∀ (x : Int) (w : World), Calls Try.prog 18 #[.int .u64 x, .int .u64 64] w fun e w' => e = .returned (.int .u64 (widen 64 x)) ∧ w' = w) := fun x w => l1Widen_any x 64 (by omega) (by omega) w
  have e1 := widen64_id a0 a1
  have e2 := widen64_id b0 b1
  have F0 : (mfAt 6).v a b = if wrap64 a < wrap64 b then b else a := rfl
  by_cases hc : wrap64 a < wrap64 b
  · have F : Hid ((mfAt 6).v a b = b) := by rw [F0, if_pos hc]; rfl
    have d : decide (wrap64 a < wrap64 b) = true := by simpa using hc
    clear F0 hc
    go_enter Try.func7, Try.ntmps7
    go_wp2_with (first | (go_at_call 17; with_reducible refine (l1In_any _ _ _ _).mono ?_; rintro e w1 ⟨rfl, rfl⟩) | (go_at_call 18; with_reducible refine (WN.out _ _).mono ?_; rintro e w1 ⟨rfl, rfl⟩))
    go_ret2
    exact ⟨by rw [F.out]; rfl, rfl⟩
  · have F : Hid ((mfAt 6).v a b = a) := by rw [F0, if_neg hc]; rfl
    have d : decide (wrap64 a < wrap64 b) = false := by simpa using hc
    clear F0 hc
    go_enter Try.func7, Try.ntmps7
    go_wp2_with (first | (go_at_call 17; with_reducible refine (l1In_any _ _ _ _).mono ?_; rintro e w1 ⟨rfl, rfl⟩) | (go_at_call 18; with_reducible refine (WN.out _ _).mono ?_; rintro e w1 ⟨rfl, rfl⟩))
    go_ret2
    exact ⟨by rw [F.out]; rfl, rfl⟩

set_option maxRecDepth 100000 in
set_option maxHeartbeats 1600000 in
theorem specAmo_d7 (a b : Int) (a0 : 0 ≤ a) (a1 : a < 18446744073709551616) (b0 : 0 ≤ b) (b1 : b < 18446744073709551616) (w : World) : Calls Try.prog 7 #[.int .i64 83, .int .u64 a, .int .u64 b] w fun e w' => e = .returned (.tuple #[.int .u64 ((mfAt 7).v a b), .bool true]) ∧ w' = w := by
  have m1 := and_all a0 a1
  have m2 := and_all b0 b1
  have WN : Hid (∀ (x : Int) (w : World), Calls Try.prog 18 #[.int .u64 x, .int .u64 64] w fun e w' => e = .returned (.int .u64 (widen 64 x)) ∧ w' = w) := fun x w => l1Widen_any x 64 (by omega) (by omega) w
  have e1 := widen64_id a0 a1
  have e2 := widen64_id b0 b1
  have F0 : (mfAt 7).v a b = if a < b then a else b := umin_eq a b
  by_cases hc : a < b
  · have F : Hid ((mfAt 7).v a b = a) := by rw [F0, if_pos hc]; rfl
    have d : decide (a < b) = true := by simpa using hc
    clear F0 hc
    go_enter Try.func7, Try.ntmps7
    go_wp2_with (first | (go_at_call 17; with_reducible refine (l1In_any _ _ _ _).mono ?_; rintro e w1 ⟨rfl, rfl⟩) | (go_at_call 18; with_reducible refine (WN.out _ _).mono ?_; rintro e w1 ⟨rfl, rfl⟩))
    go_ret2
    exact ⟨by rw [F.out]; rfl, rfl⟩
  · have F : Hid ((mfAt 7).v a b = b) := by rw [F0, if_neg hc]; rfl
    have d : decide (a < b) = false := by simpa using hc
    clear F0 hc
    go_enter Try.func7, Try.ntmps7
    go_wp2_with (first | (go_at_call 17; with_reducible refine (l1In_any _ _ _ _).mono ?_; rintro e w1 ⟨rfl, rfl⟩) | (go_at_call 18; with_reducible refine (WN.out _ _).mono ?_; rintro e w1 ⟨rfl, rfl⟩))
    go_ret2
    exact ⟨by rw [F.out]; rfl, rfl⟩

set_option maxRecDepth 100000 in
set_option maxHeartbeats 1600000 in
theorem specAmo_d8 (a b : Int) (a0 : 0 ≤ a) (a1 : a < 18446744073709551616) (b0 : 0 ≤ b) (b1 : b < 18446744073709551616) (w : World) : Calls Try.prog 7 #[.int .i64 84, .int .u64 a, .int .u64 b] w fun e w' => e = .returned (.tuple #[.int .u64 ((mfAt 8).v a b), .bool true]) ∧ w' = w := by
  have m1 := and_all a0 a1
  have m2 := and_all b0 b1
  have WN : Hid (∀ (x : Int) (w : World), Calls Try.prog 18 #[.int .u64 x, .int .u64 64] w fun e w' => e = .returned (.int .u64 (widen 64 x)) ∧ w' = w) := fun x w => l1Widen_any x 64 (by omega) (by omega) w
  have e1 := widen64_id a0 a1
  have e2 := widen64_id b0 b1
  have F0 : (mfAt 8).v a b = if a < b then b else a := rfl
  by_cases hc : a < b
  · have F : Hid ((mfAt 8).v a b = b) := by rw [F0, if_pos hc]; rfl
    have d : decide (a < b) = true := by simpa using hc
    clear F0 hc
    go_enter Try.func7, Try.ntmps7
    go_wp2_with (first | (go_at_call 17; with_reducible refine (l1In_any _ _ _ _).mono ?_; rintro e w1 ⟨rfl, rfl⟩) | (go_at_call 18; with_reducible refine (WN.out _ _).mono ?_; rintro e w1 ⟨rfl, rfl⟩))
    go_ret2
    exact ⟨by rw [F.out]; rfl, rfl⟩
  · have F : Hid ((mfAt 8).v a b = a) := by rw [F0, if_neg hc]; rfl
    have d : decide (a < b) = false := by simpa using hc
    clear F0 hc
    go_enter Try.func7, Try.ntmps7
    go_wp2_with (first | (go_at_call 17; with_reducible refine (l1In_any _ _ _ _).mono ?_; rintro e w1 ⟨rfl, rfl⟩) | (go_at_call 18; with_reducible refine (WN.out _ _).mono ?_; rintro e w1 ⟨rfl, rfl⟩))
    go_ret2
    exact ⟨by rw [F.out]; rfl, rfl⟩

set_option maxRecDepth 100000 in
set_option maxHeartbeats 1600000 in
theorem specAmo_w0 (a b : Int) (a0 : 0 ≤ a) (a1 : a < 18446744073709551616) (b0 : 0 ≤ b) (b1 : b < 18446744073709551616) (w : World) : Calls Try.prog 7 #[.int .i64 65, .int .u64 a, .int .u64 b] w fun e w' => e = .returned (.tuple #[.int .u64 ((mfAt 0).v (widen 32 a) (widen 32 b) % 4294967296), .bool true]) ∧ w' = w := by
  have m1 := mask32 a a0 a1
  have m2 := mask32 b b0 b1
  have WN : Hid (∀ (x : Int) (w : World), Calls Try.prog 18 #[.int .u64 x, .int .u64 32] w fun e w' => e = .returned (.int .u64 (widen 32 x)) ∧ w' = w) := fun x w => l1Widen_any x 32 (by omega) (by omega) w
  have e1 := widen32_of_low a
  have e2 := widen32_of_low b
  have F : Hid ((mfAt 0).v (widen 32 a) (widen 32 b) % 4294967296 = (b % 4294967296)) := low_second a b
  go_enter Try.func7, Try.ntmps7
  go_wp2_with (first | (go_at_call 17; with_reducible refine (l1In_any _ _ _ _).mono ?_; rintro e w1 ⟨rfl, rfl⟩) | (go_at_call 18; with_reducible refine (WN.out _ _).mono ?_; rintro e w1 ⟨rfl, rfl⟩))
  go_ret2
  exact ⟨by rw [F.out]; rfl, rfl⟩

set_option maxRecDepth 100000 in
set_option maxHeartbeats 1600000 in
theorem specAmo_w1 (a b : Int) (a0 : 0 ≤ a) (a1 : a < 18446744073709551616) (b0 : 0 ≤ b) (b1 : b < 18446744073709551616) (w : World) : Calls Try.prog 7 #[.int .i64 66, .int .u64 a, .int .u64 b] w fun e w' => e = .returned (.tuple #[.int .u64 ((mfAt 1).v (widen 32 a) (widen 32 b) % 4294967296), .bool true]) ∧ w' = w := by
  have m1 := mask32 a a0 a1
  have m2 := mask32 b b0 b1
  have WN : Hid (∀ (x : Int) (w : World), Calls Try.prog 18 #[.int .u64 x, .int .u64 32] w fun e w' => e = .returned (.int .u64 (widen 32 x)) ∧ w' = w) := fun x w => l1Widen_any x 32 (by omega) (by omega) w
  have e1 := widen32_of_low a
  have e2 := widen32_of_low b
  have F : Hid ((mfAt 1).v (widen 32 a) (widen 32 b) % 4294967296 = (a + b) % 4294967296) := ((low_sum a b).trans (wrap_mod32 _)).trans (by omega)
  have m3 := mask32 ((a % 4294967296) + (b % 4294967296)) (by omega) (by omega)
  go_enter Try.func7, Try.ntmps7
  go_wp2_with (first | (go_at_call 17; with_reducible refine (l1In_any _ _ _ _).mono ?_; rintro e w1 ⟨rfl, rfl⟩) | (go_at_call 18; with_reducible refine (WN.out _ _).mono ?_; rintro e w1 ⟨rfl, rfl⟩))
  go_ret2
  exact ⟨by rw [F.out]; rfl, rfl⟩

set_option maxRecDepth 100000 in
set_option maxHeartbeats 1600000 in
theorem specAmo_w2 (a b : Int) (a0 : 0 ≤ a) (a1 : a < 18446744073709551616) (b0 : 0 ≤ b) (b1 : b < 18446744073709551616) (w : World) : Calls Try.prog 7 #[.int .i64 67, .int .u64 a, .int .u64 b] w fun e w' => e = .returned (.tuple #[.int .u64 ((mfAt 2).v (widen 32 a) (widen 32 b) % 4294967296), .bool true]) ∧ w' = w := by
  have m1 := mask32 a a0 a1
  have m2 := mask32 b b0 b1
  have WN : Hid (∀ (x : Int) (w : World), Calls Try.prog 18 #[.int .u64 x, .int .u64 32] w fun e w' => e = .returned (.int .u64 (widen 32 x)) ∧ w' = w) := fun x w => l1Widen_any x 32 (by omega) (by omega) w
  have e1 := widen32_of_low a
  have e2 := widen32_of_low b
  have F : Hid ((mfAt 2).v (widen 32 a) (widen 32 b) % 4294967296 = bits .xor .u64 (a % 4294967296) (b % 4294967296)) := low_xorV a b
  go_enter Try.func7, Try.ntmps7
  go_wp2_with (first | (go_at_call 17; with_reducible refine (l1In_any _ _ _ _).mono ?_; rintro e w1 ⟨rfl, rfl⟩) | (go_at_call 18; with_reducible refine (WN.out _ _).mono ?_; rintro e w1 ⟨rfl, rfl⟩))
  go_ret2
  exact ⟨by rw [F.out]; rfl, rfl⟩

set_option maxRecDepth 100000 in
set_option maxHeartbeats 1600000 in
theorem specAmo_w3 (a b : Int) (a0 : 0 ≤ a) (a1 : a < 18446744073709551616) (b0 : 0 ≤ b) (b1 : b < 18446744073709551616) (w : World) : Calls Try.prog 7 #[.int .i64 68, .int .u64 a, .int .u64 b] w fun e w' => e = .returned (.tuple #[.int .u64 ((mfAt 3).v (widen 32 a) (widen 32 b) % 4294967296), .bool true]) ∧ w' = w := by
  have m1 := mask32 a a0 a1
  have m2 := mask32 b b0 b1
  have WN : Hid (∀ (x : Int) (w : World), Calls Try.prog 18 #[.int .u64 x, .int .u64 32] w fun e w' => e = .returned (.int .u64 (widen 32 x)) ∧ w' = w) := fun x w => l1Widen_any x 32 (by omega) (by omega) w
  have e1 := widen32_of_low a
  have e2 := widen32_of_low b
  have F : Hid ((mfAt 3).v (widen 32 a) (widen 32 b) % 4294967296 = bits .and .u64 (a % 4294967296) (b % 4294967296)) := low_andV a b
  go_enter Try.func7, Try.ntmps7
  go_wp2_with (first | (go_at_call 17; with_reducible refine (l1In_any _ _ _ _).mono ?_; rintro e w1 ⟨rfl, rfl⟩) | (go_at_call 18; with_reducible refine (WN.out _ _).mono ?_; rintro e w1 ⟨rfl, rfl⟩))
  go_ret2
  exact ⟨by rw [F.out]; rfl, rfl⟩

set_option maxRecDepth 100000 in
set_option maxHeartbeats 1600000 in
theorem specAmo_w4 (a b : Int) (a0 : 0 ≤ a) (a1 : a < 18446744073709551616) (b0 : 0 ≤ b) (b1 : b < 18446744073709551616) (w : World) : Calls Try.prog 7 #[.int .i64 69, .int .u64 a, .int .u64 b] w fun e w' => e = .returned (.tuple #[.int .u64 ((mfAt 4).v (widen 32 a) (widen 32 b) % 4294967296), .bool true]) ∧ w' = w := by
  have m1 := mask32 a a0 a1
  have m2 := mask32 b b0 b1
  have WN : Hid (∀ (x : Int) (w : World), Calls Try.prog 18 #[.int .u64 x, .int .u64 32] w fun e w' => e = .returned (.int .u64 (widen 32 x)) ∧ w' = w) := fun x w => l1Widen_any x 32 (by omega) (by omega) w
  have e1 := widen32_of_low a
  have e2 := widen32_of_low b
  have F : Hid ((mfAt 4).v (widen 32 a) (widen 32 b) % 4294967296 = bits .or .u64 (a % 4294967296) (b % 4294967296)) := low_orV a b
  go_enter Try.func7, Try.ntmps7
  go_wp2_with (first | (go_at_call 17; with_reducible refine (l1In_any _ _ _ _).mono ?_; rintro e w1 ⟨rfl, rfl⟩) | (go_at_call 18; with_reducible refine (WN.out _ _).mono ?_; rintro e w1 ⟨rfl, rfl⟩))
  go_ret2
  exact ⟨by rw [F.out]; rfl, rfl⟩

set_option maxRecDepth 100000 in
set_option maxHeartbeats 1600000 in
theorem specAmo_w5 (a b : Int) (a0 : 0 ≤ a) (a1 : a < 18446744073709551616) (b0 : 0 ≤ b) (b1 : b < 18446744073709551616) (w : World) : Calls Try.prog 7 #[.int .i64 70, .int .u64 a, .int .u64 b] w fun e w' => e = .returned (.tuple #[.int .u64 ((mfAt 5).v (widen 32 a) (widen 32 b) % 4294967296), .bool true]) ∧ w' = w := by
  have m1 := mask32 a a0 a1
  have m2 := mask32 b b0 b1
  have WN : Hid (∀ (x : Int) (w : World), Calls Try.prog 18 #[.int .u64 x, .int .u64 32] w fun e w' => e = .returned (.int .u64 (widen 32 x)) ∧ w' = w) := fun x w => l1Widen_any x 32 (by omega) (by omega) w
  have e1 := widen32_of_low a
  have e2 := widen32_of_low b
  have F0 : (mfAt 5).v (widen 32 a) (widen 32 b) % 4294967296 = if wrap64 (widen 32 a) < wrap64 (widen 32 b) then (a % 4294967296) else (b % 4294967296) := low_smin a b
  by_cases hc : wrap64 (widen 32 a) < wrap64 (widen 32 b)
  · have F : Hid ((mfAt 5).v (widen 32 a) (widen 32 b) % 4294967296 = (a % 4294967296)) := by rw [F0, if_pos hc]; rfl
    have d : decide (wrap64 (widen 32 a) < wrap64 (widen 32 b)) = true := by simpa using hc
    clear F0 hc
    go_enter Try.func7, Try.ntmps7
    go_wp2_with (first | (go_at_call 17; with_reducible refine (l1In_any _ _ _ _).mono ?_; rintro e w1 ⟨rfl, rfl⟩) | (go_at_call 18; with_reducible refine (WN.out _ _).mono ?_; rintro e w1 ⟨rfl, rfl⟩))
    go_ret2
    exact ⟨by rw [F.out]; rfl, rfl⟩
  · have F : Hid ((mfAt 5).v (widen 32 a) (widen 32 b) % 4294967296 = (b % 4294967296)) := by rw [F0, if_neg hc]; rfl
    have d : decide (wrap64 (widen 32 a) < wrap64 (widen 32 b)) = false := by simpa using hc
    clear F0 hc
    go_enter Try.func7, Try.ntmps7
    go_wp2_with (first | (go_at_call 17; with_reducible refine (l1In_any _ _ _ _).mono ?_; rintro e w1 ⟨rfl, rfl⟩) | (go_at_call 18; with_reducible refine (WN.out _ _).mono ?_; rintro e w1 ⟨rfl, rfl⟩))
    go_ret2
    exact ⟨by rw [F.out]; rfl, rfl⟩

set_option maxRecDepth 100000 in
set_option maxHeartbeats 1600000 in
theorem specAmo_w6 (a b : Int) (a0 : 0 ≤ a) (a1 : a < 18446744073709551616) (b0 : 0 ≤ b) (b1 : b < 18446744073709551616) (w : World) : Calls Try.prog 7 #[.int .i64 71, .int .u64 a, .int .u64 b] w fun e w' => e = .returned (.tuple #[.int .u64 ((mfAt 6).v (widen 32 a) (widen 32 b) % 4294967296), .bool true]) ∧ w' = w := by
  have m1 := mask32 a a0 a1
  have m2 := mask32 b b0 b1
  have WN : Hid (∀ (x : Int) (w : World), Calls Try.prog 18 #[.int .u64 x, .int .u64 32] w fun e w' => e = .returned (.int .u64 (widen 32 x)) ∧ w' = w) := fun x w => l1Widen_any x 32 (by omega) (by omega) w
  have e1 := widen32_of_low a
  have e2 := widen32_of_low b
  have F0 : (mfAt 6).v (widen 32 a) (widen 32 b) % 4294967296 = if wrap64 (widen 32 a) < wrap64 (widen 32 b) then (b % 4294967296) else (a % 4294967296) := low_smax a b
  by_cases hc : wrap64 (widen 32 a) < wrap64 (widen 32 b)
  · have F : Hid ((mfAt 6).v (widen 32 a) (widen 32 b) % 4294967296 = (b % 4294967296)) := by rw [F0, if_pos hc]; rfl
    have d : decide (wrap64 (widen 32 a) < wrap64 (widen 32 b)) = true := by simpa using hc
    clear F0 hc
    go_enter Try.func7, Try.ntmps7
    go_wp2_with (first | (go_at_call 17; with_reducible refine (l1In_any _ _ _ _).mono ?_; rintro e w1 ⟨rfl, rfl⟩) | (go_at_call 18; with_reducible refine (WN.out _ _).mono ?_; rintro e w1 ⟨rfl, rfl⟩))
    go_ret2
    exact ⟨by rw [F.out]; rfl, rfl⟩
  · have F : Hid ((mfAt 6).v (widen 32 a) (widen 32 b) % 4294967296 = (a % 4294967296)) := by rw [F0, if_neg hc]; rfl
    have d : decide (wrap64 (widen 32 a) < wrap64 (widen 32 b)) = false := by simpa using hc
    clear F0 hc
    go_enter Try.func7, Try.ntmps7
    go_wp2_with (first | (go_at_call 17; with_reducible refine (l1In_any _ _ _ _).mono ?_; rintro e w1 ⟨rfl, rfl⟩) | (go_at_call 18; with_reducible refine (WN.out _ _).mono ?_; rintro e w1 ⟨rfl, rfl⟩))
    go_ret2
    exact ⟨by rw [F.out]; rfl, rfl⟩

set_option maxRecDepth 100000 in
set_option maxHeartbeats 1600000 in
theorem specAmo_w7 (a b : Int) (a0 : 0 ≤ a) (a1 : a < 18446744073709551616) (b0 : 0 ≤ b) (b1 : b < 18446744073709551616) (w : World) : Calls Try.prog 7 #[.int .i64 72, .int .u64 a, .int .u64 b] w fun e w' => e = .returned (.tuple #[.int .u64 ((mfAt 7).v (widen 32 a) (widen 32 b) % 4294967296), .bool true]) ∧ w' = w := by
  have m1 := mask32 a a0 a1
  have m2 := mask32 b b0 b1
  have WN : Hid (∀ (x : Int) (w : World), Calls Try.prog 18 #[.int .u64 x, .int .u64 32] w fun e w' => e = .returned (.int .u64 (widen 32 x)) ∧ w' = w) := fun x w => l1Widen_any x 32 (by omega) (by omega) w
  have e1 := widen32_of_low a
  have e2 := widen32_of_low b
  have F0 : (mfAt 7).v (widen 32 a) (widen 32 b) % 4294967296 = if (a % 4294967296) < (b % 4294967296) then (a % 4294967296) else (b % 4294967296) := low_umin a b
  by_cases hc : (a % 4294967296) < (b % 4294967296)
  · have F : Hid ((mfAt 7).v (widen 32 a) (widen 32 b) % 4294967296 = (a % 4294967296)) := by rw [F0, if_pos hc]; rfl
    have d : decide ((a % 4294967296) < (b % 4294967296)) = true := by simpa using hc
    clear F0 hc
    go_enter Try.func7, Try.ntmps7
    go_wp2_with (first | (go_at_call 17; with_reducible refine (l1In_any _ _ _ _).mono ?_; rintro e w1 ⟨rfl, rfl⟩) | (go_at_call 18; with_reducible refine (WN.out _ _).mono ?_; rintro e w1 ⟨rfl, rfl⟩))
    go_ret2
    exact ⟨by rw [F.out]; rfl, rfl⟩
  · have F : Hid ((mfAt 7).v (widen 32 a) (widen 32 b) % 4294967296 = (b % 4294967296)) := by rw [F0, if_neg hc]; rfl
    have d : decide ((a % 4294967296) < (b % 4294967296)) = false := by simpa using hc
    clear F0 hc
    go_enter Try.func7, Try.ntmps7
    go_wp2_with (first | (go_at_call 17; with_reducible refine (l1In_any _ _ _ _).mono ?_; rintro e w1 ⟨rfl, rfl⟩) | (go_at_call 18; with_reducible refine (WN.out _ _).mono ?_; rintro e w1 ⟨rfl, rfl⟩))
    go_ret2
    exact ⟨by rw [F.out]; rfl, rfl⟩

set_option maxRecDepth 100000 in
set_option maxHeartbeats 1600000 in
theorem specAmo_w8 (a b : Int) (a0 : 0 ≤ a) (a1 : a < 18446744073709551616) (b0 : 0 ≤ b) (b1 : b < 18446744073709551616) (w : World) : Calls Try.prog 7 #[.int .i64 73, .int .u64 a, .int .u64 b] w fun e w' => e = .returned (.tuple #[.int .u64 ((mfAt 8).v (widen 32 a) (widen 32 b) % 4294967296), .bool true]) ∧ w' = w := by
  have m1 := mask32 a a0 a1
  have m2 := mask32 b b0 b1
  have WN : Hid (∀ (x : Int) (w : World), Calls Try.prog 18 #[.int .u64 x, .int .u64 32] w fun e w' => e = .returned (.int .u64 (widen 32 x)) ∧ w' = w) := fun x w => l1Widen_any x 32 (by omega) (by omega) w
  have e1 := widen32_of_low a
  have e2 := widen32_of_low b
  have F0 : (mfAt 8).v (widen 32 a) (widen 32 b) % 4294967296 = if (a % 4294967296) < (b % 4294967296) then (b % 4294967296) else (a % 4294967296) := low_umax a b
  by_cases hc : (a % 4294967296) < (b % 4294967296)
  · have F : Hid ((mfAt 8).v (widen 32 a) (widen 32 b) % 4294967296 = (b % 4294967296)) := by rw [F0, if_pos hc]; rfl
    have d : decide ((a % 4294967296) < (b % 4294967296)) = true := by simpa using hc
    clear F0 hc
    go_enter Try.func7, Try.ntmps7
    go_wp2_with (first | (go_at_call 17; with_reducible refine (l1In_any _ _ _ _).mono ?_; rintro e w1 ⟨rfl, rfl⟩) | (go_at_call 18; with_reducible refine (WN.out _ _).mono ?_; rintro e w1 ⟨rfl, rfl⟩))
    go_ret2
    exact ⟨by rw [F.out]; rfl, rfl⟩
  · have F : Hid ((mfAt 8).v (widen 32 a) (widen 32 b) % 4294967296 = (a % 4294967296)) := by rw [F0, if_neg hc]; rfl
    have d : decide ((a % 4294967296) < (b % 4294967296)) = false := by simpa using hc
    clear F0 hc
    go_enter Try.func7, Try.ntmps7
    go_wp2_with (first | (go_at_call 17; with_reducible refine (l1In_any _ _ _ _).mono ?_; rintro e w1 ⟨rfl, rfl⟩) | (go_at_call 18; with_reducible refine (WN.out _ _).mono ?_; rintro e w1 ⟨rfl, rfl⟩))
    go_ret2
    exact ⟨by rw [F.out]; rfl, rfl⟩

theorem specAmo_d (k : Nat) (hk : k < 9) (a b : Int) (a0 : 0 ≤ a) (a1 : a < 18446744073709551616) (b0 : 0 ≤ b) (b1 : b < 18446744073709551616) (w : World) : Calls Try.prog 7 #[.int .i64 ((k : Int) + 76), .int .u64 a, .int .u64 b] w fun e w' => e = .returned (.tuple #[.int .u64 ((mfAt k).v a b), .bool true]) ∧ w' = w := by
  match k, hk with
  | 0, _ => exact specAmo_d0 a b a0 a1 b0 b1 w
  | 1, _ => exact specAmo_d1 a b a0 a1 b0 b1 w
  | 2, _ => exact specAmo_d2 a b a0 a1 b0 b1 w
  | 3, _ => exact specAmo_d3 a b a0 a1 b0 b1 w
  | 4, _ => exact specAmo_d4 a b a0 a1 b0 b1 w
  | 5, _ => exact specAmo_d5 a b a0 a1 b0 b1 w
  | 6, _ => exact specAmo_d6 a b a0 a1 b0 b1 w
  | 7, _ => exact specAmo_d7 a b a0 a1 b0 b1 w
  | 8, _ => exact specAmo_d8 a b a0 a1 b0 b1 w
  | k + 9, h => exact absurd h (by omega)

theorem specAmo_w (k : Nat) (hk : k < 9) (a b : Int) (a0 : 0 ≤ a) (a1 : a < 18446744073709551616) (b0 : 0 ≤ b) (b1 : b < 18446744073709551616) (w : World) : Calls Try.prog 7 #[.int .i64 ((k : Int) + 65), .int .u64 a, .int .u64 b] w fun e w' => e = .returned (.tuple #[.int .u64 ((mfAt k).v (widen 32 a) (widen 32 b) % 4294967296), .bool true]) ∧ w' = w := by
  match k, hk with
  | 0, _ => exact specAmo_w0 a b a0 a1 b0 b1 w
  | 1, _ => exact specAmo_w1 a b a0 a1 b0 b1 w
  | 2, _ => exact specAmo_w2 a b a0 a1 b0 b1 w
  | 3, _ => exact specAmo_w3 a b a0 a1 b0 b1 w
  | 4, _ => exact specAmo_w4 a b a0 a1 b0 b1 w
  | 5, _ => exact specAmo_w5 a b a0 a1 b0 b1 w
  | 6, _ => exact specAmo_w6 a b a0 a1 b0 b1 w
  | 7, _ => exact specAmo_w7 a b a0 a1 b0 b1 w
  | 8, _ => exact specAmo_w8 a b a0 a1 b0 b1 w
  | k + 9, h => exact absurd h (by omega)

theorem specAmo_any (op a b : Int) (a0 : 0 ≤ a) (a1 : a < 18446744073709551616) (b0 : 0 ≤ b) (b1 : b < 18446744073709551616) (w : World) :
    Calls Try.prog 7 #[.int .i64 op, .int .u64 a, .int .u64 b] w fun e w' => e = .returned (.tuple #[.int .u64 (amoV op a b), .bool (amoB op)]) ∧ w' = w := by
  cases h : amoB op with
  | false =>
    rw [amo_none h]
    have h2 : ¬ (65 ≤ op ∧ op ≤ 73) ∧ ¬ (76 ≤ op ∧ op ≤ 84) := by simpa [amoB] using h
    have d1 : decide (76 ≤ op ∧ op ≤ 84) = false := by simpa using h2.2
    have d2 : decide (65 ≤ op ∧ op ≤ 73) = false := by simpa using h2.1
    clear h h2
    go_enter Try.func7, Try.ntmps7
    go_wp2_with (go_at_call 17; with_reducible refine (l1In_any _ _ _ _).mono ?_; rintro e w1 ⟨rfl, rfl⟩)
    go_ret2
    exact ⟨rfl, rfl⟩
  | true =>
    obtain ⟨k, hk, rfl | rfl⟩ := amo_cases h
    · rw [amo_wide hk]; exact specAmo_d k hk a b a0 a1 b0 b1 w
    · rw [amo_low hk]; exact specAmo_w k hk a b a0 a1 b0 b1 w

end Go.Proofs.Ytjkeiedjnefeaab
