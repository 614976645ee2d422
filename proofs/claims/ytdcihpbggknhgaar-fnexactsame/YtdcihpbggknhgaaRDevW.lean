/- The model's DevStore, Lines, Tick, Byte. By tools/genDevW.py. -/
import Derived.Test.YtdcihpbggknhgaaRDevV
import Derived.BigQuiet
namespace Go.Proofs.YtdcihpbggknhgaaR
open Go.RowKit
set_option linter.unusedVariables false

theorem stV_0 (D : DV) (x : Int) : stV D x 0 = (⟨D.t, D.cm, bits .and .u64 x 1 == 1, D.xs, D.ys, D.ir⟩, true) := by rw [stV]

theorem stV_1 (D : DV) (x : Int) : stV D x 1 = (⟨D.t, x, D.so, D.xs, D.ys, D.ir⟩, true) := by rw [stV]

theorem stV_2 (D : DV) (x : Int) : stV D x 2 = (⟨x, D.cm, D.so, D.xs, D.ys, D.ir⟩, true) := by rw [stV]

theorem stV_3r (D : DV) (x : Int) (h : D.ys.length < 4096) : stV D x 3 = (⟨D.t, D.cm, D.so, D.xs, D.ys ++ [IntKind.u8.wrap x], D.ir⟩, true) := by rw [stV, if_pos h]

theorem stV_3f (D : DV) (x : Int) (h : ¬ D.ys.length < 4096) : stV D x 3 = (D, true) := by rw [stV, if_neg h]

theorem stV_4 (D : DV) (x : Int) : stV D x 4 = (⟨D.t, D.cm, D.so, D.xs, D.ys, wrap64 (bits .and .u64 x 1)⟩, true) := by rw [stV]

theorem stV_5 (D : DV) (x : Int) : stV D x 5 = (D, true) := by rw [stV]

theorem stV_6 (D : DV) (x : Int) : stV D x 6 = (zeroD, false) := by
  rw [stV] <;> omega

set_option maxRecDepth 100000 in
set_option maxHeartbeats 1600000 in
theorem l8Lines_any (t cm : Int) (so : Bool) (a1 : Option Addr) (n1 c1 : Nat) (a2 : Option Addr) (n2 c2 : Nat) (ir : Int) (w : World) (hn1 : n1 ≤ 1048576) :
    Calls Try.prog 38 #[.agg #[.int .u64 t, .int .u64 cm, .bool so, .slice a1 n1 c1, .slice a2 n2 c2, .int .i64 ir]] w fun e w' => e = .returned (.int .u64 (IntKind.u64.wrap (IntKind.u64.wrap (IntKind.u64.wrap (8 * oneIf so) + IntKind.u64.wrap (128 * oneIf (decide (cm ≤ t)))) + IntKind.u64.wrap (2048 * oneIf ((ir == 1) && decide (0 < n1)))))) ∧ Below w.heap.size w w' := by
  have HI : Hid (∀ (b : Bool) w, Calls Try.prog 48 #[.bool b] w fun e w' => e = .returned (.int .u64 (oneIf b)) ∧ ∃ m, w' = w.drewN m) := fun b w => (l3If_dev b w).mono fun _ _ h => ⟨h.1, 0, h.2⟩
  have hB : ∀ o m, Below w.heap.size w ((w.alloc o).drewN m) := fun o m => ⟨rfl, rfl, rfl, by simp, fun k hk => Below.heap_alloc w o k hk⟩
  clear hn1
  cases ti : (ir == 1) with
  | true =>
    go_enter Try.func38, Try.ntmps38
    go_wp2_with fail
    go_quiet (first | (go_at_call 48; with_reducible refine Calls.quiet_of (HI.out _ _)))
    go_wp2_with fail
    go_ret
    exact ⟨rfl, hB _ _⟩
  | false =>
    go_enter Try.func38, Try.ntmps38
    go_wp2_with fail
    go_quiet (first | (go_at_call 48; with_reducible refine Calls.quiet_of (HI.out _ _)))
    go_wp2_with fail
    go_ret
    exact ⟨rfl, hB _ _⟩

end Go.Proofs.YtdcihpbggknhgaaR
