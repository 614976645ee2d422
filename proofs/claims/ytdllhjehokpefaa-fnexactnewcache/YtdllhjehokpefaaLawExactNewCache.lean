/- The walk of laws.FnExactNewCache: it returns true, and writes nothing that was there. By tools/genLawEC.py. -/
import Derived.Test.YtdllhjehokpefaaSlF
import Derived.Test.YtdllhjehokpefaaSlT
import Derived.Test.YtdllhjehokpefaaSlJ
namespace Go.Proofs.Ytdllhjehokpefaa.fnExactNewCache
open Go.RowKit
set_option linter.unusedVariables false

set_option maxRecDepth 100000 in
set_option maxHeartbeats 6400000 in
theorem walk (w : World) : Calls Try.prog 5 #[] w fun e w' => e = .returned (.bool true) ∧ Below w.heap.size w w' := by
  have HS := dhid specNewCache_any
  have HI := dhid implNewCache_any
  have hR : (List.replicate 16 slt0).length = 16 := by simp
  generalize List.replicate 16 slt0 = R at *
  go_enter Try.func5, Try.ntmps5
  go_wp2_with fail
  refine (HS.out _).mono ?_
  rintro e w0 ⟨gW, rfl, ow0, hb0⟩
  have hx0 : Below w.heap.size w w0 := hb0
  have m0 : w.heap.size ≤ w0.heap.size := hb0.size
  have B0 : Below w.heap.size w w0 := hx0
  have fW0 := Fs.of ow0
  clear ow0
  go_wp2_with fail
  refine (HI.out _).mono ?_
  rintro e w1 ⟨gQ, rfl, ow1, hb1⟩
  have hx1 : Below w0.heap.size w0 w1 := below_trans ((Below.refl _ _).alloc (Nat.le_refl _) _) hb1
  have m1 : w0.heap.size + 1 ≤ w1.heap.size := by have h := hb1.size; rw [World.size_alloc] at h; exact h
  have B1 : Below w.heap.size w w1 := below_trans B0 hx1
  have rW1 : w1.heap[w0.heap.size]? = some (.cells #[.slice (some ⟨gW, 0, none⟩) 16 16] 26 (0, 0)) := dstays hb1 (heap_alloc_new _ _)
  have fW1 := fW0.below hx1
  have fQ1 := Fs.of ow1
  rw [World.size_alloc] at fQ1
  clear ow1
  have cW := fun o => row_at1 (row_al1 rW1 o)
  go_wp2_with fail
  refine (eqCache_same _ _ _ _ _ R _ hR (by omega) (fQ1.below ((Below.refl _ _).alloc (Nat.le_refl _) _)).ss (fW1.below ((Below.refl _ _).alloc (Nat.le_refl _) _)).ss).mono ?_
  rintro e w2 ⟨rfl, hb2⟩
  have hx2 : Below w1.heap.size w1 w2 := below_trans ((Below.refl _ _).alloc (Nat.le_refl _) _) hb2
  have m2 : w1.heap.size + 1 ≤ w2.heap.size := by have h := hb2.size; rw [World.size_alloc] at h; exact h
  have B2 : Below w.heap.size w w2 := below_trans B1 hx2
  have rW2 := dstays hx2 rW1
  have rQ2 : w2.heap[w1.heap.size]? = some (.cells #[.slice (some ⟨gQ, 0, none⟩) 16 16] 26 (0, 0)) := dstays hb2 (heap_alloc_new _ _)
  have fW2 := fW1.below hx2
  have fQ2 := fQ1.below hx2
  clear cW
  have cQ := row_at1 rQ2
  go_wp2_with fail
  refine (markCache_f _ _ _ _ _ 1 R _ (by omega) (by omega) (by omega) fQ2).mono ?_
  rintro e w3 ⟨rfl, fQ3, kp3⟩
  have B3 : Below w.heap.size w w3 := B2.trans (kp3.below (by omega) (by omega))
  have m3 : w2.heap.size ≤ w3.heap.size := kp3.size
  have rW3 := (kp3.block _ (Array.getElem?_eq_some_iff.1 rW2).1 (by omega)).trans rW2
  have rQ3 := (kp3.block _ (Array.getElem?_eq_some_iff.1 rQ2).1 (by omega)).trans rQ2
  have fW3 := fW2.keep kp3 (by omega)
  clear cQ
  have cQ := row_at1 rQ3
  go_wp2_with fail
  refine (heldCache_any _ _ _ 1 _ (by omega) (by omega) (by omega) fQ3.ss).mono ?_
  rintro e w4 ⟨rfl, hb4⟩
  have hx4 : Below w3.heap.size w3 w4 := hb4
  have m4 : w3.heap.size ≤ w4.heap.size := hb4.size
  have B4 : Below w.heap.size w w4 := below_trans B3 hx4
  have rW4 := dstays hx4 rW3
  have rQ4 := dstays hx4 rQ3
  have fW4 := fW3.below hx4
  have fQ4 := fQ3.below hx4
  clear cQ
  go_wp2_with fail
  refine (HI.out _).mono ?_
  rintro e w5 ⟨gK, rfl, ow5, hb5⟩
  have hx5 : Below w4.heap.size w4 w5 := hb5
  have m5 : w4.heap.size ≤ w5.heap.size := hb5.size
  have B5 : Below w.heap.size w w5 := below_trans B4 hx5
  have rW5 := dstays hx5 rW4
  have rQ5 := dstays hx5 rQ4
  have fW5 := fW4.below hx5
  have fQ5 := fQ4.below hx5
  have fK5 := Fs.of ow5
  clear ow5
  have cW := fun o => row_at1 (row_al1 rW5 o)
  go_wp2_with fail
  refine (eqCache_same _ _ _ _ _ R _ hR (by omega) (fK5.below ((Below.refl _ _).alloc (Nat.le_refl _) _)).ss (fW5.below ((Below.refl _ _).alloc (Nat.le_refl _) _)).ss).mono ?_
  rintro e w6 ⟨rfl, hb6⟩
  have hx6 : Below w5.heap.size w5 w6 := below_trans ((Below.refl _ _).alloc (Nat.le_refl _) _) hb6
  have m6 : w5.heap.size + 1 ≤ w6.heap.size := by have h := hb6.size; rw [World.size_alloc] at h; exact h
  have B6 : Below w.heap.size w w6 := below_trans B5 hx6
  have rW6 := dstays hx6 rW5
  have rQ6 := dstays hx6 rQ5
  have rK6 : w6.heap[w5.heap.size]? = some (.cells #[.slice (some ⟨gK, 0, none⟩) 16 16] 26 (0, 0)) := dstays hb6 (heap_alloc_new _ _)
  have fW6 := fW5.below hx6
  have fQ6 := fQ5.below hx6
  have fK6 := fK5.below hx6
  clear cW
  have cQ := row_at1 rQ6
  go_wp2_with fail
  refine (heldCache_any _ _ _ 1 _ (by omega) (by omega) (by omega) fQ6.ss).mono ?_
  rintro e w7 ⟨rfl, hb7⟩
  have hx7 : Below w6.heap.size w6 w7 := hb7
  have m7 : w6.heap.size ≤ w7.heap.size := hb7.size
  have B7 : Below w.heap.size w w7 := below_trans B6 hx7
  have rW7 := dstays hx7 rW6
  have rQ7 := dstays hx7 rQ6
  have rK7 := dstays hx7 rK6
  have fQ7 := fQ6.below hx7
  clear cQ
  go_wp2_with fail
  go_ret
  exact ⟨rfl, B7⟩

end Go.Proofs.Ytdllhjehokpefaa.fnExactNewCache
