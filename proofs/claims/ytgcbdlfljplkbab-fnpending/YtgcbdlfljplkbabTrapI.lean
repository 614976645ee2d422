/- The program's traps: its two sides and their small functions. By tools/genTrapI.py. -/
import Derived.Test.YtgcbdlfljplkbabCsrO
import Derived.Test.YtgcbdlfljplkbabTrapE
import Derived.BigQuiet
namespace Go.Proofs.Ytgcbdlfljplkbab
open Go.RowKit
set_option linter.unusedVariables false

/-- A side's fields: privilege, vector, epc, cause, value, on, wasOn, from, fromN. -/
def sideC : Bool → Array Value
  | true => #[.int .i64 3, .int .i64 4, .int .i64 6, .int .i64 7, .int .i64 8, .int .i64 3, .int .i64 7, .int .i64 11, .int .i64 2]
  | false => #[.int .i64 1, .int .i64 10, .int .i64 12, .int .i64 13, .int .i64 14, .int .i64 1, .int .i64 5, .int .i64 8, .int .i64 1]

theorem side_size : (Try.prog.info? 89).map (·.size) = some 9 := by kernel_rfl

theorem nine_below {w w' : World} {B g : Nat} {c : Nat → Value} (hb : Below B w w') (hg : g < B) (h : ∀ i, i < 9 → w.cell? ⟨g, i, none⟩ = some (c i)) : ∀ i, i < 9 → w'.cell? ⟨g, i, none⟩ = some (c i) :=
  fun i hi => (hb.cell (by exact hg)).trans (h i hi)

theorem machineSide_any (w : World) : Calls Try.prog 55 #[] w fun e w' => e = .returned (.agg (sideC true)) ∧ Below w.heap.size w w' := by
  go_enter Try.func55, Try.ntmps55
  go_wp2_with fail
  exact bodyPost_ret (results_cell_row Try.results55 _ _ _ _ _ _ _ rfl (heap_alloc_new _ _) Try.underlying89 rfl side_size) rfl ⟨rfl, (Below.refl _ _).alloc (Nat.le_refl _) _⟩

theorem supervisorSide_any (w : World) : Calls Try.prog 57 #[] w fun e w' => e = .returned (.agg (sideC false)) ∧ Below w.heap.size w w' := by
  go_enter Try.func57, Try.ntmps57
  go_wp2_with fail
  exact bodyPost_ret (results_cell_row Try.results57 _ _ _ _ _ _ _ rfl (heap_alloc_new _ _) Try.underlying89 rfl side_size) rfl ⟨rfl, (Below.refl _ _).alloc (Nat.le_refl _) _⟩

theorem origin_m (s : Int) (h : U s) (w : World) : Calls Try.prog 63 #[.agg (sideC true), .int .u64 s] w fun e w' => e = .returned (.int .i64 (leaveP s true)) ∧ Below w.heap.size w w' := by
  have HB : Hid (∀ w, Calls Try.prog 90 #[.int .u64 s, .int .i64 11, .int .i64 2] w fun e w' => e = .returned (.int .u64 (fld s 11 2)) ∧ w' = w.drew) := fun w => bitsAt_any s 11 2 h.1 h.2 (by omega) (by omega) w
  rw [leaveP_M s h]
  clear h
  generalize fld s 11 2 = y at *
  unfold sideC
  go_enter Try.func63, Try.ntmps63
  go_wp2_with fail
  refine (HB.out _).mono ?_
  rintro e w1 ⟨rfl, hw1⟩
  subst hw1
  go_wp2_with fail
  go_ret
  exact ⟨rfl, ((Below.refl _ _).alloc (Nat.le_refl _) _).drew⟩

theorem without_m (s : Int) (w : World) : Calls Try.prog 91 #[.agg (sideC true), .int .u64 s] w fun e w' => e = .returned (.int .u64 (bits .andNot .u64 s 6280)) ∧ Below w.heap.size w w' := by
  unfold sideC
  go_enter Try.func91, Try.ntmps91
  go_wp2_with fail
  go_quiet (fail)
  go_wp2_with fail
  go_ret
  exact ⟨rfl, below_dN' ((Below.refl _ _).alloc (Nat.le_refl _) _) _⟩

theorem nine_m {w w' : World} {g : Nat} (hb : Below w.heap.size w w') (h : w.cell? ⟨g, 0, none⟩ = some (.int .i64 3) ∧ w.cell? ⟨g, 1, none⟩ = some (.int .i64 4) ∧ w.cell? ⟨g, 2, none⟩ = some (.int .i64 6) ∧ w.cell? ⟨g, 3, none⟩ = some (.int .i64 7) ∧ w.cell? ⟨g, 4, none⟩ = some (.int .i64 8) ∧ w.cell? ⟨g, 5, none⟩ = some (.int .i64 3) ∧ w.cell? ⟨g, 6, none⟩ = some (.int .i64 7) ∧ w.cell? ⟨g, 7, none⟩ = some (.int .i64 11) ∧ w.cell? ⟨g, 8, none⟩ = some (.int .i64 2)) : w'.cell? ⟨g, 0, none⟩ = some (.int .i64 3) ∧ w'.cell? ⟨g, 1, none⟩ = some (.int .i64 4) ∧ w'.cell? ⟨g, 2, none⟩ = some (.int .i64 6) ∧ w'.cell? ⟨g, 3, none⟩ = some (.int .i64 7) ∧ w'.cell? ⟨g, 4, none⟩ = some (.int .i64 8) ∧ w'.cell? ⟨g, 5, none⟩ = some (.int .i64 3) ∧ w'.cell? ⟨g, 6, none⟩ = some (.int .i64 7) ∧ w'.cell? ⟨g, 7, none⟩ = some (.int .i64 11) ∧ w'.cell? ⟨g, 8, none⟩ = some (.int .i64 2) := by
  obtain ⟨h0, h1, h2, h3, h4, h5, h6, h7, h8⟩ := h
  have hg := World.block_lt_of_cell? _ _ h0
  have k : ∀ i, w'.cell? ⟨g, i, none⟩ = w.cell? ⟨g, i, none⟩ := fun i => hb.cell (by exact hg)
  exact ⟨(k 0).trans h0, (k 1).trans h1, (k 2).trans h2, (k 3).trans h3, (k 4).trans h4, (k 5).trans h5, (k 6).trans h6, (k 7).trans h7, (k 8).trans h8⟩

theorem nineRow_m {w : World} {g : Nat} (h : w.heap[g]? = some (.cells (sideC true) 89 (0, 0))) : w.cell? ⟨g, 0, none⟩ = some (.int .i64 3) ∧ w.cell? ⟨g, 1, none⟩ = some (.int .i64 4) ∧ w.cell? ⟨g, 2, none⟩ = some (.int .i64 6) ∧ w.cell? ⟨g, 3, none⟩ = some (.int .i64 7) ∧ w.cell? ⟨g, 4, none⟩ = some (.int .i64 8) ∧ w.cell? ⟨g, 5, none⟩ = some (.int .i64 3) ∧ w.cell? ⟨g, 6, none⟩ = some (.int .i64 7) ∧ w.cell? ⟨g, 7, none⟩ = some (.int .i64 11) ∧ w.cell? ⟨g, 8, none⟩ = some (.int .i64 2) :=
  ⟨cell_of_row _ _ _ _ _ _ h, cell_of_row _ _ _ _ _ _ h, cell_of_row _ _ _ _ _ _ h, cell_of_row _ _ _ _ _ _ h, cell_of_row _ _ _ _ _ _ h, cell_of_row _ _ _ _ _ _ h, cell_of_row _ _ _ _ _ _ h, cell_of_row _ _ _ _ _ _ h, cell_of_row _ _ _ _ _ _ h⟩

theorem without_mk (s : Int) (w : World) (g : Nat) (hp : w.cell? ⟨g, 0, none⟩ = some (.int .i64 3) ∧ w.cell? ⟨g, 1, none⟩ = some (.int .i64 4) ∧ w.cell? ⟨g, 2, none⟩ = some (.int .i64 6) ∧ w.cell? ⟨g, 3, none⟩ = some (.int .i64 7) ∧ w.cell? ⟨g, 4, none⟩ = some (.int .i64 8) ∧ w.cell? ⟨g, 5, none⟩ = some (.int .i64 3) ∧ w.cell? ⟨g, 6, none⟩ = some (.int .i64 7) ∧ w.cell? ⟨g, 7, none⟩ = some (.int .i64 11) ∧ w.cell? ⟨g, 8, none⟩ = some (.int .i64 2)) : Calls Try.prog 91 #[.agg #[.int .i64 3, .int .i64 4, .int .i64 6, .int .i64 7, .int .i64 8, .int .i64 3, .int .i64 7, .int .i64 11, .int .i64 2], .int .u64 s] w fun e w' => e = .returned (.int .u64 (bits .andNot .u64 s 6280)) ∧ Below w.heap.size w w' ∧ w'.cell? ⟨g, 0, none⟩ = some (.int .i64 3) ∧ w'.cell? ⟨g, 1, none⟩ = some (.int .i64 4) ∧ w'.cell? ⟨g, 2, none⟩ = some (.int .i64 6) ∧ w'.cell? ⟨g, 3, none⟩ = some (.int .i64 7) ∧ w'.cell? ⟨g, 4, none⟩ = some (.int .i64 8) ∧ w'.cell? ⟨g, 5, none⟩ = some (.int .i64 3) ∧ w'.cell? ⟨g, 6, none⟩ = some (.int .i64 7) ∧ w'.cell? ⟨g, 7, none⟩ = some (.int .i64 11) ∧ w'.cell? ⟨g, 8, none⟩ = some (.int .i64 2) :=
  (without_m s w).mono fun e w' h => ⟨h.1, h.2, nine_m h.2 hp⟩

theorem origin_s (s : Int) (h : U s) (w : World) : Calls Try.prog 63 #[.agg (sideC false), .int .u64 s] w fun e w' => e = .returned (.int .i64 (leaveP s false)) ∧ Below w.heap.size w w' := by
  have HB : Hid (∀ w, Calls Try.prog 90 #[.int .u64 s, .int .i64 8, .int .i64 1] w fun e w' => e = .returned (.int .u64 (fld s 8 1)) ∧ w' = w.drew) := fun w => bitsAt_any s 8 1 h.1 h.2 (by omega) (by omega) w
  rw [leaveP_S s h]
  clear h
  generalize fld s 8 1 = y at *
  unfold sideC
  go_enter Try.func63, Try.ntmps63
  go_wp2_with fail
  refine (HB.out _).mono ?_
  rintro e w1 ⟨rfl, hw1⟩
  subst hw1
  go_wp2_with fail
  go_ret
  exact ⟨rfl, ((Below.refl _ _).alloc (Nat.le_refl _) _).drew⟩

theorem without_s (s : Int) (w : World) : Calls Try.prog 91 #[.agg (sideC false), .int .u64 s] w fun e w' => e = .returned (.int .u64 (bits .andNot .u64 s 290)) ∧ Below w.heap.size w w' := by
  unfold sideC
  go_enter Try.func91, Try.ntmps91
  go_wp2_with fail
  go_quiet (fail)
  go_wp2_with fail
  go_ret
  exact ⟨rfl, below_dN' ((Below.refl _ _).alloc (Nat.le_refl _) _) _⟩

theorem nine_s {w w' : World} {g : Nat} (hb : Below w.heap.size w w') (h : w.cell? ⟨g, 0, none⟩ = some (.int .i64 1) ∧ w.cell? ⟨g, 1, none⟩ = some (.int .i64 10) ∧ w.cell? ⟨g, 2, none⟩ = some (.int .i64 12) ∧ w.cell? ⟨g, 3, none⟩ = some (.int .i64 13) ∧ w.cell? ⟨g, 4, none⟩ = some (.int .i64 14) ∧ w.cell? ⟨g, 5, none⟩ = some (.int .i64 1) ∧ w.cell? ⟨g, 6, none⟩ = some (.int .i64 5) ∧ w.cell? ⟨g, 7, none⟩ = some (.int .i64 8) ∧ w.cell? ⟨g, 8, none⟩ = some (.int .i64 1)) : w'.cell? ⟨g, 0, none⟩ = some (.int .i64 1) ∧ w'.cell? ⟨g, 1, none⟩ = some (.int .i64 10) ∧ w'.cell? ⟨g, 2, none⟩ = some (.int .i64 12) ∧ w'.cell? ⟨g, 3, none⟩ = some (.int .i64 13) ∧ w'.cell? ⟨g, 4, none⟩ = some (.int .i64 14) ∧ w'.cell? ⟨g, 5, none⟩ = some (.int .i64 1) ∧ w'.cell? ⟨g, 6, none⟩ = some (.int .i64 5) ∧ w'.cell? ⟨g, 7, none⟩ = some (.int .i64 8) ∧ w'.cell? ⟨g, 8, none⟩ = some (.int .i64 1) := by
  obtain ⟨h0, h1, h2, h3, h4, h5, h6, h7, h8⟩ := h
  have hg := World.block_lt_of_cell? _ _ h0
  have k : ∀ i, w'.cell? ⟨g, i, none⟩ = w.cell? ⟨g, i, none⟩ := fun i => hb.cell (by exact hg)
  exact ⟨(k 0).trans h0, (k 1).trans h1, (k 2).trans h2, (k 3).trans h3, (k 4).trans h4, (k 5).trans h5, (k 6).trans h6, (k 7).trans h7, (k 8).trans h8⟩

theorem nineRow_s {w : World} {g : Nat} (h : w.heap[g]? = some (.cells (sideC false) 89 (0, 0))) : w.cell? ⟨g, 0, none⟩ = some (.int .i64 1) ∧ w.cell? ⟨g, 1, none⟩ = some (.int .i64 10) ∧ w.cell? ⟨g, 2, none⟩ = some (.int .i64 12) ∧ w.cell? ⟨g, 3, none⟩ = some (.int .i64 13) ∧ w.cell? ⟨g, 4, none⟩ = some (.int .i64 14) ∧ w.cell? ⟨g, 5, none⟩ = some (.int .i64 1) ∧ w.cell? ⟨g, 6, none⟩ = some (.int .i64 5) ∧ w.cell? ⟨g, 7, none⟩ = some (.int .i64 8) ∧ w.cell? ⟨g, 8, none⟩ = some (.int .i64 1) :=
  ⟨cell_of_row _ _ _ _ _ _ h, cell_of_row _ _ _ _ _ _ h, cell_of_row _ _ _ _ _ _ h, cell_of_row _ _ _ _ _ _ h, cell_of_row _ _ _ _ _ _ h, cell_of_row _ _ _ _ _ _ h, cell_of_row _ _ _ _ _ _ h, cell_of_row _ _ _ _ _ _ h, cell_of_row _ _ _ _ _ _ h⟩

theorem without_sk (s : Int) (w : World) (g : Nat) (hp : w.cell? ⟨g, 0, none⟩ = some (.int .i64 1) ∧ w.cell? ⟨g, 1, none⟩ = some (.int .i64 10) ∧ w.cell? ⟨g, 2, none⟩ = some (.int .i64 12) ∧ w.cell? ⟨g, 3, none⟩ = some (.int .i64 13) ∧ w.cell? ⟨g, 4, none⟩ = some (.int .i64 14) ∧ w.cell? ⟨g, 5, none⟩ = some (.int .i64 1) ∧ w.cell? ⟨g, 6, none⟩ = some (.int .i64 5) ∧ w.cell? ⟨g, 7, none⟩ = some (.int .i64 8) ∧ w.cell? ⟨g, 8, none⟩ = some (.int .i64 1)) : Calls Try.prog 91 #[.agg #[.int .i64 1, .int .i64 10, .int .i64 12, .int .i64 13, .int .i64 14, .int .i64 1, .int .i64 5, .int .i64 8, .int .i64 1], .int .u64 s] w fun e w' => e = .returned (.int .u64 (bits .andNot .u64 s 290)) ∧ Below w.heap.size w w' ∧ w'.cell? ⟨g, 0, none⟩ = some (.int .i64 1) ∧ w'.cell? ⟨g, 1, none⟩ = some (.int .i64 10) ∧ w'.cell? ⟨g, 2, none⟩ = some (.int .i64 12) ∧ w'.cell? ⟨g, 3, none⟩ = some (.int .i64 13) ∧ w'.cell? ⟨g, 4, none⟩ = some (.int .i64 14) ∧ w'.cell? ⟨g, 5, none⟩ = some (.int .i64 1) ∧ w'.cell? ⟨g, 6, none⟩ = some (.int .i64 5) ∧ w'.cell? ⟨g, 7, none⟩ = some (.int .i64 8) ∧ w'.cell? ⟨g, 8, none⟩ = some (.int .i64 1) :=
  (without_s s w).mono fun e w' h => ⟨h.1, h.2, nine_s h.2 hp⟩

end Go.Proofs.Ytgcbdlfljplkbab
