/- The program's Leave. By tools/genLeave.py. -/
import Derived.Test.YtgcbdlfljplkbabOutP
import Derived.Test.YtgcbdlfljplkbabTrapJ
namespace Go.Proofs.Ytgcbdlfljplkbab
open Go.RowKit
set_option linter.unusedVariables false

theorem side_one (c : Bool) : (sideC c).all (·.oneCell') = true := by cases c <;> simp [sideC, Value.oneCell']

theorem side_cells (c : Bool) : (sideC c).size = 9 := by cases c <;> rfl

/-- What is wanted of the world while the side's struct, the argument and our own registers lie there. -/
theorem key_m (g b off : Nat) (l : List Int) (h : Nat) (hz : l.length = 22) (w : World) (p : TP g true b off l h w) : ∃ (P : World → Prop), P w ∧ (∀ w w', P w → Below w.heap.size w w' → P w') ∧ (∀ w, P w → P w.drew) ∧
    ((∀ w, P w → w.cell? ⟨g, 0, none⟩ = some (.int .i64 3)) ∧ (∀ w, P w → w.cell? ⟨g, 1, none⟩ = some (.int .i64 4)) ∧ (∀ w, P w → w.cell? ⟨g, 2, none⟩ = some (.int .i64 6)) ∧ (∀ w, P w → w.cell? ⟨g, 3, none⟩ = some (.int .i64 7)) ∧ (∀ w, P w → w.cell? ⟨g, 4, none⟩ = some (.int .i64 8)) ∧ (∀ w, P w → w.cell? ⟨g, 5, none⟩ = some (.int .i64 3)) ∧ (∀ w, P w → w.cell? ⟨g, 6, none⟩ = some (.int .i64 7)) ∧ (∀ w, P w → w.cell? ⟨g, 7, none⟩ = some (.int .i64 11)) ∧ (∀ w, P w → w.cell? ⟨g, 8, none⟩ = some (.int .i64 2))) ∧ (∀ w k, k < 22 → P w → w.cell? ⟨b, off + k, none⟩ = some (.int .u64 (l.getD k 0))) ∧ (∀ w k, P w → w.frozen? ⟨h, k, none⟩ = false) ∧
    (∀ k, k < 22 → ∃ vf : World → Value, ∀ w, P w → w.cell? ⟨h, k, none⟩ = some (vf w)) ∧ (∀ w k x, P w → P (w.setCell ⟨h, k, none⟩ (.int .u64 x))) ∧
    (∀ w w' vs, P w → Own w' h h 22 vs → w.grownBy w' (some h) → P w') :=
  ⟨TP g true b off l h, p, fun _ _ q hb => q.below hb, fun _ q => q.drew, ⟨fun _ q => q.side 0, fun _ q => q.side 1, fun _ q => q.side 2, fun _ q => q.side 3, fun _ q => q.side 4, fun _ q => q.side 5, fun _ q => q.side 6, fun _ q => q.side 7, fun _ q => q.side 8⟩, fun _ k hk q => q.arg k (by omega), fun _ k q => q.froz k, fun k hk => TP.outs g true b off l h k hk, fun _ k x q => q.set k x, fun _ _ vs q o gr => q.grown vs o gr⟩

/-- What is wanted of the world while the side's struct, the argument and our own registers lie there. -/
theorem key_s (g b off : Nat) (l : List Int) (h : Nat) (hz : l.length = 22) (w : World) (p : TP g false b off l h w) : ∃ (P : World → Prop), P w ∧ (∀ w w', P w → Below w.heap.size w w' → P w') ∧ (∀ w, P w → P w.drew) ∧
    ((∀ w, P w → w.cell? ⟨g, 0, none⟩ = some (.int .i64 1)) ∧ (∀ w, P w → w.cell? ⟨g, 1, none⟩ = some (.int .i64 10)) ∧ (∀ w, P w → w.cell? ⟨g, 2, none⟩ = some (.int .i64 12)) ∧ (∀ w, P w → w.cell? ⟨g, 3, none⟩ = some (.int .i64 13)) ∧ (∀ w, P w → w.cell? ⟨g, 4, none⟩ = some (.int .i64 14)) ∧ (∀ w, P w → w.cell? ⟨g, 5, none⟩ = some (.int .i64 1)) ∧ (∀ w, P w → w.cell? ⟨g, 6, none⟩ = some (.int .i64 5)) ∧ (∀ w, P w → w.cell? ⟨g, 7, none⟩ = some (.int .i64 8)) ∧ (∀ w, P w → w.cell? ⟨g, 8, none⟩ = some (.int .i64 1))) ∧ (∀ w k, k < 22 → P w → w.cell? ⟨b, off + k, none⟩ = some (.int .u64 (l.getD k 0))) ∧ (∀ w k, P w → w.frozen? ⟨h, k, none⟩ = false) ∧
    (∀ k, k < 22 → ∃ vf : World → Value, ∀ w, P w → w.cell? ⟨h, k, none⟩ = some (vf w)) ∧ (∀ w k x, P w → P (w.setCell ⟨h, k, none⟩ (.int .u64 x))) ∧
    (∀ w w' vs, P w → Own w' h h 22 vs → w.grownBy w' (some h) → P w') :=
  ⟨TP g false b off l h, p, fun _ _ q hb => q.below hb, fun _ q => q.drew, ⟨fun _ q => q.side 0, fun _ q => q.side 1, fun _ q => q.side 2, fun _ q => q.side 3, fun _ q => q.side 4, fun _ q => q.side 5, fun _ q => q.side 6, fun _ q => q.side 7, fun _ q => q.side 8⟩, fun _ k hk q => q.arg k (by omega), fun _ k q => q.froz k, fun k hk => TP.outs g false b off l h k hk, fun _ k x q => q.set k x, fun _ _ vs q o gr => q.grown vs o gr⟩

set_option maxHeartbeats 1600000 in
theorem leave_m0 (a : Option Addr) (n cap : Nat) (l : List Int) (p : Int) (w : World) (hz : l.length = n) (hs : Sl .u64 w a l) (hl : ∀ j, U (l.getD j 0)) (hok : legalB n l p = false) :
    Calls Try.prog 24 #[.slice a n cap, .int .i64 p, .bool true] w fun e w' => ∃ (a' : Option Addr) (c : Nat),
      e = .returned (.tuple #[.slice a' (leavL n l p true).length c, .int .i64 (leavP n l p true), .int .u64 (leavA n l p true), .bool (leavB n l p true)]) ∧
      w'.ownsRow w.heap.size 24 1 (.slice a' (leavL n l p true).length c) (leavL n l p true).length ((leavL n l p true).map (Value.int .u64)) ∧ Below w.heap.size w w' := by
  have B0 : leavB n l p true = false := by simp [leavB, hok]
  have F : Hid (leavL n l p true = [] ∧ leavP n l p true = 0 ∧ leavA n l p true = 0 ∧ leavB n l p true = false) := ⟨by simp [leavL, B0], by simp [leavP, B0], by simp [leavA, B0], B0⟩
  have SS : Hid (∀ w, Calls Try.prog 57 #[] w fun e w' => e = .returned (.agg #[.int .i64 1, .int .i64 10, .int .i64 12, .int .i64 13, .int .i64 14, .int .i64 1, .int .i64 5, .int .i64 8, .int .i64 1]) ∧ Below w.heap.size w w') := supervisorSide_any
  have SM : Hid (∀ w, Calls Try.prog 55 #[] w fun e w' => e = .returned (.agg (sideC true)) ∧ Below w.heap.size w w') := machineSide_any
  have HSl : Hid (Sl .u64 w a l) := hs
  have HL : Hid (∀ w, Sl .u64 w a l → Calls Try.prog 54 #[.slice a n cap, .int .i64 p] w fun e w' => e = .returned (.bool false) ∧ Below w.heap.size w w') := by
    intro w hs
    have := implLegal_any a n cap l p w hz hs hl
    rw [hok] at this
    exact this
  clear hs hz hl hok B0
  go_enter Try.func24, Try.ntmps24
  go_wp2_with fail
  refine (SS.out _).mono ?_
  rintro e w1 ⟨rfl, hb1⟩
  have R2 : (w1.alloc (.cells #[.int .i64 1, .int .i64 10, .int .i64 12, .int .i64 13, .int .i64 14, .int .i64 1, .int .i64 5, .int .i64 8, .int .i64 1] 89)).heap[w1.heap.size]? = some (.cells (sideC false) 89 (0, 0)) := heap_alloc_new _ _
  have B2 : Below w.heap.size w (w1.alloc (.cells #[.int .i64 1, .int .i64 10, .int .i64 12, .int .i64 13, .int .i64 14, .int .i64 1, .int .i64 5, .int .i64 8, .int .i64 1] 89)) := hb1.alloc hb1.size _
  have G2 : w1.heap.size < (w1.alloc (.cells #[.int .i64 1, .int .i64 10, .int .i64 12, .int .i64 13, .int .i64 14, .int .i64 1, .int .i64 5, .int .i64 8, .int .i64 1] 89)).heap.size := by simp
  have G0 : w.heap.size ≤ w1.heap.size := hb1.size
  go_wp2_with fail
  generalize w1.alloc (.cells #[.int .i64 1, .int .i64 10, .int .i64 12, .int .i64 13, .int .i64 14, .int .i64 1, .int .i64 5, .int .i64 8, .int .i64 1] 89) = w2 at *
  generalize w1.heap.size = g at *
  clear hb1
  refine (SM.out _).mono ?_
  rintro e w3 ⟨rfl, hb3⟩
  have R3 : w3.heap[g]? = some (.cells (sideC false) 89 (0, 0)) := (hb3.block g G2).trans R2
  have R4 : (w3.setRow g (sideC true)).heap[g]? = some (.cells (sideC true) 89 (0, 0)) := setRow_heap _ _ _ _ _ _ R3
  have B4 : Below w.heap.size w (w3.setRow g (sideC true)) := below_setRow (below_trans B2 hb3) G0 _
  have G4 : g < (w3.setRow g (sideC true)).heap.size := by rw [setRow_size]; exact Nat.lt_of_lt_of_le G2 hb3.size
  clear R2 B2 G2 hb3
  go_wp2_with (refine wpList_store_rowTo rfl 89 (.tmp 10) (.tmp 15) rfl rfl g (sideC true) rfl rfl 89 (sideC false) R3 (by rw [side_size, side_cells]) (by rw [side_cells, side_cells]) (side_one true) ?_)
  generalize w3.setRow g (sideC true) = w4 at *
  clear R3
  refine (HL.out w4 (HSl.out.below B4)).mono ?_
  rintro e w5 ⟨rfl, hb5⟩
  have R5 := (hb5.block g G4).trans R4
  have n0 : w5.cell? ⟨g, 0, none⟩ = some (.int .i64 3) := cell_of_row _ _ _ _ _ _ R5
  have B5 := below_trans B4 hb5
  have G5 : g < w5.heap.size := Nat.lt_of_lt_of_le G4 hb5.size
  clear hb5 R4 B4 G4
  go_wp2_with fail
  refine bodyPost_ret (results_t4 Try.results24 _ _ _) rfl ?_
  rw [F.out.1, F.out.2.1, F.out.2.2.1, F.out.2.2.2]
  exact ⟨none, 0, rfl, own_nilW _ _, B5⟩

set_option maxHeartbeats 1600000 in
theorem leave_m1 (a : Option Addr) (n cap : Nat) (l : List Int) (p : Int) (w : World) (hz : l.length = n) (hs : Sl .u64 w a l) (hl : ∀ j, U (l.getD j 0)) (hok : legalB n l p = true) (d : decide (p < 3) = true) :
    Calls Try.prog 24 #[.slice a n cap, .int .i64 p, .bool true] w fun e w' => ∃ (a' : Option Addr) (c : Nat),
      e = .returned (.tuple #[.slice a' (leavL n l p true).length c, .int .i64 (leavP n l p true), .int .u64 (leavA n l p true), .bool (leavB n l p true)]) ∧
      w'.ownsRow w.heap.size 24 1 (.slice a' (leavL n l p true).length c) (leavL n l p true).length ((leavL n l p true).map (Value.int .u64)) ∧ Below w.heap.size w w' := by
  have B0 : leavB n l p true = false := by
    have hp := (legalB_parts hok).2
    have hp3 : p = 0 ∨ p = 1 ∨ p = 3 := by simpa [privB, or_assoc] using hp
    unfold leavB
    rw [hok]
    rcases hp3 with rfl | rfl | rfl
    · rfl
    · first | rfl | cases d
    · cases d
  have F : Hid (leavL n l p true = [] ∧ leavP n l p true = 0 ∧ leavA n l p true = 0 ∧ leavB n l p true = false) := ⟨by simp [leavL, B0], by simp [leavP, B0], by simp [leavA, B0], B0⟩
  have SS : Hid (∀ w, Calls Try.prog 57 #[] w fun e w' => e = .returned (.agg #[.int .i64 1, .int .i64 10, .int .i64 12, .int .i64 13, .int .i64 14, .int .i64 1, .int .i64 5, .int .i64 8, .int .i64 1]) ∧ Below w.heap.size w w') := supervisorSide_any
  have SM : Hid (∀ w, Calls Try.prog 55 #[] w fun e w' => e = .returned (.agg (sideC true)) ∧ Below w.heap.size w w') := machineSide_any
  have HSl : Hid (Sl .u64 w a l) := hs
  have HL : Hid (∀ w, Sl .u64 w a l → Calls Try.prog 54 #[.slice a n cap, .int .i64 p] w fun e w' => e = .returned (.bool true) ∧ Below w.heap.size w w') := by
    intro w hs
    have := implLegal_any a n cap l p w hz hs hl
    rw [hok] at this
    exact this
  clear hs hz hl hok B0
  go_enter Try.func24, Try.ntmps24
  go_wp2_with fail
  refine (SS.out _).mono ?_
  rintro e w1 ⟨rfl, hb1⟩
  have R2 : (w1.alloc (.cells #[.int .i64 1, .int .i64 10, .int .i64 12, .int .i64 13, .int .i64 14, .int .i64 1, .int .i64 5, .int .i64 8, .int .i64 1] 89)).heap[w1.heap.size]? = some (.cells (sideC false) 89 (0, 0)) := heap_alloc_new _ _
  have B2 : Below w.heap.size w (w1.alloc (.cells #[.int .i64 1, .int .i64 10, .int .i64 12, .int .i64 13, .int .i64 14, .int .i64 1, .int .i64 5, .int .i64 8, .int .i64 1] 89)) := hb1.alloc hb1.size _
  have G2 : w1.heap.size < (w1.alloc (.cells #[.int .i64 1, .int .i64 10, .int .i64 12, .int .i64 13, .int .i64 14, .int .i64 1, .int .i64 5, .int .i64 8, .int .i64 1] 89)).heap.size := by simp
  have G0 : w.heap.size ≤ w1.heap.size := hb1.size
  go_wp2_with fail
  generalize w1.alloc (.cells #[.int .i64 1, .int .i64 10, .int .i64 12, .int .i64 13, .int .i64 14, .int .i64 1, .int .i64 5, .int .i64 8, .int .i64 1] 89) = w2 at *
  generalize w1.heap.size = g at *
  clear hb1
  refine (SM.out _).mono ?_
  rintro e w3 ⟨rfl, hb3⟩
  have R3 : w3.heap[g]? = some (.cells (sideC false) 89 (0, 0)) := (hb3.block g G2).trans R2
  have R4 : (w3.setRow g (sideC true)).heap[g]? = some (.cells (sideC true) 89 (0, 0)) := setRow_heap _ _ _ _ _ _ R3
  have B4 : Below w.heap.size w (w3.setRow g (sideC true)) := below_setRow (below_trans B2 hb3) G0 _
  have G4 : g < (w3.setRow g (sideC true)).heap.size := by rw [setRow_size]; exact Nat.lt_of_lt_of_le G2 hb3.size
  clear R2 B2 G2 hb3
  go_wp2_with (refine wpList_store_rowTo rfl 89 (.tmp 10) (.tmp 15) rfl rfl g (sideC true) rfl rfl 89 (sideC false) R3 (by rw [side_size, side_cells]) (by rw [side_cells, side_cells]) (side_one true) ?_)
  generalize w3.setRow g (sideC true) = w4 at *
  clear R3
  refine (HL.out w4 (HSl.out.below B4)).mono ?_
  rintro e w5 ⟨rfl, hb5⟩
  have R5 := (hb5.block g G4).trans R4
  have n0 : w5.cell? ⟨g, 0, none⟩ = some (.int .i64 3) := cell_of_row _ _ _ _ _ _ R5
  have B5 := below_trans B4 hb5
  have G5 : g < w5.heap.size := Nat.lt_of_lt_of_le G4 hb5.size
  clear hb5 R4 B4 G4
  go_wp2_with fail
  refine bodyPost_ret (results_t4 Try.results24 _ _ _) rfl ?_
  rw [F.out.1, F.out.2.1, F.out.2.2.1, F.out.2.2.2]
  exact ⟨none, 0, rfl, own_nilW _ _, B5⟩

set_option maxRecDepth 100000 in
set_option maxHeartbeats 3200000 in
theorem leave_m2 (b off cap : Nat) (l : List Int) (p : Int) (w : World) (hz : l.length = 22) (hs : Sl .u64 w (some ⟨b, off, none⟩) l) (hl : ∀ j, U (l.getD j 0)) (hok : legalB 22 l p = true) (d : decide (p < 3) = false) :
    Calls Try.prog 24 #[.slice (some ⟨b, off, none⟩) 22 cap, .int .i64 p, .bool true] w fun e w' => ∃ (a' : Option Addr) (c : Nat),
      e = .returned (.tuple #[.slice a' (leavL 22 l p true).length c, .int .i64 (leavP 22 l p true), .int .u64 (leavA 22 l p true), .bool (leavB 22 l p true)]) ∧
      w'.ownsRow w.heap.size 24 1 (.slice a' (leavL 22 l p true).length c) (leavL 22 l p true).length ((leavL 22 l p true).map (Value.int .u64)) ∧ Below w.heap.size w w' := by
  have B0 : leavB 22 l p true = true := by
    have hp := (legalB_parts hok).2
    have hp3 : p = 0 ∨ p = 1 ∨ p = 3 := by simpa [privB, or_assoc] using hp
    unfold leavB
    rw [hok]
    rcases hp3 with rfl | rfl | rfl
    · cases d
    · first | rfl | cases d
    · rfl
  have F : Hid (leavL 22 l p true = l.set 0 (leaveS (l.getD 0 0) true) ∧ leavP 22 l p true = leaveP (l.getD 0 0) true ∧ leavA 22 l p true = l.getD 6 0 ∧ leavB 22 l p true = true ∧ (l.set 0 (leaveS (l.getD 0 0) true)).length = 22) :=
    ⟨by simp [leavL, B0], by simp [leavP, B0], by simp only [leavA, B0]; rfl, B0, by simp [hz]⟩
  obtain ⟨hb, -⟩ := sl_at hs 0 (by omega)
  have SS : Hid (∀ w, Calls Try.prog 57 #[] w fun e w' => e = .returned (.agg #[.int .i64 1, .int .i64 10, .int .i64 12, .int .i64 13, .int .i64 14, .int .i64 1, .int .i64 5, .int .i64 8, .int .i64 1]) ∧ Below w.heap.size w w') := supervisorSide_any
  have SM : Hid (∀ w, Calls Try.prog 55 #[] w fun e w' => e = .returned (.agg (sideC true)) ∧ Below w.heap.size w w') := machineSide_any
  have HSl : Hid (Sl .u64 w (some ⟨b, off, none⟩) l) := hs
  have HL : Hid (∀ w, Sl .u64 w (some ⟨b, off, none⟩) l → Calls Try.prog 54 #[.slice (some ⟨b, off, none⟩) 22 cap, .int .i64 p] w fun e w' => e = .returned (.bool true) ∧ Below w.heap.size w w') := by
    intro w hs
    have := implLegal_any (some ⟨b, off, none⟩) 22 cap l p w hz hs hl
    rw [hok] at this
    exact this
  obtain ⟨i0, hi, hz0, hz1, hz2⟩ := info_parts infoW
  have hsz5 : (Try.prog.info? 24).map (·.size) = some 1 := by rw [hi]; simp [hz1]
  have hb2 : i0.bytes * 22 ≤ 281474976710656 := by rw [hz2]; omega
  have hb3 : 22 ≤ maxLen := by unfold maxLen; omega
  have HZ : Hid (l.length = 22) := hz
  have HU : Hid (∀ j, U (l.getD j 0)) := hl
  clear hz2 hs hz hl hok B0
  go_enter Try.func24, Try.ntmps24
  go_wp2_with fail
  refine (SS.out _).mono ?_
  rintro e w1 ⟨rfl, hb1⟩
  have R2 : (w1.alloc (.cells #[.int .i64 1, .int .i64 10, .int .i64 12, .int .i64 13, .int .i64 14, .int .i64 1, .int .i64 5, .int .i64 8, .int .i64 1] 89)).heap[w1.heap.size]? = some (.cells (sideC false) 89 (0, 0)) := heap_alloc_new _ _
  have B2 : Below w.heap.size w (w1.alloc (.cells #[.int .i64 1, .int .i64 10, .int .i64 12, .int .i64 13, .int .i64 14, .int .i64 1, .int .i64 5, .int .i64 8, .int .i64 1] 89)) := hb1.alloc hb1.size _
  have G2 : w1.heap.size < (w1.alloc (.cells #[.int .i64 1, .int .i64 10, .int .i64 12, .int .i64 13, .int .i64 14, .int .i64 1, .int .i64 5, .int .i64 8, .int .i64 1] 89)).heap.size := by simp
  have G0 : w.heap.size ≤ w1.heap.size := hb1.size
  go_wp2_with fail
  generalize w1.alloc (.cells #[.int .i64 1, .int .i64 10, .int .i64 12, .int .i64 13, .int .i64 14, .int .i64 1, .int .i64 5, .int .i64 8, .int .i64 1] 89) = w2 at *
  generalize w1.heap.size = g at *
  clear hb1
  refine (SM.out _).mono ?_
  rintro e w3 ⟨rfl, hb3⟩
  have R3 : w3.heap[g]? = some (.cells (sideC false) 89 (0, 0)) := (hb3.block g G2).trans R2
  have R4 : (w3.setRow g (sideC true)).heap[g]? = some (.cells (sideC true) 89 (0, 0)) := setRow_heap _ _ _ _ _ _ R3
  have B4 : Below w.heap.size w (w3.setRow g (sideC true)) := below_setRow (below_trans B2 hb3) G0 _
  have G4 : g < (w3.setRow g (sideC true)).heap.size := by rw [setRow_size]; exact Nat.lt_of_lt_of_le G2 hb3.size
  clear R2 B2 G2 hb3
  go_wp2_with (refine wpList_store_rowTo rfl 89 (.tmp 10) (.tmp 15) rfl rfl g (sideC true) rfl rfl 89 (sideC false) R3 (by rw [side_size, side_cells]) (by rw [side_cells, side_cells]) (side_one true) ?_)
  generalize w3.setRow g (sideC true) = w4 at *
  clear R3
  refine (HL.out w4 (HSl.out.below B4)).mono ?_
  rintro e w5 ⟨rfl, hb5⟩
  have R5 := (hb5.block g G4).trans R4
  have n0 : w5.cell? ⟨g, 0, none⟩ = some (.int .i64 3) := cell_of_row _ _ _ _ _ _ R5
  have B5 := below_trans B4 hb5
  have G5 : g < w5.heap.size := Nat.lt_of_lt_of_le G4 hb5.size
  clear hb5 R4 B4 G4
  have HS5 : Hid (Sl .u64 w5 (some ⟨b, off, none⟩) l) := HSl.out.below B5
  have HB5 : Hid (b < w5.heap.size) := Nat.lt_of_lt_of_le hb B5.size
  go_wp2_with (first | (at_make; refine wpList_make_full _ rfl (.const (.int .i64 22)) (.const (.int .i64 22)) 30 rfl w5.heap.size 24 i0 (.int .u64 0) 1 Try.underlying30 hi hz0 hz1 .i64 .i64 _ _ 22 rfl rfl rfl rfl hb2 hb3 (Nat.le_refl _) ?_; intro w6 hown hgrow) | (refine wpList_copy_full rfl (.tmp 27) (.tmp 28) 30 rfl 24 Try.underlying30 hsz5 .u64 w5.heap.size w5.heap.size 22 22 b off cap l _ rfl rfl hown (HS5.out.below ((Below.refl _ _).grown hgrow (Nat.le_refl _) (by intro k h; cases h))) HZ.out ?_; intro w7 hown2 hgrow2; have B7 : Below w5.heap.size w5 w7 := Below.grown ((Below.refl _ _).grown hgrow (Nat.le_refl _) (by intro k h; cases h)) hgrow2 hgrow.size (by intro k h; cases h; exact Nat.le_refl _)))
  have TP7 : TP g true b off l w5.heap.size w7 := ⟨(B7.block g G5).trans R5, HS5.out.below B7, G5, HB5.out, l, HZ.out, hown2⟩
  have BX := below_trans B5 B7
  have HH : w.heap.size ≤ w5.heap.size := B5.size
  obtain ⟨P, p7, pb, pd, ⟨s0, s1, s2, s3, s4, s5, s6, s7, s8⟩, pa, pf, po, ps, -⟩ := key_m g b off l w5.heap.size HZ.out w7 TP7
  clear TP7 R5 B5 B7 hown hgrow hgrow2 HS5 HB5 G5 n0
  generalize w5.heap.size = h at *
  obtain ⟨vf, po0⟩ := po 0 (by omega)
  have pf0 := fun w => pf w 0
  have ps0 := fun w x => ps w 0 x
  have pa0 : ∀ w, P w → w.cell? ⟨b, off, none⟩ = some (.int .u64 (l.getD 0 0)) := fun w q => pa w 0 (by omega) q
  have paE : ∀ w, P w → w.cell? ⟨b, off + 6, none⟩ = some (.int .u64 (l.getD 6 0)) := fun w q => pa w 6 (by omega) q
  have HO : Hid (∀ w, P w → Calls Try.prog 63 #[.agg #[.int .i64 3, .int .i64 4, .int .i64 6, .int .i64 7, .int .i64 8, .int .i64 3, .int .i64 7, .int .i64 11, .int .i64 2], .int .u64 (l.getD 0 0)] w fun e w' => e = .returned (.int .i64 (leaveP (l.getD 0 0) true)) ∧ Below w.heap.size w w' ∧ P w') := fun w q => (origin_m (l.getD 0 0) (HU.out 0) w).mono fun e w' h => ⟨h.1, h.2, pb _ _ q h.2⟩
  have HT : Hid (∀ w, P w → Calls Try.prog 64 #[.agg #[.int .i64 3, .int .i64 4, .int .i64 6, .int .i64 7, .int .i64 8, .int .i64 3, .int .i64 7, .int .i64 11, .int .i64 2], .int .u64 (l.getD 0 0)] w fun e w' => e = .returned (.int .u64 (leaveS (l.getD 0 0) true)) ∧ Below w.heap.size w w' ∧ P w') := fun w q => (left_m (l.getD 0 0) (HU.out 0) w).mono fun e w' h => ⟨h.1, h.2, pb _ _ q h.2⟩
  clear po pf ps pa pb
  generalize leaveP (l.getD 0 0) true = pv at *
  generalize leaveS (l.getD 0 0) true = sv at *
  generalize l.getD 0 0 = x0 at *
  generalize l.getD 6 0 = xe at *
  have kS : ∀ w, P w → ((w.cell? ⟨g, 0, none⟩ = some (.int .i64 3) ∧ w.cell? ⟨g, 1, none⟩ = some (.int .i64 4) ∧ w.cell? ⟨g, 2, none⟩ = some (.int .i64 6) ∧ w.cell? ⟨g, 3, none⟩ = some (.int .i64 7) ∧ w.cell? ⟨g, 4, none⟩ = some (.int .i64 8) ∧ w.cell? ⟨g, 5, none⟩ = some (.int .i64 3) ∧ w.cell? ⟨g, 6, none⟩ = some (.int .i64 7) ∧ w.cell? ⟨g, 7, none⟩ = some (.int .i64 11) ∧ w.cell? ⟨g, 8, none⟩ = some (.int .i64 2)) ∧ w.cell? ⟨b, off, none⟩ = some (.int .u64 x0) ∧ w.cell? ⟨h, 0, none⟩ = some (vf w) ∧ w.frozen? ⟨h, 0, none⟩ = false ∧ P w) := fun w q => ⟨⟨s0 w q, s1 w q, s2 w q, s3 w q, s4 w q, s5 w q, s6 w q, s7 w q, s8 w q⟩, pa0 w q, po0 w q, pf0 w q, q⟩
  have KS : Hid (∀ w, P w → ((w.cell? ⟨g, 0, none⟩ = some (.int .i64 3) ∧ w.cell? ⟨g, 1, none⟩ = some (.int .i64 4) ∧ w.cell? ⟨g, 2, none⟩ = some (.int .i64 6) ∧ w.cell? ⟨g, 3, none⟩ = some (.int .i64 7) ∧ w.cell? ⟨g, 4, none⟩ = some (.int .i64 8) ∧ w.cell? ⟨g, 5, none⟩ = some (.int .i64 3) ∧ w.cell? ⟨g, 6, none⟩ = some (.int .i64 7) ∧ w.cell? ⟨g, 7, none⟩ = some (.int .i64 11) ∧ w.cell? ⟨g, 8, none⟩ = some (.int .i64 2)) ∧ w.cell? ⟨b, off, none⟩ = some (.int .u64 x0) ∧ w.cell? ⟨h, 0, none⟩ = some (vf w) ∧ w.frozen? ⟨h, 0, none⟩ = false ∧ P w)) := kS
  have PD : Hid (∀ w, P w → P w.drew) := pd
  have PS : Hid (∀ w x, P w → P (w.setCell ⟨h, 0, none⟩ (.int .u64 x))) := ps0
  have S2 : Hid (∀ w, P w → w.cell? ⟨g, 2, none⟩ = some (.int .i64 6)) := s2
  have PE : Hid (∀ w, P w → w.cell? ⟨b, off + 6, none⟩ = some (.int .u64 xe)) := paE
  clear kS pd ps0 paE pa0 po0 pf0 s0 s1 s2 s3 s4 s5 s6 s7 s8
  go_region_held3 (fun w' => (w'.cell? ⟨g, 0, none⟩ = some (.int .i64 3) ∧ w'.cell? ⟨g, 1, none⟩ = some (.int .i64 4) ∧ w'.cell? ⟨g, 2, none⟩ = some (.int .i64 6) ∧ w'.cell? ⟨g, 3, none⟩ = some (.int .i64 7) ∧ w'.cell? ⟨g, 4, none⟩ = some (.int .i64 8) ∧ w'.cell? ⟨g, 5, none⟩ = some (.int .i64 3) ∧ w'.cell? ⟨g, 6, none⟩ = some (.int .i64 7) ∧ w'.cell? ⟨g, 7, none⟩ = some (.int .i64 11) ∧ w'.cell? ⟨g, 8, none⟩ = some (.int .i64 2)) ∧ w'.cell? ⟨b, off, none⟩ = some (.int .u64 x0) ∧ w'.cell? ⟨h, 0, none⟩ = some (vf w') ∧ w'.frozen? ⟨h, 0, none⟩ = false ∧ P w') (first | exact KS.out _ (PD.out _ (by assumption)) | exact KS.out _ (by assumption)) (first | (go_at_call 63; with_reducible refine (HO.out _ ?_).mono ?_; (first | assumption | (exact PD.out _ (by assumption)) | (exact And.right (And.right (And.right (And.right (by assumption)))))); rintro e w8 ⟨rfl, hb8, p8⟩))
  have B8 : Below w.heap.size w w8 := below_trans BX.drew hb8
  have O8 : w8.ownsRow h 24 1 (.slice (some ⟨h, 0, none⟩) 22 22) 22 (l.map (Value.int .u64)) := ownsRow_below (ownsRow_below hown2 (Below.refl _ _).drew) hb8
  clear BX hown2 hb8 HO p7
  go_wp2_with fail
  go_region_held3 (fun w' => (w'.cell? ⟨g, 0, none⟩ = some (.int .i64 3) ∧ w'.cell? ⟨g, 1, none⟩ = some (.int .i64 4) ∧ w'.cell? ⟨g, 2, none⟩ = some (.int .i64 6) ∧ w'.cell? ⟨g, 3, none⟩ = some (.int .i64 7) ∧ w'.cell? ⟨g, 4, none⟩ = some (.int .i64 8) ∧ w'.cell? ⟨g, 5, none⟩ = some (.int .i64 3) ∧ w'.cell? ⟨g, 6, none⟩ = some (.int .i64 7) ∧ w'.cell? ⟨g, 7, none⟩ = some (.int .i64 11) ∧ w'.cell? ⟨g, 8, none⟩ = some (.int .i64 2)) ∧ w'.cell? ⟨b, off, none⟩ = some (.int .u64 x0) ∧ w'.cell? ⟨h, 0, none⟩ = some (vf w') ∧ w'.frozen? ⟨h, 0, none⟩ = false ∧ P w') (first | exact KS.out _ (PD.out _ (by assumption)) | exact KS.out _ (by assumption) | exact KS.out _ (PS.out _ _ (by assumption))) (first | (go_at_call 64; with_reducible refine (HT.out _ ?_).mono ?_; (first | assumption | (exact PD.out _ (by assumption)) | (exact And.right (And.right (And.right (And.right (by assumption)))))); rintro e w9 ⟨rfl, hb9, p9⟩))
  have B9 : Below w.heap.size w (w9.setCell ⟨h, 0, none⟩ (.int .u64 sv)) := Below.setCell (p := ⟨h, 0, none⟩) (below_trans B8.drew hb9) HH _
  have O9 := ((ownsRow_below (ownsRow_below O8 (Below.refl _ _).drew) hb9).stored 0 (.int .u64 sv)).1
  have p10 : P (w9.setCell ⟨h, 0, none⟩ (.int .u64 sv)) := PS.out _ _ p9
  rw [map_set_u64] at O9
  generalize w9.setCell ⟨h, 0, none⟩ (.int .u64 sv) = w10 at *
  have ce := PE.out _ p10
  have cs := S2.out _ p10
  clear B8 O8 hb9 HT p8 p9 p10
  go_wp2_with fail
  go_quiet (fail)
  go_wp2_with fail
  refine bodyPost_ret (results_t4 Try.results24 _ _ _) rfl ?_
  refine ⟨some ⟨h, 0, none⟩, 22, ?_⟩
  rw [F.out.1, F.out.2.1, F.out.2.2.1, F.out.2.2.2.1, F.out.2.2.2.2]
  exact ⟨rfl, own_lower (ownsRow_below O9 (below_dN' (Below.refl _ _) _)) HH, below_dN' B9 _⟩

set_option maxHeartbeats 1600000 in
theorem leave_s0 (a : Option Addr) (n cap : Nat) (l : List Int) (p : Int) (w : World) (hz : l.length = n) (hs : Sl .u64 w a l) (hl : ∀ j, U (l.getD j 0)) (hok : legalB n l p = false) :
    Calls Try.prog 24 #[.slice a n cap, .int .i64 p, .bool false] w fun e w' => ∃ (a' : Option Addr) (c : Nat),
      e = .returned (.tuple #[.slice a' (leavL n l p false).length c, .int .i64 (leavP n l p false), .int .u64 (leavA n l p false), .bool (leavB n l p false)]) ∧
      w'.ownsRow w.heap.size 24 1 (.slice a' (leavL n l p false).length c) (leavL n l p false).length ((leavL n l p false).map (Value.int .u64)) ∧ Below w.heap.size w w' := by
  have B0 : leavB n l p false = false := by simp [leavB, hok]
  have F : Hid (leavL n l p false = [] ∧ leavP n l p false = 0 ∧ leavA n l p false = 0 ∧ leavB n l p false = false) := ⟨by simp [leavL, B0], by simp [leavP, B0], by simp [leavA, B0], B0⟩
  have SS : Hid (∀ w, Calls Try.prog 57 #[] w fun e w' => e = .returned (.agg #[.int .i64 1, .int .i64 10, .int .i64 12, .int .i64 13, .int .i64 14, .int .i64 1, .int .i64 5, .int .i64 8, .int .i64 1]) ∧ Below w.heap.size w w') := supervisorSide_any
  have SM : Hid (∀ w, Calls Try.prog 55 #[] w fun e w' => e = .returned (.agg (sideC true)) ∧ Below w.heap.size w w') := machineSide_any
  have HSl : Hid (Sl .u64 w a l) := hs
  have HL : Hid (∀ w, Sl .u64 w a l → Calls Try.prog 54 #[.slice a n cap, .int .i64 p] w fun e w' => e = .returned (.bool false) ∧ Below w.heap.size w w') := by
    intro w hs
    have := implLegal_any a n cap l p w hz hs hl
    rw [hok] at this
    exact this
  clear hs hz hl hok B0
  go_enter Try.func24, Try.ntmps24
  go_wp2_with fail
  refine (SS.out _).mono ?_
  rintro e w1 ⟨rfl, hb1⟩
  have R2 : (w1.alloc (.cells #[.int .i64 1, .int .i64 10, .int .i64 12, .int .i64 13, .int .i64 14, .int .i64 1, .int .i64 5, .int .i64 8, .int .i64 1] 89)).heap[w1.heap.size]? = some (.cells (sideC false) 89 (0, 0)) := heap_alloc_new _ _
  have B2 : Below w.heap.size w (w1.alloc (.cells #[.int .i64 1, .int .i64 10, .int .i64 12, .int .i64 13, .int .i64 14, .int .i64 1, .int .i64 5, .int .i64 8, .int .i64 1] 89)) := hb1.alloc hb1.size _
  have G2 : w1.heap.size < (w1.alloc (.cells #[.int .i64 1, .int .i64 10, .int .i64 12, .int .i64 13, .int .i64 14, .int .i64 1, .int .i64 5, .int .i64 8, .int .i64 1] 89)).heap.size := by simp
  have G0 : w.heap.size ≤ w1.heap.size := hb1.size
  go_wp2_with fail
  generalize w1.alloc (.cells #[.int .i64 1, .int .i64 10, .int .i64 12, .int .i64 13, .int .i64 14, .int .i64 1, .int .i64 5, .int .i64 8, .int .i64 1] 89) = w2 at *
  generalize w1.heap.size = g at *
  clear hb1
  have R4 := R2
  have B4 := B2
  have G4 := G2
  clear R2 B2 G2
  refine (HL.out w2 (HSl.out.below B4)).mono ?_
  rintro e w5 ⟨rfl, hb5⟩
  have R5 := (hb5.block g G4).trans R4
  have n0 : w5.cell? ⟨g, 0, none⟩ = some (.int .i64 1) := cell_of_row _ _ _ _ _ _ R5
  have B5 := below_trans B4 hb5
  have G5 : g < w5.heap.size := Nat.lt_of_lt_of_le G4 hb5.size
  clear hb5 R4 B4 G4
  go_wp2_with fail
  refine bodyPost_ret (results_t4 Try.results24 _ _ _) rfl ?_
  rw [F.out.1, F.out.2.1, F.out.2.2.1, F.out.2.2.2]
  exact ⟨none, 0, rfl, own_nilW _ _, B5⟩

set_option maxHeartbeats 1600000 in
theorem leave_s1 (a : Option Addr) (n cap : Nat) (l : List Int) (p : Int) (w : World) (hz : l.length = n) (hs : Sl .u64 w a l) (hl : ∀ j, U (l.getD j 0)) (hok : legalB n l p = true) (d : decide (p < 1) = true) :
    Calls Try.prog 24 #[.slice a n cap, .int .i64 p, .bool false] w fun e w' => ∃ (a' : Option Addr) (c : Nat),
      e = .returned (.tuple #[.slice a' (leavL n l p false).length c, .int .i64 (leavP n l p false), .int .u64 (leavA n l p false), .bool (leavB n l p false)]) ∧
      w'.ownsRow w.heap.size 24 1 (.slice a' (leavL n l p false).length c) (leavL n l p false).length ((leavL n l p false).map (Value.int .u64)) ∧ Below w.heap.size w w' := by
  have B0 : leavB n l p false = false := by
    have hp := (legalB_parts hok).2
    have hp3 : p = 0 ∨ p = 1 ∨ p = 3 := by simpa [privB, or_assoc] using hp
    unfold leavB
    rw [hok]
    rcases hp3 with rfl | rfl | rfl
    · rfl
    · first | rfl | cases d
    · cases d
  have F : Hid (leavL n l p false = [] ∧ leavP n l p false = 0 ∧ leavA n l p false = 0 ∧ leavB n l p false = false) := ⟨by simp [leavL, B0], by simp [leavP, B0], by simp [leavA, B0], B0⟩
  have SS : Hid (∀ w, Calls Try.prog 57 #[] w fun e w' => e = .returned (.agg #[.int .i64 1, .int .i64 10, .int .i64 12, .int .i64 13, .int .i64 14, .int .i64 1, .int .i64 5, .int .i64 8, .int .i64 1]) ∧ Below w.heap.size w w') := supervisorSide_any
  have SM : Hid (∀ w, Calls Try.prog 55 #[] w fun e w' => e = .returned (.agg (sideC true)) ∧ Below w.heap.size w w') := machineSide_any
  have HSl : Hid (Sl .u64 w a l) := hs
  have HL : Hid (∀ w, Sl .u64 w a l → Calls Try.prog 54 #[.slice a n cap, .int .i64 p] w fun e w' => e = .returned (.bool true) ∧ Below w.heap.size w w') := by
    intro w hs
    have := implLegal_any a n cap l p w hz hs hl
    rw [hok] at this
    exact this
  clear hs hz hl hok B0
  go_enter Try.func24, Try.ntmps24
  go_wp2_with fail
  refine (SS.out _).mono ?_
  rintro e w1 ⟨rfl, hb1⟩
  have R2 : (w1.alloc (.cells #[.int .i64 1, .int .i64 10, .int .i64 12, .int .i64 13, .int .i64 14, .int .i64 1, .int .i64 5, .int .i64 8, .int .i64 1] 89)).heap[w1.heap.size]? = some (.cells (sideC false) 89 (0, 0)) := heap_alloc_new _ _
  have B2 : Below w.heap.size w (w1.alloc (.cells #[.int .i64 1, .int .i64 10, .int .i64 12, .int .i64 13, .int .i64 14, .int .i64 1, .int .i64 5, .int .i64 8, .int .i64 1] 89)) := hb1.alloc hb1.size _
  have G2 : w1.heap.size < (w1.alloc (.cells #[.int .i64 1, .int .i64 10, .int .i64 12, .int .i64 13, .int .i64 14, .int .i64 1, .int .i64 5, .int .i64 8, .int .i64 1] 89)).heap.size := by simp
  have G0 : w.heap.size ≤ w1.heap.size := hb1.size
  go_wp2_with fail
  generalize w1.alloc (.cells #[.int .i64 1, .int .i64 10, .int .i64 12, .int .i64 13, .int .i64 14, .int .i64 1, .int .i64 5, .int .i64 8, .int .i64 1] 89) = w2 at *
  generalize w1.heap.size = g at *
  clear hb1
  have R4 := R2
  have B4 := B2
  have G4 := G2
  clear R2 B2 G2
  refine (HL.out w2 (HSl.out.below B4)).mono ?_
  rintro e w5 ⟨rfl, hb5⟩
  have R5 := (hb5.block g G4).trans R4
  have n0 : w5.cell? ⟨g, 0, none⟩ = some (.int .i64 1) := cell_of_row _ _ _ _ _ _ R5
  have B5 := below_trans B4 hb5
  have G5 : g < w5.heap.size := Nat.lt_of_lt_of_le G4 hb5.size
  clear hb5 R4 B4 G4
  go_wp2_with fail
  refine bodyPost_ret (results_t4 Try.results24 _ _ _) rfl ?_
  rw [F.out.1, F.out.2.1, F.out.2.2.1, F.out.2.2.2]
  exact ⟨none, 0, rfl, own_nilW _ _, B5⟩

set_option maxRecDepth 100000 in
set_option maxHeartbeats 3200000 in
theorem leave_s2 (b off cap : Nat) (l : List Int) (p : Int) (w : World) (hz : l.length = 22) (hs : Sl .u64 w (some ⟨b, off, none⟩) l) (hl : ∀ j, U (l.getD j 0)) (hok : legalB 22 l p = true) (d : decide (p < 1) = false) :
    Calls Try.prog 24 #[.slice (some ⟨b, off, none⟩) 22 cap, .int .i64 p, .bool false] w fun e w' => ∃ (a' : Option Addr) (c : Nat),
      e = .returned (.tuple #[.slice a' (leavL 22 l p false).length c, .int .i64 (leavP 22 l p false), .int .u64 (leavA 22 l p false), .bool (leavB 22 l p false)]) ∧
      w'.ownsRow w.heap.size 24 1 (.slice a' (leavL 22 l p false).length c) (leavL 22 l p false).length ((leavL 22 l p false).map (Value.int .u64)) ∧ Below w.heap.size w w' := by
  have B0 : leavB 22 l p false = true := by
    have hp := (legalB_parts hok).2
    have hp3 : p = 0 ∨ p = 1 ∨ p = 3 := by simpa [privB, or_assoc] using hp
    unfold leavB
    rw [hok]
    rcases hp3 with rfl | rfl | rfl
    · cases d
    · first | rfl | cases d
    · rfl
  have F : Hid (leavL 22 l p false = l.set 0 (leaveS (l.getD 0 0) false) ∧ leavP 22 l p false = leaveP (l.getD 0 0) false ∧ leavA 22 l p false = l.getD 12 0 ∧ leavB 22 l p false = true ∧ (l.set 0 (leaveS (l.getD 0 0) false)).length = 22) :=
    ⟨by simp [leavL, B0], by simp [leavP, B0], by simp only [leavA, B0]; rfl, B0, by simp [hz]⟩
  obtain ⟨hb, -⟩ := sl_at hs 0 (by omega)
  have SS : Hid (∀ w, Calls Try.prog 57 #[] w fun e w' => e = .returned (.agg #[.int .i64 1, .int .i64 10, .int .i64 12, .int .i64 13, .int .i64 14, .int .i64 1, .int .i64 5, .int .i64 8, .int .i64 1]) ∧ Below w.heap.size w w') := supervisorSide_any
  have SM : Hid (∀ w, Calls Try.prog 55 #[] w fun e w' => e = .returned (.agg (sideC true)) ∧ Below w.heap.size w w') := machineSide_any
  have HSl : Hid (Sl .u64 w (some ⟨b, off, none⟩) l) := hs
  have HL : Hid (∀ w, Sl .u64 w (some ⟨b, off, none⟩) l → Calls Try.prog 54 #[.slice (some ⟨b, off, none⟩) 22 cap, .int .i64 p] w fun e w' => e = .returned (.bool true) ∧ Below w.heap.size w w') := by
    intro w hs
    have := implLegal_any (some ⟨b, off, none⟩) 22 cap l p w hz hs hl
    rw [hok] at this
    exact this
  obtain ⟨i0, hi, hz0, hz1, hz2⟩ := info_parts infoW
  have hsz5 : (Try.prog.info? 24).map (·.size) = some 1 := by rw [hi]; simp [hz1]
  have hb2 : i0.bytes * 22 ≤ 281474976710656 := by rw [hz2]; omega
  have hb3 : 22 ≤ maxLen := by unfold maxLen; omega
  have HZ : Hid (l.length = 22) := hz
  have HU : Hid (∀ j, U (l.getD j 0)) := hl
  clear hz2 hs hz hl hok B0
  go_enter Try.func24, Try.ntmps24
  go_wp2_with fail
  refine (SS.out _).mono ?_
  rintro e w1 ⟨rfl, hb1⟩
  have R2 : (w1.alloc (.cells #[.int .i64 1, .int .i64 10, .int .i64 12, .int .i64 13, .int .i64 14, .int .i64 1, .int .i64 5, .int .i64 8, .int .i64 1] 89)).heap[w1.heap.size]? = some (.cells (sideC false) 89 (0, 0)) := heap_alloc_new _ _
  have B2 : Below w.heap.size w (w1.alloc (.cells #[.int .i64 1, .int .i64 10, .int .i64 12, .int .i64 13, .int .i64 14, .int .i64 1, .int .i64 5, .int .i64 8, .int .i64 1] 89)) := hb1.alloc hb1.size _
  have G2 : w1.heap.size < (w1.alloc (.cells #[.int .i64 1, .int .i64 10, .int .i64 12, .int .i64 13, .int .i64 14, .int .i64 1, .int .i64 5, .int .i64 8, .int .i64 1] 89)).heap.size := by simp
  have G0 : w.heap.size ≤ w1.heap.size := hb1.size
  go_wp2_with fail
  generalize w1.alloc (.cells #[.int .i64 1, .int .i64 10, .int .i64 12, .int .i64 13, .int .i64 14, .int .i64 1, .int .i64 5, .int .i64 8, .int .i64 1] 89) = w2 at *
  generalize w1.heap.size = g at *
  clear hb1
  have R4 := R2
  have B4 := B2
  have G4 := G2
  clear R2 B2 G2
  refine (HL.out w2 (HSl.out.below B4)).mono ?_
  rintro e w5 ⟨rfl, hb5⟩
  have R5 := (hb5.block g G4).trans R4
  have n0 : w5.cell? ⟨g, 0, none⟩ = some (.int .i64 1) := cell_of_row _ _ _ _ _ _ R5
  have B5 := below_trans B4 hb5
  have G5 : g < w5.heap.size := Nat.lt_of_lt_of_le G4 hb5.size
  clear hb5 R4 B4 G4
  have HS5 : Hid (Sl .u64 w5 (some ⟨b, off, none⟩) l) := HSl.out.below B5
  have HB5 : Hid (b < w5.heap.size) := Nat.lt_of_lt_of_le hb B5.size
  go_wp2_with (first | (at_make; refine wpList_make_full _ rfl (.const (.int .i64 22)) (.const (.int .i64 22)) 30 rfl w5.heap.size 24 i0 (.int .u64 0) 1 Try.underlying30 hi hz0 hz1 .i64 .i64 _ _ 22 rfl rfl rfl rfl hb2 hb3 (Nat.le_refl _) ?_; intro w6 hown hgrow) | (refine wpList_copy_full rfl (.tmp 27) (.tmp 28) 30 rfl 24 Try.underlying30 hsz5 .u64 w5.heap.size w5.heap.size 22 22 b off cap l _ rfl rfl hown (HS5.out.below ((Below.refl _ _).grown hgrow (Nat.le_refl _) (by intro k h; cases h))) HZ.out ?_; intro w7 hown2 hgrow2; have B7 : Below w5.heap.size w5 w7 := Below.grown ((Below.refl _ _).grown hgrow (Nat.le_refl _) (by intro k h; cases h)) hgrow2 hgrow.size (by intro k h; cases h; exact Nat.le_refl _)))
  have TP7 : TP g false b off l w5.heap.size w7 := ⟨(B7.block g G5).trans R5, HS5.out.below B7, G5, HB5.out, l, HZ.out, hown2⟩
  have BX := below_trans B5 B7
  have HH : w.heap.size ≤ w5.heap.size := B5.size
  obtain ⟨P, p7, pb, pd, ⟨s0, s1, s2, s3, s4, s5, s6, s7, s8⟩, pa, pf, po, ps, -⟩ := key_s g b off l w5.heap.size HZ.out w7 TP7
  clear TP7 R5 B5 B7 hown hgrow hgrow2 HS5 HB5 G5 n0
  generalize w5.heap.size = h at *
  obtain ⟨vf, po0⟩ := po 0 (by omega)
  have pf0 := fun w => pf w 0
  have ps0 := fun w x => ps w 0 x
  have pa0 : ∀ w, P w → w.cell? ⟨b, off, none⟩ = some (.int .u64 (l.getD 0 0)) := fun w q => pa w 0 (by omega) q
  have paE : ∀ w, P w → w.cell? ⟨b, off + 12, none⟩ = some (.int .u64 (l.getD 12 0)) := fun w q => pa w 12 (by omega) q
  have HO : Hid (∀ w, P w → Calls Try.prog 63 #[.agg #[.int .i64 1, .int .i64 10, .int .i64 12, .int .i64 13, .int .i64 14, .int .i64 1, .int .i64 5, .int .i64 8, .int .i64 1], .int .u64 (l.getD 0 0)] w fun e w' => e = .returned (.int .i64 (leaveP (l.getD 0 0) false)) ∧ Below w.heap.size w w' ∧ P w') := fun w q => (origin_s (l.getD 0 0) (HU.out 0) w).mono fun e w' h => ⟨h.1, h.2, pb _ _ q h.2⟩
  have HT : Hid (∀ w, P w → Calls Try.prog 64 #[.agg #[.int .i64 1, .int .i64 10, .int .i64 12, .int .i64 13, .int .i64 14, .int .i64 1, .int .i64 5, .int .i64 8, .int .i64 1], .int .u64 (l.getD 0 0)] w fun e w' => e = .returned (.int .u64 (leaveS (l.getD 0 0) false)) ∧ Below w.heap.size w w' ∧ P w') := fun w q => (left_s (l.getD 0 0) (HU.out 0) w).mono fun e w' h => ⟨h.1, h.2, pb _ _ q h.2⟩
  clear po pf ps pa pb
  generalize leaveP (l.getD 0 0) false = pv at *
  generalize leaveS (l.getD 0 0) false = sv at *
  generalize l.getD 0 0 = x0 at *
  generalize l.getD 12 0 = xe at *
  have kS : ∀ w, P w → ((w.cell? ⟨g, 0, none⟩ = some (.int .i64 1) ∧ w.cell? ⟨g, 1, none⟩ = some (.int .i64 10) ∧ w.cell? ⟨g, 2, none⟩ = some (.int .i64 12) ∧ w.cell? ⟨g, 3, none⟩ = some (.int .i64 13) ∧ w.cell? ⟨g, 4, none⟩ = some (.int .i64 14) ∧ w.cell? ⟨g, 5, none⟩ = some (.int .i64 1) ∧ w.cell? ⟨g, 6, none⟩ = some (.int .i64 5) ∧ w.cell? ⟨g, 7, none⟩ = some (.int .i64 8) ∧ w.cell? ⟨g, 8, none⟩ = some (.int .i64 1)) ∧ w.cell? ⟨b, off, none⟩ = some (.int .u64 x0) ∧ w.cell? ⟨h, 0, none⟩ = some (vf w) ∧ w.frozen? ⟨h, 0, none⟩ = false ∧ P w) := fun w q => ⟨⟨s0 w q, s1 w q, s2 w q, s3 w q, s4 w q, s5 w q, s6 w q, s7 w q, s8 w q⟩, pa0 w q, po0 w q, pf0 w q, q⟩
  have KS : Hid (∀ w, P w → ((w.cell? ⟨g, 0, none⟩ = some (.int .i64 1) ∧ w.cell? ⟨g, 1, none⟩ = some (.int .i64 10) ∧ w.cell? ⟨g, 2, none⟩ = some (.int .i64 12) ∧ w.cell? ⟨g, 3, none⟩ = some (.int .i64 13) ∧ w.cell? ⟨g, 4, none⟩ = some (.int .i64 14) ∧ w.cell? ⟨g, 5, none⟩ = some (.int .i64 1) ∧ w.cell? ⟨g, 6, none⟩ = some (.int .i64 5) ∧ w.cell? ⟨g, 7, none⟩ = some (.int .i64 8) ∧ w.cell? ⟨g, 8, none⟩ = some (.int .i64 1)) ∧ w.cell? ⟨b, off, none⟩ = some (.int .u64 x0) ∧ w.cell? ⟨h, 0, none⟩ = some (vf w) ∧ w.frozen? ⟨h, 0, none⟩ = false ∧ P w)) := kS
  have PD : Hid (∀ w, P w → P w.drew) := pd
  have PS : Hid (∀ w x, P w → P (w.setCell ⟨h, 0, none⟩ (.int .u64 x))) := ps0
  have S2 : Hid (∀ w, P w → w.cell? ⟨g, 2, none⟩ = some (.int .i64 12)) := s2
  have PE : Hid (∀ w, P w → w.cell? ⟨b, off + 12, none⟩ = some (.int .u64 xe)) := paE
  clear kS pd ps0 paE pa0 po0 pf0 s0 s1 s2 s3 s4 s5 s6 s7 s8
  go_region_held3 (fun w' => (w'.cell? ⟨g, 0, none⟩ = some (.int .i64 1) ∧ w'.cell? ⟨g, 1, none⟩ = some (.int .i64 10) ∧ w'.cell? ⟨g, 2, none⟩ = some (.int .i64 12) ∧ w'.cell? ⟨g, 3, none⟩ = some (.int .i64 13) ∧ w'.cell? ⟨g, 4, none⟩ = some (.int .i64 14) ∧ w'.cell? ⟨g, 5, none⟩ = some (.int .i64 1) ∧ w'.cell? ⟨g, 6, none⟩ = some (.int .i64 5) ∧ w'.cell? ⟨g, 7, none⟩ = some (.int .i64 8) ∧ w'.cell? ⟨g, 8, none⟩ = some (.int .i64 1)) ∧ w'.cell? ⟨b, off, none⟩ = some (.int .u64 x0) ∧ w'.cell? ⟨h, 0, none⟩ = some (vf w') ∧ w'.frozen? ⟨h, 0, none⟩ = false ∧ P w') (first | exact KS.out _ (PD.out _ (by assumption)) | exact KS.out _ (by assumption)) (first | (go_at_call 63; with_reducible refine (HO.out _ ?_).mono ?_; (first | assumption | (exact PD.out _ (by assumption)) | (exact And.right (And.right (And.right (And.right (by assumption)))))); rintro e w8 ⟨rfl, hb8, p8⟩))
  have B8 : Below w.heap.size w w8 := below_trans BX.drew hb8
  have O8 : w8.ownsRow h 24 1 (.slice (some ⟨h, 0, none⟩) 22 22) 22 (l.map (Value.int .u64)) := ownsRow_below (ownsRow_below hown2 (Below.refl _ _).drew) hb8
  clear BX hown2 hb8 HO p7
  go_wp2_with fail
  go_region_held3 (fun w' => (w'.cell? ⟨g, 0, none⟩ = some (.int .i64 1) ∧ w'.cell? ⟨g, 1, none⟩ = some (.int .i64 10) ∧ w'.cell? ⟨g, 2, none⟩ = some (.int .i64 12) ∧ w'.cell? ⟨g, 3, none⟩ = some (.int .i64 13) ∧ w'.cell? ⟨g, 4, none⟩ = some (.int .i64 14) ∧ w'.cell? ⟨g, 5, none⟩ = some (.int .i64 1) ∧ w'.cell? ⟨g, 6, none⟩ = some (.int .i64 5) ∧ w'.cell? ⟨g, 7, none⟩ = some (.int .i64 8) ∧ w'.cell? ⟨g, 8, none⟩ = some (.int .i64 1)) ∧ w'.cell? ⟨b, off, none⟩ = some (.int .u64 x0) ∧ w'.cell? ⟨h, 0, none⟩ = some (vf w') ∧ w'.frozen? ⟨h, 0, none⟩ = false ∧ P w') (first | exact KS.out _ (PD.out _ (by assumption)) | exact KS.out _ (by assumption) | exact KS.out _ (PS.out _ _ (by assumption))) (first | (go_at_call 64; with_reducible refine (HT.out _ ?_).mono ?_; (first | assumption | (exact PD.out _ (by assumption)) | (exact And.right (And.right (And.right (And.right (by assumption)))))); rintro e w9 ⟨rfl, hb9, p9⟩))
  have B9 : Below w.heap.size w (w9.setCell ⟨h, 0, none⟩ (.int .u64 sv)) := Below.setCell (p := ⟨h, 0, none⟩) (below_trans B8.drew hb9) HH _
  have O9 := ((ownsRow_below (ownsRow_below O8 (Below.refl _ _).drew) hb9).stored 0 (.int .u64 sv)).1
  have p10 : P (w9.setCell ⟨h, 0, none⟩ (.int .u64 sv)) := PS.out _ _ p9
  rw [map_set_u64] at O9
  generalize w9.setCell ⟨h, 0, none⟩ (.int .u64 sv) = w10 at *
  have ce := PE.out _ p10
  have cs := S2.out _ p10
  clear B8 O8 hb9 HT p8 p9 p10
  go_wp2_with fail
  go_quiet (fail)
  go_wp2_with fail
  refine bodyPost_ret (results_t4 Try.results24 _ _ _) rfl ?_
  refine ⟨some ⟨h, 0, none⟩, 22, ?_⟩
  rw [F.out.1, F.out.2.1, F.out.2.2.1, F.out.2.2.2.1, F.out.2.2.2.2]
  exact ⟨rfl, own_lower (ownsRow_below O9 (below_dN' (Below.refl _ _) _)) HH, below_dN' B9 _⟩

theorem implLeave_any (a : Option Addr) (n cap : Nat) (l : List Int) (p : Int) (m : Bool) (w : World) (hz : l.length = n) (hs : Sl .u64 w a l) (hl : ∀ j, U (l.getD j 0)) :
    Calls Try.prog 24 #[.slice a n cap, .int .i64 p, .bool m] w fun e w' => ∃ (a' : Option Addr) (c : Nat),
      e = .returned (.tuple #[.slice a' (leavL n l p m).length c, .int .i64 (leavP n l p m), .int .u64 (leavA n l p m), .bool (leavB n l p m)]) ∧
      w'.ownsRow w.heap.size 24 1 (.slice a' (leavL n l p m).length c) (leavL n l p m).length ((leavL n l p m).map (Value.int .u64)) ∧ Below w.heap.size w w' := by
  cases hok : legalB n l p with
  | false =>
    cases m with
    | true => exact leave_m0 a n cap l p w hz hs hl hok
    | false => exact leave_s0 a n cap l p w hz hs hl hok
  | true =>
    have hn := (legalB_parts hok).1
    subst hn
    obtain ⟨b, off, rfl, hblt, hc0⟩ := hs 0 (by omega)
    cases m with
    | true =>
      cases d : decide (p < 3) with
      | true => exact leave_m1 _ _ cap l p w hz hs hl hok d
      | false => exact leave_m2 b off cap l p w hz hs hl hok d
    | false =>
      cases d : decide (p < 1) with
      | true => exact leave_s1 _ _ cap l p w hz hs hl hok d
      | false => exact leave_s2 b off cap l p w hz hs hl hok d

end Go.Proofs.Ytgcbdlfljplkbab
