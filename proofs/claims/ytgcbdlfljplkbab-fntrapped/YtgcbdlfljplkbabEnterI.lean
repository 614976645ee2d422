/- The program's Enter. By tools/genEnter.py. -/
import Derived.Test.YtgcbdlfljplkbabLeaveI
namespace Go.Proofs.Ytgcbdlfljplkbab
open Go.RowKit
set_option linter.unusedVariables false

theorem enter_0 (a : Option Addr) (n cap : Nat) (l : List Int) (p pc k : Int) (i : Bool) (v : Int) (w : World) (hz : l.length = n) (hs : Sl .u64 w a l) (hl : ∀ j, U (l.getD j 0)) (hok : legalB n l p = false) :
    Calls Try.prog 22 #[.slice a n cap, .int .i64 p, .int .u64 pc, .int .i64 k, .bool i, .int .u64 v] w fun e w' => ∃ (a' : Option Addr) (c : Nat),
      e = .returned (.tuple #[.slice a' (entL n l p pc k i v).length c, .int .i64 (entP n l p k i), .int .u64 (entA n l p k i), .bool (entB n l p k)]) ∧
      w'.ownsRow w.heap.size 24 1 (.slice a' (entL n l p pc k i v).length c) (entL n l p pc k i v).length ((entL n l p pc k i v).map (Value.int .u64)) ∧ Below w.heap.size w w' := by
  have B0 : entB n l p k = false := by simp [entB, hok]
  have F : Hid (entL n l p pc k i v = [] ∧ entP n l p k i = 0 ∧ entA n l p k i = 0 ∧ entB n l p k = false) := ⟨by simp [entL, B0], by simp [entP, B0], by simp [entA, B0], B0⟩
  have HL : Hid (Calls Try.prog 54 #[.slice a n cap, .int .i64 p] w fun e w' => e = .returned (.bool false) ∧ Below w.heap.size w w') := by
    have := implLegal_any a n cap l p w hz hs hl
    rw [hok] at this
    exact this
  clear hs hz hl hok B0
  go_enter Try.func22, Try.ntmps22
  go_wp2_with fail
  refine HL.out.mono ?_
  rintro e w1 ⟨rfl, B1⟩
  go_wp2_with fail
  refine bodyPost_ret (results_t4 Try.results22 _ _ _) rfl ?_
  rw [F.out.1, F.out.2.1, F.out.2.2.1, F.out.2.2.2]
  exact ⟨none, 0, rfl, own_nilW _ _, B1⟩

theorem enter_1 (a : Option Addr) (n cap : Nat) (l : List Int) (p pc k : Int) (i : Bool) (v : Int) (w : World) (hz : l.length = n) (hs : Sl .u64 w a l) (hl : ∀ j, U (l.getD j 0)) (hok : legalB n l p = true) (d : decide (k < 0) = true) :
    Calls Try.prog 22 #[.slice a n cap, .int .i64 p, .int .u64 pc, .int .i64 k, .bool i, .int .u64 v] w fun e w' => ∃ (a' : Option Addr) (c : Nat),
      e = .returned (.tuple #[.slice a' (entL n l p pc k i v).length c, .int .i64 (entP n l p k i), .int .u64 (entA n l p k i), .bool (entB n l p k)]) ∧
      w'.ownsRow w.heap.size 24 1 (.slice a' (entL n l p pc k i v).length c) (entL n l p pc k i v).length ((entL n l p pc k i v).map (Value.int .u64)) ∧ Below w.heap.size w w' := by
  have B0 : entB n l p k = false := by have h : k < 0 := of_decide_eq_true d; have e : inB k = false := (decide_eq_false (by omega) : decide (0 ≤ k ∧ k ≤ 15) = false); simp [entB, e]
  have F : Hid (entL n l p pc k i v = [] ∧ entP n l p k i = 0 ∧ entA n l p k i = 0 ∧ entB n l p k = false) := ⟨by simp [entL, B0], by simp [entP, B0], by simp [entA, B0], B0⟩
  have HL : Hid (Calls Try.prog 54 #[.slice a n cap, .int .i64 p] w fun e w' => e = .returned (.bool true) ∧ Below w.heap.size w w') := by
    have := implLegal_any a n cap l p w hz hs hl
    rw [hok] at this
    exact this
  clear hs hz hl hok B0
  go_enter Try.func22, Try.ntmps22
  go_wp2_with fail
  refine HL.out.mono ?_
  rintro e w1 ⟨rfl, B1⟩
  go_wp2_with fail
  refine bodyPost_ret (results_t4 Try.results22 _ _ _) rfl ?_
  rw [F.out.1, F.out.2.1, F.out.2.2.1, F.out.2.2.2]
  exact ⟨none, 0, rfl, own_nilW _ _, B1⟩

theorem enter_2 (a : Option Addr) (n cap : Nat) (l : List Int) (p pc k : Int) (i : Bool) (v : Int) (w : World) (hz : l.length = n) (hs : Sl .u64 w a l) (hl : ∀ j, U (l.getD j 0)) (hok : legalB n l p = true) (d : decide (k < 0) = false) (d2 : decide (k ≥ 16) = true) :
    Calls Try.prog 22 #[.slice a n cap, .int .i64 p, .int .u64 pc, .int .i64 k, .bool i, .int .u64 v] w fun e w' => ∃ (a' : Option Addr) (c : Nat),
      e = .returned (.tuple #[.slice a' (entL n l p pc k i v).length c, .int .i64 (entP n l p k i), .int .u64 (entA n l p k i), .bool (entB n l p k)]) ∧
      w'.ownsRow w.heap.size 24 1 (.slice a' (entL n l p pc k i v).length c) (entL n l p pc k i v).length ((entL n l p pc k i v).map (Value.int .u64)) ∧ Below w.heap.size w w' := by
  have B0 : entB n l p k = false := by have h : k ≥ 16 := of_decide_eq_true d2; have e : inB k = false := (decide_eq_false (by omega) : decide (0 ≤ k ∧ k ≤ 15) = false); simp [entB, e]
  have F : Hid (entL n l p pc k i v = [] ∧ entP n l p k i = 0 ∧ entA n l p k i = 0 ∧ entB n l p k = false) := ⟨by simp [entL, B0], by simp [entP, B0], by simp [entA, B0], B0⟩
  have HL : Hid (Calls Try.prog 54 #[.slice a n cap, .int .i64 p] w fun e w' => e = .returned (.bool true) ∧ Below w.heap.size w w') := by
    have := implLegal_any a n cap l p w hz hs hl
    rw [hok] at this
    exact this
  clear hs hz hl hok B0
  go_enter Try.func22, Try.ntmps22
  go_wp2_with fail
  refine HL.out.mono ?_
  rintro e w1 ⟨rfl, B1⟩
  go_wp2_with fail
  refine bodyPost_ret (results_t4 Try.results22 _ _ _) rfl ?_
  rw [F.out.1, F.out.2.1, F.out.2.2.1, F.out.2.2.2]
  exact ⟨none, 0, rfl, own_nilW _ _, B1⟩

set_option maxRecDepth 100000 in
set_option maxHeartbeats 3200000 in
theorem enter_ds (b off cap : Nat) (l : List Int) (p pc : Int) (k : Nat) (i : Bool) (v : Int) (w : World) (hz : l.length = 22) (hs : Sl .u64 w (some ⟨b, off, none⟩) l) (hl : ∀ j, U (l.getD j 0)) (hok : legalB 22 l p = true) (hk : k < 16) (hd0 : delegB l p k i = true) :
    Calls Try.prog 22 #[.slice (some ⟨b, off, none⟩) 22 cap, .int .i64 p, .int .u64 pc, .int .i64 k, .bool i, .int .u64 v] w fun e w' => ∃ (a' : Option Addr) (c : Nat),
      e = .returned (.tuple #[.slice a' (entL 22 l p pc k i v).length c, .int .i64 (entP 22 l p k i), .int .u64 (entA 22 l p k i), .bool (entB 22 l p k)]) ∧
      w'.ownsRow w.heap.size 24 1 (.slice a' (entL 22 l p pc k i v).length c) (entL 22 l p pc k i v).length ((entL 22 l p pc k i v).map (Value.int .u64)) ∧ Below w.heap.size w w' := by
  have hpv := (legalB_parts hok).2
  have hin : inB (k : Int) = true := by simp [inB]; omega
  have B0 : entB 22 l p k = true := by simp [entB, hin, hok]
  have F : Hid (entL 22 l p pc k i v = (((l.set 13 (toldV k i)).set 12 (bits .andNot .u64 pc 3)).set 14 v).set 0 (statS (l.getD 0 0) (p == 1)) ∧ entP 22 l p k i = 1 ∧ entA 22 l p k i = enterAt (l.getD 10 0) k (i && (bits .and .u64 (l.getD 10 0) 1 == 1)) ∧ entB 22 l p k = true ∧ ((((l.set 13 (toldV k i)).set 12 (bits .andNot .u64 pc 3)).set 14 v).set 0 (statS (l.getD 0 0) (p == 1))).length = 22) := by
    refine ⟨?_, ?_, ?_, B0, by simp [hz]⟩
    · unfold entL; rw [B0, Int.toNat_natCast, hd0]; rfl
    · unfold entP; rw [B0, Int.toNat_natCast, hd0]; rfl
    · unfold entA; rw [B0, Int.toNat_natCast, hd0]; rfl
  have hp01 : p = 0 ∨ p = 1 := by
    have hp3 : p = 0 ∨ p = 1 ∨ p = 3 := by simpa [privB, or_assoc] using hpv
    rcases hp3 with e | e | e
    · exact .inl e
    · exact .inr e
    · subst e; simp [delegB] at hd0
  have dk1 : decide ((k : Int) < 0) = false := decide_eq_false (by omega)
  have dk2 : decide ((k : Int) ≥ 16) = false := decide_eq_false (by omega)
  obtain ⟨hb, -⟩ := sl_at hs 0 (by omega)
  have SS : Hid (∀ w, Calls Try.prog 57 #[] w fun e w' => e = .returned (.agg (sideC false)) ∧ Below w.heap.size w w') := supervisorSide_any
  have SM : Hid (∀ w, Calls Try.prog 55 #[] w fun e w' => e = .returned (.agg #[.int .i64 3, .int .i64 4, .int .i64 6, .int .i64 7, .int .i64 8, .int .i64 3, .int .i64 7, .int .i64 11, .int .i64 2]) ∧ Below w.heap.size w w') := machineSide_any
  have HSl : Hid (Sl .u64 w (some ⟨b, off, none⟩) l) := hs
  have HL : Hid (Calls Try.prog 54 #[.slice (some ⟨b, off, none⟩) 22 cap, .int .i64 p] w fun e w' => e = .returned (.bool true) ∧ Below w.heap.size w w') := by
    have := implLegal_any (some ⟨b, off, none⟩) 22 cap l p w hz hs hl
    rw [hok] at this
    exact this
  obtain ⟨i0, hi, hz0, hz1, hz2⟩ := info_parts infoW
  have hsz5 : (Try.prog.info? 24).map (·.size) = some 1 := by rw [hi]; simp [hz1]
  have hb2 : i0.bytes * 22 ≤ 281474976710656 := by rw [hz2]; omega
  have hb3 : 22 ≤ maxLen := by unfold maxLen; omega
  have HZ : Hid (l.length = 22) := hz
  have HU : Hid (∀ j, U (l.getD j 0)) := hl
  have hd : Hid (delegB l p k i = true) := hd0
  clear hz2 hs hz hl hok B0 hin hd0
  go_enter Try.func22, Try.ntmps22
  go_wp2_with fail
  refine HL.out.mono ?_
  rintro e w1 ⟨rfl, B1⟩
  go_wp2_with fail
  refine (SM.out _).mono ?_
  rintro e w2 ⟨rfl, hb2⟩
  have B2 := below_trans B1 hb2
  have R3 : (w2.alloc (.cells #[.int .i64 3, .int .i64 4, .int .i64 6, .int .i64 7, .int .i64 8, .int .i64 3, .int .i64 7, .int .i64 11, .int .i64 2] 89)).heap[w2.heap.size]? = some (.cells (sideC true) 89 (0, 0)) := heap_alloc_new _ _
  have B3 : Below w.heap.size w (w2.alloc (.cells #[.int .i64 3, .int .i64 4, .int .i64 6, .int .i64 7, .int .i64 8, .int .i64 3, .int .i64 7, .int .i64 11, .int .i64 2] 89)) := B2.alloc B2.size _
  have G3 : w2.heap.size < (w2.alloc (.cells #[.int .i64 3, .int .i64 4, .int .i64 6, .int .i64 7, .int .i64 8, .int .i64 3, .int .i64 7, .int .i64 11, .int .i64 2] 89)).heap.size := by simp
  have G0 : w.heap.size ≤ w2.heap.size := B2.size
  go_wp2_with fail
  generalize w2.alloc (.cells #[.int .i64 3, .int .i64 4, .int .i64 6, .int .i64 7, .int .i64 8, .int .i64 3, .int .i64 7, .int .i64 11, .int .i64 2] 89) = w3 at *
  generalize w2.heap.size = g at *
  clear hb2 B1 B2
  have hs3 := HSl.out.below B3
  refine (handsOver_any b off cap l p k hk i w3 (sl_at hs3 1 (by rw [HZ.out]; omega)).2 (sl_at hs3 2 (by rw [HZ.out]; omega)).2 (HU.out 1) (HU.out 2)).mono ?_
  rw [hd.out]
  rintro e w4 ⟨rfl, hb4⟩
  have R4 := (hb4.block g G3).trans R3
  have B4 := below_trans B3 hb4
  have G4 : g < w4.heap.size := Nat.lt_of_lt_of_le G3 hb4.size
  clear hs3 hb4 R3 B3 G3
  go_wp2_with fail
  refine (SS.out _).mono ?_
  rintro e w5 ⟨rfl, hb5⟩
  have R5 : w5.heap[g]? = some (.cells (sideC true) 89 (0, 0)) := (hb5.block g G4).trans R4
  have R6 : (w5.setRow g (sideC false)).heap[g]? = some (.cells (sideC false) 89 (0, 0)) := setRow_heap _ _ _ _ _ _ R5
  have B6 : Below w.heap.size w (w5.setRow g (sideC false)) := below_setRow (below_trans B4 hb5) G0 _
  have G6 : g < (w5.setRow g (sideC false)).heap.size := by rw [setRow_size]; exact Nat.lt_of_lt_of_le G4 hb5.size
  clear R4 B4 G4 hb5
  have NX : Hid (∃ wx, wx = w5.setRow g (sideC false)) := ⟨_, rfl⟩
  go_wp2_with (first | (refine wpList_store_rowTo rfl 89 (.tmp 16) (.tmp 36) rfl rfl g (sideC false) rfl rfl 89 (sideC true) R5 (by rw [side_size, side_cells]) (by rw [side_cells, side_cells]) (side_one false) ?_; generalize w5.setRow g (sideC false) = w6 at *; have HS6 : Hid (Sl .u64 w6 (some ⟨b, off, none⟩) l) := HSl.out.below B6; have HB6 : Hid (b < w6.heap.size) := Nat.lt_of_lt_of_le hb B6.size) | (at_make; refine wpList_make_full _ rfl (.const (.int .i64 22)) (.const (.int .i64 22)) 30 rfl w6.heap.size 24 i0 (.int .u64 0) 1 Try.underlying30 hi hz0 hz1 .i64 .i64 _ _ 22 rfl rfl rfl rfl hb2 hb3 (Nat.le_refl _) ?_; intro w7 hown hgrow) | (refine wpList_copy_full rfl (.tmp 38) (.tmp 39) 30 rfl 24 Try.underlying30 hsz5 .u64 w6.heap.size w6.heap.size 22 22 b off cap l _ rfl rfl hown (HS6.out.below ((Below.refl _ _).grown hgrow (Nat.le_refl _) (by intro k h; cases h))) HZ.out ?_; intro w8 hown2 hgrow2; have B8 : Below w6.heap.size w6 w8 := Below.grown ((Below.refl _ _).grown hgrow (Nat.le_refl _) (by intro k h; cases h)) hgrow2 hgrow.size (by intro k h; cases h; exact Nat.le_refl _)))
  have TP8 : TP g false b off l w6.heap.size w8 := ⟨(B8.block g G6).trans R6, HS6.out.below B8, G6, HB6.out, l, HZ.out, hown2⟩
  have BX := below_trans B6 B8
  have HH : w.heap.size ≤ w6.heap.size := B6.size
  obtain ⟨P, p8, pb, pd, ⟨s0, s1, s2, s3, s4, s5, s6, s7, s8⟩, pa, pf, po, ps, pg⟩ := key_s g b off l w6.heap.size HZ.out w8 TP8
  clear TP8 R6 B6 B8 hown hgrow hgrow2 HS6 HB6 G6 G0
  generalize w6.heap.size = h at *
  obtain ⟨vf, poC⟩ := po 13 (by omega)
  obtain ⟨vg, po0⟩ := po 0 (by omega)
  have pa0 : ∀ w, P w → w.cell? ⟨b, off, none⟩ = some (.int .u64 (l.getD 0 0)) := fun w q => pa w 0 (by omega) q
  have PV : Hid (∀ w, P w → w.cell? ⟨b, off + 10, none⟩ = some (.int .u64 (l.getD 10 0))) := fun w q => pa w 10 (by omega) q
  have HC : Hid (∀ w, P w → Calls Try.prog 58 #[.int .i64 k, .bool i] w fun e w' => e = .returned (.int .u64 (toldV k i)) ∧ Below w.heap.size w w' ∧ P w') := fun w q => (causeWord_any k hk i w).mono fun e w' h => ⟨h.1, by rw [h.2]; exact Below.refl _ _, by rw [h.2]; exact q⟩
  have HE : Hid (∀ w, P w → Calls Try.prog 59 #[.agg #[.int .i64 1, .int .i64 10, .int .i64 12, .int .i64 13, .int .i64 14, .int .i64 1, .int .i64 5, .int .i64 8, .int .i64 1], .int .u64 (l.getD 0 0), .int .i64 p] w fun e w' => e = .returned (.int .u64 (statS (l.getD 0 0) (p == 1))) ∧ Below w.heap.size w w' ∧ P w') := by
    intro w q
    refine Calls.mono ?_ (fun e w' (h : e = .returned (.int .u64 (statS (l.getD 0 0) (p == 1))) ∧ Below w.heap.size w w') => ⟨h.1, h.2, pb _ _ q h.2⟩)
    rcases hp01 with rfl | rfl
    · exact entered_s0 (l.getD 0 0) (HU.out 0) w
    · exact entered_s1 (l.getD 0 0) (HU.out 0) w
  have HV : Hid (∀ w, Calls Try.prog 60 #[.int .u64 (l.getD 10 0), .int .i64 k, .bool i] w fun e w' => e = .returned (.int .u64 (enterAt (l.getD 10 0) k (i && (bits .and .u64 (l.getD 10 0) 1 == 1)))) ∧ ∃ m, w' = w.drewN m) := fun w => (vectorFor_any (l.getD 10 0) k hk i w).mono fun e w' h => ⟨h.1, 0, h.2⟩
  generalize enterAt (l.getD 10 0) k (i && (bits .and .u64 (l.getD 10 0) 1 == 1)) = av at *
  generalize toldV k i = t at *
  generalize statS (l.getD 0 0) (p == 1) = sv at *
  generalize l.getD 0 0 = x0 at *
  have KSC : Hid (∀ w, P w → ((w.cell? ⟨g, 0, none⟩ = some (.int .i64 1) ∧ w.cell? ⟨g, 1, none⟩ = some (.int .i64 10) ∧ w.cell? ⟨g, 2, none⟩ = some (.int .i64 12) ∧ w.cell? ⟨g, 3, none⟩ = some (.int .i64 13) ∧ w.cell? ⟨g, 4, none⟩ = some (.int .i64 14) ∧ w.cell? ⟨g, 5, none⟩ = some (.int .i64 1) ∧ w.cell? ⟨g, 6, none⟩ = some (.int .i64 5) ∧ w.cell? ⟨g, 7, none⟩ = some (.int .i64 8) ∧ w.cell? ⟨g, 8, none⟩ = some (.int .i64 1)) ∧ w.cell? ⟨b, off, none⟩ = some (.int .u64 x0) ∧ w.cell? ⟨h, 13, none⟩ = some (vf w) ∧ w.frozen? ⟨h, 13, none⟩ = false ∧ P w)) := fun w q => ⟨⟨s0 w q, s1 w q, s2 w q, s3 w q, s4 w q, s5 w q, s6 w q, s7 w q, s8 w q⟩, pa0 w q, poC w q, pf w 13 q, q⟩
  have KS0 : Hid (∀ w, P w → ((w.cell? ⟨g, 0, none⟩ = some (.int .i64 1) ∧ w.cell? ⟨g, 1, none⟩ = some (.int .i64 10) ∧ w.cell? ⟨g, 2, none⟩ = some (.int .i64 12) ∧ w.cell? ⟨g, 3, none⟩ = some (.int .i64 13) ∧ w.cell? ⟨g, 4, none⟩ = some (.int .i64 14) ∧ w.cell? ⟨g, 5, none⟩ = some (.int .i64 1) ∧ w.cell? ⟨g, 6, none⟩ = some (.int .i64 5) ∧ w.cell? ⟨g, 7, none⟩ = some (.int .i64 8) ∧ w.cell? ⟨g, 8, none⟩ = some (.int .i64 1)) ∧ w.cell? ⟨b, off, none⟩ = some (.int .u64 x0) ∧ w.cell? ⟨h, 0, none⟩ = some (vg w) ∧ w.frozen? ⟨h, 0, none⟩ = false ∧ P w)) := fun w q => ⟨⟨s0 w q, s1 w q, s2 w q, s3 w q, s4 w q, s5 w q, s6 w q, s7 w q, s8 w q⟩, pa0 w q, po0 w q, pf w 0 q, q⟩
  generalize l.getD 10 0 = xv at *
  have PD : Hid (∀ w, P w → P w.drew) := pd
  have PS : Hid (∀ w k x, P w → P (w.setCell ⟨h, k, none⟩ (.int .u64 x))) := ps
  have PG : Hid (∀ w w' vs, P w → Own w' h h 22 vs → w.grownBy w' (some h) → P w') := pg
  have S0 : Hid (∀ w, P w → w.cell? ⟨g, 0, none⟩ = some (.int .i64 1)) := s0
  have S1 : Hid (∀ w, P w → w.cell? ⟨g, 1, none⟩ = some (.int .i64 10)) := s1
  have S2 : Hid (∀ w, P w → w.cell? ⟨g, 2, none⟩ = some (.int .i64 12)) := s2
  have S4 : Hid (∀ w, P w → w.cell? ⟨g, 4, none⟩ = some (.int .i64 14)) := s4
  have HP8 : Hid (P w8) := p8
  clear pd ps pa pa0 po po0 poC pf pg pb s0 s1 s2 s3 s4 s5 s6 s7 s8
  have pcE : Hid (bits .and .u64 pc 18446744073709551612 = bits .andNot .u64 pc 3) := pc_eq pc
  go_region_held3 (fun w' => (w'.cell? ⟨g, 0, none⟩ = some (.int .i64 1) ∧ w'.cell? ⟨g, 1, none⟩ = some (.int .i64 10) ∧ w'.cell? ⟨g, 2, none⟩ = some (.int .i64 12) ∧ w'.cell? ⟨g, 3, none⟩ = some (.int .i64 13) ∧ w'.cell? ⟨g, 4, none⟩ = some (.int .i64 14) ∧ w'.cell? ⟨g, 5, none⟩ = some (.int .i64 1) ∧ w'.cell? ⟨g, 6, none⟩ = some (.int .i64 5) ∧ w'.cell? ⟨g, 7, none⟩ = some (.int .i64 8) ∧ w'.cell? ⟨g, 8, none⟩ = some (.int .i64 1)) ∧ w'.cell? ⟨b, off, none⟩ = some (.int .u64 x0) ∧ w'.cell? ⟨h, 13, none⟩ = some (vf w') ∧ w'.frozen? ⟨h, 13, none⟩ = false ∧ P w') (first | exact KSC.out _ (PD.out _ (by assumption)) | exact KSC.out _ (by assumption) | exact KSC.out _ (PS.out _ _ _ (by assumption))) (first | (go_at_call 58; with_reducible refine (HC.out _ ?_).mono ?_; (first | assumption | (exact PD.out _ (by assumption))); rintro e w9 ⟨rfl, hb9, p9⟩))
  have B10 : Below w.heap.size w (w9.setCell ⟨h, 13, none⟩ (.int .u64 t)) := Below.setCell (p := ⟨h, 13, none⟩) (below_trans BX.drew hb9) HH _
  have O10 := ((ownsRow_below (ownsRow_below hown2 (Below.refl _ _).drew) hb9).stored 13 (.int .u64 t)).1
  have p10 : P (w9.setCell ⟨h, 13, none⟩ (.int .u64 t)) := PS.out _ _ _ p9
  rw [map_set_u64] at O10
  generalize w9.setCell ⟨h, 13, none⟩ (.int .u64 t) = w10 at *
  have OW10 : Hid (Own w10 h h 22 (l.set 13 t)) := O10
  have c2 := S2.out _ p10
  clear BX hown2 hb9 HC p8 p9 KSC O10
  go_wp2_with (first
    | (refine wpList_put rfl (.tmp 53) (.tmp 52) rfl rfl OW10.out 12 (by omega) _ rfl rfl ?_; intro w11 o11 g11; have OW11 : Hid (Own w11 _ _ _ _) := o11; have p11 := PG.out _ _ _ p10 o11 g11; have c4 := S4.out _ p11; have B11 : Below w.heap.size w w11 := Below.grown B10 g11 B10.size (by intro k e; cases e; exact HH); clear o11 g11)
    | (refine wpList_put rfl (.tmp 58) (.tmp 57) rfl rfl OW11.out 14 (by omega) _ rfl rfl ?_; intro w12 o12 g12; have OW12 : Hid (Own w12 _ _ _ _) := o12; have p12 := PG.out _ _ _ p11 o12 g12; have B12 : Below w.heap.size w w12 := Below.grown B11 g12 B11.size (by intro k e; cases e; exact HH); clear o12 g12))
  rw [pcE.out] at OW12
  clear OW10 OW11 B10 B11 p10 p11 c2 c4
  go_region_held3 (fun w' => (w'.cell? ⟨g, 0, none⟩ = some (.int .i64 1) ∧ w'.cell? ⟨g, 1, none⟩ = some (.int .i64 10) ∧ w'.cell? ⟨g, 2, none⟩ = some (.int .i64 12) ∧ w'.cell? ⟨g, 3, none⟩ = some (.int .i64 13) ∧ w'.cell? ⟨g, 4, none⟩ = some (.int .i64 14) ∧ w'.cell? ⟨g, 5, none⟩ = some (.int .i64 1) ∧ w'.cell? ⟨g, 6, none⟩ = some (.int .i64 5) ∧ w'.cell? ⟨g, 7, none⟩ = some (.int .i64 8) ∧ w'.cell? ⟨g, 8, none⟩ = some (.int .i64 1)) ∧ w'.cell? ⟨b, off, none⟩ = some (.int .u64 x0) ∧ w'.cell? ⟨h, 0, none⟩ = some (vg w') ∧ w'.frozen? ⟨h, 0, none⟩ = false ∧ P w') (first | exact KS0.out _ (PD.out _ (by assumption)) | exact KS0.out _ (by assumption) | exact KS0.out _ (PS.out _ _ _ (by assumption))) (first | (go_at_call 59; with_reducible refine (HE.out _ ?_).mono ?_; (first | assumption | (exact PD.out _ (by assumption))); rintro e w13 ⟨rfl, hb13, p13⟩))
  have B14 : Below w.heap.size w (w13.setCell ⟨h, 0, none⟩ (.int .u64 sv)) := Below.setCell (p := ⟨h, 0, none⟩) (below_trans B12.drew hb13) HH _
  have O14 := ((ownsRow_below (ownsRow_below OW12.out (Below.refl _ _).drew) hb13).stored 0 (.int .u64 sv)).1
  have p14 : P (w13.setCell ⟨h, 0, none⟩ (.int .u64 sv)) := PS.out _ _ _ p13
  rw [map_set_u64] at O14
  generalize w13.setCell ⟨h, 0, none⟩ (.int .u64 sv) = w14 at *
  have ce := PV.out _ p14
  have cs := S1.out _ p14
  have ct := S0.out _ p14
  clear B12 OW12 hb13 HE p12 p13 p14 KS0
  go_wp2_with fail
  go_quiet (first | (go_at_call 60; with_reducible refine Calls.quiet_of (HV.out _)))
  go_wp2_with fail
  refine bodyPost_ret (results_t4 Try.results22 _ _ _) rfl ?_
  refine ⟨some ⟨h, 0, none⟩, 22, ?_⟩
  rw [F.out.1, F.out.2.1, F.out.2.2.1, F.out.2.2.2.1, F.out.2.2.2.2]
  exact ⟨rfl, own_lower (ownsRow_below O14 (below_dN' (Below.refl _ _) _)) HH, below_dN' B14 _⟩

set_option maxRecDepth 100000 in
set_option maxHeartbeats 3200000 in
theorem enter_dm (b off cap : Nat) (l : List Int) (p pc : Int) (k : Nat) (i : Bool) (v : Int) (w : World) (hz : l.length = 22) (hs : Sl .u64 w (some ⟨b, off, none⟩) l) (hl : ∀ j, U (l.getD j 0)) (hok : legalB 22 l p = true) (hk : k < 16) (hd0 : delegB l p k i = false) :
    Calls Try.prog 22 #[.slice (some ⟨b, off, none⟩) 22 cap, .int .i64 p, .int .u64 pc, .int .i64 k, .bool i, .int .u64 v] w fun e w' => ∃ (a' : Option Addr) (c : Nat),
      e = .returned (.tuple #[.slice a' (entL 22 l p pc k i v).length c, .int .i64 (entP 22 l p k i), .int .u64 (entA 22 l p k i), .bool (entB 22 l p k)]) ∧
      w'.ownsRow w.heap.size 24 1 (.slice a' (entL 22 l p pc k i v).length c) (entL 22 l p pc k i v).length ((entL 22 l p pc k i v).map (Value.int .u64)) ∧ Below w.heap.size w w' := by
  have hpv := (legalB_parts hok).2
  have hin : inB (k : Int) = true := by simp [inB]; omega
  have B0 : entB 22 l p k = true := by simp [entB, hin, hok]
  have F : Hid (entL 22 l p pc k i v = (((l.set 7 (toldV k i)).set 6 (bits .andNot .u64 pc 3)).set 8 v).set 0 (statM (l.getD 0 0) p) ∧ entP 22 l p k i = 3 ∧ entA 22 l p k i = enterAt (l.getD 4 0) k (i && (bits .and .u64 (l.getD 4 0) 1 == 1)) ∧ entB 22 l p k = true ∧ ((((l.set 7 (toldV k i)).set 6 (bits .andNot .u64 pc 3)).set 8 v).set 0 (statM (l.getD 0 0) p)).length = 22) := by
    refine ⟨?_, ?_, ?_, B0, by simp [hz]⟩
    · unfold entL; rw [B0, Int.toNat_natCast, hd0]; rfl
    · unfold entP; rw [B0, Int.toNat_natCast, hd0]; rfl
    · unfold entA; rw [B0, Int.toNat_natCast, hd0]; rfl
  have dk1 : decide ((k : Int) < 0) = false := decide_eq_false (by omega)
  have dk2 : decide ((k : Int) ≥ 16) = false := decide_eq_false (by omega)
  obtain ⟨hb, -⟩ := sl_at hs 0 (by omega)
  have SS : Hid (∀ w, Calls Try.prog 57 #[] w fun e w' => e = .returned (.agg (sideC false)) ∧ Below w.heap.size w w') := supervisorSide_any
  have SM : Hid (∀ w, Calls Try.prog 55 #[] w fun e w' => e = .returned (.agg #[.int .i64 3, .int .i64 4, .int .i64 6, .int .i64 7, .int .i64 8, .int .i64 3, .int .i64 7, .int .i64 11, .int .i64 2]) ∧ Below w.heap.size w w') := machineSide_any
  have HSl : Hid (Sl .u64 w (some ⟨b, off, none⟩) l) := hs
  have HL : Hid (Calls Try.prog 54 #[.slice (some ⟨b, off, none⟩) 22 cap, .int .i64 p] w fun e w' => e = .returned (.bool true) ∧ Below w.heap.size w w') := by
    have := implLegal_any (some ⟨b, off, none⟩) 22 cap l p w hz hs hl
    rw [hok] at this
    exact this
  obtain ⟨i0, hi, hz0, hz1, hz2⟩ := info_parts infoW
  have hsz5 : (Try.prog.info? 24).map (·.size) = some 1 := by rw [hi]; simp [hz1]
  have hb2 : i0.bytes * 22 ≤ 281474976710656 := by rw [hz2]; omega
  have hb3 : 22 ≤ maxLen := by unfold maxLen; omega
  have HZ : Hid (l.length = 22) := hz
  have HU : Hid (∀ j, U (l.getD j 0)) := hl
  have hd : Hid (delegB l p k i = false) := hd0
  clear hz2 hs hz hl hok B0 hin hd0
  go_enter Try.func22, Try.ntmps22
  go_wp2_with fail
  refine HL.out.mono ?_
  rintro e w1 ⟨rfl, B1⟩
  go_wp2_with fail
  refine (SM.out _).mono ?_
  rintro e w2 ⟨rfl, hb2⟩
  have B2 := below_trans B1 hb2
  have R3 : (w2.alloc (.cells #[.int .i64 3, .int .i64 4, .int .i64 6, .int .i64 7, .int .i64 8, .int .i64 3, .int .i64 7, .int .i64 11, .int .i64 2] 89)).heap[w2.heap.size]? = some (.cells (sideC true) 89 (0, 0)) := heap_alloc_new _ _
  have B3 : Below w.heap.size w (w2.alloc (.cells #[.int .i64 3, .int .i64 4, .int .i64 6, .int .i64 7, .int .i64 8, .int .i64 3, .int .i64 7, .int .i64 11, .int .i64 2] 89)) := B2.alloc B2.size _
  have G3 : w2.heap.size < (w2.alloc (.cells #[.int .i64 3, .int .i64 4, .int .i64 6, .int .i64 7, .int .i64 8, .int .i64 3, .int .i64 7, .int .i64 11, .int .i64 2] 89)).heap.size := by simp
  have G0 : w.heap.size ≤ w2.heap.size := B2.size
  go_wp2_with fail
  generalize w2.alloc (.cells #[.int .i64 3, .int .i64 4, .int .i64 6, .int .i64 7, .int .i64 8, .int .i64 3, .int .i64 7, .int .i64 11, .int .i64 2] 89) = w3 at *
  generalize w2.heap.size = g at *
  clear hb2 B1 B2
  have hs3 := HSl.out.below B3
  refine (handsOver_any b off cap l p k hk i w3 (sl_at hs3 1 (by rw [HZ.out]; omega)).2 (sl_at hs3 2 (by rw [HZ.out]; omega)).2 (HU.out 1) (HU.out 2)).mono ?_
  rw [hd.out]
  rintro e w4 ⟨rfl, hb4⟩
  have R4 := (hb4.block g G3).trans R3
  have B4 := below_trans B3 hb4
  have G4 : g < w4.heap.size := Nat.lt_of_lt_of_le G3 hb4.size
  clear hs3 hb4 R3 B3 G3
  have w6 := w4
  clear w6
  have R6 := R4
  have B6 := B4
  have G6 := G4
  clear R4 B4 G4
  generalize w4 = w6 at *
  have HS6 : Hid (Sl .u64 w6 (some ⟨b, off, none⟩) l) := HSl.out.below B6
  have HB6 : Hid (b < w6.heap.size) := Nat.lt_of_lt_of_le hb B6.size
  go_wp2_with (first | (at_make; refine wpList_make_full _ rfl (.const (.int .i64 22)) (.const (.int .i64 22)) 30 rfl w6.heap.size 24 i0 (.int .u64 0) 1 Try.underlying30 hi hz0 hz1 .i64 .i64 _ _ 22 rfl rfl rfl rfl hb2 hb3 (Nat.le_refl _) ?_; intro w7 hown hgrow) | (refine wpList_copy_full rfl (.tmp 38) (.tmp 39) 30 rfl 24 Try.underlying30 hsz5 .u64 w6.heap.size w6.heap.size 22 22 b off cap l _ rfl rfl hown (HS6.out.below ((Below.refl _ _).grown hgrow (Nat.le_refl _) (by intro k h; cases h))) HZ.out ?_; intro w8 hown2 hgrow2; have B8 : Below w6.heap.size w6 w8 := Below.grown ((Below.refl _ _).grown hgrow (Nat.le_refl _) (by intro k h; cases h)) hgrow2 hgrow.size (by intro k h; cases h; exact Nat.le_refl _)))
  have TP8 : TP g true b off l w6.heap.size w8 := ⟨(B8.block g G6).trans R6, HS6.out.below B8, G6, HB6.out, l, HZ.out, hown2⟩
  have BX := below_trans B6 B8
  have HH : w.heap.size ≤ w6.heap.size := B6.size
  obtain ⟨P, p8, pb, pd, ⟨s0, s1, s2, s3, s4, s5, s6, s7, s8⟩, pa, pf, po, ps, pg⟩ := key_m g b off l w6.heap.size HZ.out w8 TP8
  clear TP8 R6 B6 B8 hown hgrow hgrow2 HS6 HB6 G6 G0
  generalize w6.heap.size = h at *
  obtain ⟨vf, poC⟩ := po 7 (by omega)
  obtain ⟨vg, po0⟩ := po 0 (by omega)
  have pa0 : ∀ w, P w → w.cell? ⟨b, off, none⟩ = some (.int .u64 (l.getD 0 0)) := fun w q => pa w 0 (by omega) q
  have PV : Hid (∀ w, P w → w.cell? ⟨b, off + 4, none⟩ = some (.int .u64 (l.getD 4 0))) := fun w q => pa w 4 (by omega) q
  have HC : Hid (∀ w, P w → Calls Try.prog 58 #[.int .i64 k, .bool i] w fun e w' => e = .returned (.int .u64 (toldV k i)) ∧ Below w.heap.size w w' ∧ P w') := fun w q => (causeWord_any k hk i w).mono fun e w' h => ⟨h.1, by rw [h.2]; exact Below.refl _ _, by rw [h.2]; exact q⟩
  have HE : Hid (∀ w, P w → Calls Try.prog 59 #[.agg #[.int .i64 3, .int .i64 4, .int .i64 6, .int .i64 7, .int .i64 8, .int .i64 3, .int .i64 7, .int .i64 11, .int .i64 2], .int .u64 (l.getD 0 0), .int .i64 p] w fun e w' => e = .returned (.int .u64 (statM (l.getD 0 0) p)) ∧ Below w.heap.size w w' ∧ P w') := fun w q => (entered_m (l.getD 0 0) p hpv (HU.out 0) w).mono fun e w' h => ⟨h.1, h.2, pb _ _ q h.2⟩
  have HV : Hid (∀ w, Calls Try.prog 60 #[.int .u64 (l.getD 4 0), .int .i64 k, .bool i] w fun e w' => e = .returned (.int .u64 (enterAt (l.getD 4 0) k (i && (bits .and .u64 (l.getD 4 0) 1 == 1)))) ∧ ∃ m, w' = w.drewN m) := fun w => (vectorFor_any (l.getD 4 0) k hk i w).mono fun e w' h => ⟨h.1, 0, h.2⟩
  generalize enterAt (l.getD 4 0) k (i && (bits .and .u64 (l.getD 4 0) 1 == 1)) = av at *
  generalize toldV k i = t at *
  generalize statM (l.getD 0 0) p = sv at *
  generalize l.getD 0 0 = x0 at *
  have KSC : Hid (∀ w, P w → ((w.cell? ⟨g, 0, none⟩ = some (.int .i64 3) ∧ w.cell? ⟨g, 1, none⟩ = some (.int .i64 4) ∧ w.cell? ⟨g, 2, none⟩ = some (.int .i64 6) ∧ w.cell? ⟨g, 3, none⟩ = some (.int .i64 7) ∧ w.cell? ⟨g, 4, none⟩ = some (.int .i64 8) ∧ w.cell? ⟨g, 5, none⟩ = some (.int .i64 3) ∧ w.cell? ⟨g, 6, none⟩ = some (.int .i64 7) ∧ w.cell? ⟨g, 7, none⟩ = some (.int .i64 11) ∧ w.cell? ⟨g, 8, none⟩ = some (.int .i64 2)) ∧ w.cell? ⟨b, off, none⟩ = some (.int .u64 x0) ∧ w.cell? ⟨h, 7, none⟩ = some (vf w) ∧ w.frozen? ⟨h, 7, none⟩ = false ∧ P w)) := fun w q => ⟨⟨s0 w q, s1 w q, s2 w q, s3 w q, s4 w q, s5 w q, s6 w q, s7 w q, s8 w q⟩, pa0 w q, poC w q, pf w 7 q, q⟩
  have KS0 : Hid (∀ w, P w → ((w.cell? ⟨g, 0, none⟩ = some (.int .i64 3) ∧ w.cell? ⟨g, 1, none⟩ = some (.int .i64 4) ∧ w.cell? ⟨g, 2, none⟩ = some (.int .i64 6) ∧ w.cell? ⟨g, 3, none⟩ = some (.int .i64 7) ∧ w.cell? ⟨g, 4, none⟩ = some (.int .i64 8) ∧ w.cell? ⟨g, 5, none⟩ = some (.int .i64 3) ∧ w.cell? ⟨g, 6, none⟩ = some (.int .i64 7) ∧ w.cell? ⟨g, 7, none⟩ = some (.int .i64 11) ∧ w.cell? ⟨g, 8, none⟩ = some (.int .i64 2)) ∧ w.cell? ⟨b, off, none⟩ = some (.int .u64 x0) ∧ w.cell? ⟨h, 0, none⟩ = some (vg w) ∧ w.frozen? ⟨h, 0, none⟩ = false ∧ P w)) := fun w q => ⟨⟨s0 w q, s1 w q, s2 w q, s3 w q, s4 w q, s5 w q, s6 w q, s7 w q, s8 w q⟩, pa0 w q, po0 w q, pf w 0 q, q⟩
  generalize l.getD 4 0 = xv at *
  have PD : Hid (∀ w, P w → P w.drew) := pd
  have PS : Hid (∀ w k x, P w → P (w.setCell ⟨h, k, none⟩ (.int .u64 x))) := ps
  have PG : Hid (∀ w w' vs, P w → Own w' h h 22 vs → w.grownBy w' (some h) → P w') := pg
  have S0 : Hid (∀ w, P w → w.cell? ⟨g, 0, none⟩ = some (.int .i64 3)) := s0
  have S1 : Hid (∀ w, P w → w.cell? ⟨g, 1, none⟩ = some (.int .i64 4)) := s1
  have S2 : Hid (∀ w, P w → w.cell? ⟨g, 2, none⟩ = some (.int .i64 6)) := s2
  have S4 : Hid (∀ w, P w → w.cell? ⟨g, 4, none⟩ = some (.int .i64 8)) := s4
  have HP8 : Hid (P w8) := p8
  clear pd ps pa pa0 po po0 poC pf pg pb s0 s1 s2 s3 s4 s5 s6 s7 s8
  have pcE : Hid (bits .and .u64 pc 18446744073709551612 = bits .andNot .u64 pc 3) := pc_eq pc
  go_region_held3 (fun w' => (w'.cell? ⟨g, 0, none⟩ = some (.int .i64 3) ∧ w'.cell? ⟨g, 1, none⟩ = some (.int .i64 4) ∧ w'.cell? ⟨g, 2, none⟩ = some (.int .i64 6) ∧ w'.cell? ⟨g, 3, none⟩ = some (.int .i64 7) ∧ w'.cell? ⟨g, 4, none⟩ = some (.int .i64 8) ∧ w'.cell? ⟨g, 5, none⟩ = some (.int .i64 3) ∧ w'.cell? ⟨g, 6, none⟩ = some (.int .i64 7) ∧ w'.cell? ⟨g, 7, none⟩ = some (.int .i64 11) ∧ w'.cell? ⟨g, 8, none⟩ = some (.int .i64 2)) ∧ w'.cell? ⟨b, off, none⟩ = some (.int .u64 x0) ∧ w'.cell? ⟨h, 7, none⟩ = some (vf w') ∧ w'.frozen? ⟨h, 7, none⟩ = false ∧ P w') (first | exact KSC.out _ (PD.out _ (by assumption)) | exact KSC.out _ (by assumption) | exact KSC.out _ (PS.out _ _ _ (by assumption))) (first | (go_at_call 58; with_reducible refine (HC.out _ ?_).mono ?_; (first | assumption | (exact PD.out _ (by assumption))); rintro e w9 ⟨rfl, hb9, p9⟩))
  have B10 : Below w.heap.size w (w9.setCell ⟨h, 7, none⟩ (.int .u64 t)) := Below.setCell (p := ⟨h, 7, none⟩) (below_trans BX.drew hb9) HH _
  have O10 := ((ownsRow_below (ownsRow_below hown2 (Below.refl _ _).drew) hb9).stored 7 (.int .u64 t)).1
  have p10 : P (w9.setCell ⟨h, 7, none⟩ (.int .u64 t)) := PS.out _ _ _ p9
  rw [map_set_u64] at O10
  generalize w9.setCell ⟨h, 7, none⟩ (.int .u64 t) = w10 at *
  have OW10 : Hid (Own w10 h h 22 (l.set 7 t)) := O10
  have c2 := S2.out _ p10
  clear BX hown2 hb9 HC p8 p9 KSC O10
  go_wp2_with (first
    | (refine wpList_put rfl (.tmp 53) (.tmp 52) rfl rfl OW10.out 6 (by omega) _ rfl rfl ?_; intro w11 o11 g11; have OW11 : Hid (Own w11 _ _ _ _) := o11; have p11 := PG.out _ _ _ p10 o11 g11; have c4 := S4.out _ p11; have B11 : Below w.heap.size w w11 := Below.grown B10 g11 B10.size (by intro k e; cases e; exact HH); clear o11 g11)
    | (refine wpList_put rfl (.tmp 58) (.tmp 57) rfl rfl OW11.out 8 (by omega) _ rfl rfl ?_; intro w12 o12 g12; have OW12 : Hid (Own w12 _ _ _ _) := o12; have p12 := PG.out _ _ _ p11 o12 g12; have B12 : Below w.heap.size w w12 := Below.grown B11 g12 B11.size (by intro k e; cases e; exact HH); clear o12 g12))
  rw [pcE.out] at OW12
  clear OW10 OW11 B10 B11 p10 p11 c2 c4
  go_region_held3 (fun w' => (w'.cell? ⟨g, 0, none⟩ = some (.int .i64 3) ∧ w'.cell? ⟨g, 1, none⟩ = some (.int .i64 4) ∧ w'.cell? ⟨g, 2, none⟩ = some (.int .i64 6) ∧ w'.cell? ⟨g, 3, none⟩ = some (.int .i64 7) ∧ w'.cell? ⟨g, 4, none⟩ = some (.int .i64 8) ∧ w'.cell? ⟨g, 5, none⟩ = some (.int .i64 3) ∧ w'.cell? ⟨g, 6, none⟩ = some (.int .i64 7) ∧ w'.cell? ⟨g, 7, none⟩ = some (.int .i64 11) ∧ w'.cell? ⟨g, 8, none⟩ = some (.int .i64 2)) ∧ w'.cell? ⟨b, off, none⟩ = some (.int .u64 x0) ∧ w'.cell? ⟨h, 0, none⟩ = some (vg w') ∧ w'.frozen? ⟨h, 0, none⟩ = false ∧ P w') (first | exact KS0.out _ (PD.out _ (by assumption)) | exact KS0.out _ (by assumption) | exact KS0.out _ (PS.out _ _ _ (by assumption))) (first | (go_at_call 59; with_reducible refine (HE.out _ ?_).mono ?_; (first | assumption | (exact PD.out _ (by assumption))); rintro e w13 ⟨rfl, hb13, p13⟩))
  have B14 : Below w.heap.size w (w13.setCell ⟨h, 0, none⟩ (.int .u64 sv)) := Below.setCell (p := ⟨h, 0, none⟩) (below_trans B12.drew hb13) HH _
  have O14 := ((ownsRow_below (ownsRow_below OW12.out (Below.refl _ _).drew) hb13).stored 0 (.int .u64 sv)).1
  have p14 : P (w13.setCell ⟨h, 0, none⟩ (.int .u64 sv)) := PS.out _ _ _ p13
  rw [map_set_u64] at O14
  generalize w13.setCell ⟨h, 0, none⟩ (.int .u64 sv) = w14 at *
  have ce := PV.out _ p14
  have cs := S1.out _ p14
  have ct := S0.out _ p14
  clear B12 OW12 hb13 HE p12 p13 p14 KS0
  go_wp2_with fail
  go_quiet (first | (go_at_call 60; with_reducible refine Calls.quiet_of (HV.out _)))
  go_wp2_with fail
  refine bodyPost_ret (results_t4 Try.results22 _ _ _) rfl ?_
  refine ⟨some ⟨h, 0, none⟩, 22, ?_⟩
  rw [F.out.1, F.out.2.1, F.out.2.2.1, F.out.2.2.2.1, F.out.2.2.2.2]
  exact ⟨rfl, own_lower (ownsRow_below O14 (below_dN' (Below.refl _ _) _)) HH, below_dN' B14 _⟩

theorem implEnter_any (a : Option Addr) (n cap : Nat) (l : List Int) (p pc k : Int) (i : Bool) (v : Int) (w : World) (hz : l.length = n) (hs : Sl .u64 w a l) (hl : ∀ j, U (l.getD j 0)) :
    Calls Try.prog 22 #[.slice a n cap, .int .i64 p, .int .u64 pc, .int .i64 k, .bool i, .int .u64 v] w fun e w' => ∃ (a' : Option Addr) (c : Nat),
      e = .returned (.tuple #[.slice a' (entL n l p pc k i v).length c, .int .i64 (entP n l p k i), .int .u64 (entA n l p k i), .bool (entB n l p k)]) ∧
      w'.ownsRow w.heap.size 24 1 (.slice a' (entL n l p pc k i v).length c) (entL n l p pc k i v).length ((entL n l p pc k i v).map (Value.int .u64)) ∧ Below w.heap.size w w' := by
  cases hok : legalB n l p with
  | false => exact enter_0 a n cap l p pc k i v w hz hs hl hok
  | true =>
    cases d : decide (k < 0) with
    | true => exact enter_1 a n cap l p pc k i v w hz hs hl hok d
    | false =>
      cases d2 : decide (k ≥ 16) with
      | true => exact enter_2 a n cap l p pc k i v w hz hs hl hok d d2
      | false =>
        have hn := (legalB_parts hok).1
        subst hn
        obtain ⟨b, off, rfl, hblt, hc0⟩ := hs 0 (by omega)
        have h0 : ¬ k < 0 := by simpa using d
        have h1 : ¬ k ≥ 16 := by simpa using d2
        obtain ⟨j, rfl⟩ : ∃ j : Nat, k = (j : Int) := ⟨k.toNat, by omega⟩
        cases hd : delegB l p j i with
        | true => exact enter_ds b off cap l p pc j i v w hz hs hl hok (by omega) hd
        | false => exact enter_dm b off cap l p pc j i v w hz hs hl hok (by omega) hd

end Go.Proofs.Ytgcbdlfljplkbab
