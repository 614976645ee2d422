/- The program's reading of a word's fields: readFields. -/
import Derived.Test.YtjjpklalihaanaaDoorDecI
namespace Go.Proofs.YtjjpklalihaanaaDoor
open Go.RowKit
set_option linter.unusedVariables false

/-- The pieces of Imm put together, one after the other. -/
def immF (x : Int) (l : List (Nat × Nat × Nat)) : Int := l.foldl (fun acc p => bits .or .u64 acc (IntKind.u64.wrap (fld x p.1 p.2.1 * 2 ^ p.2.2))) 0

def rdV (f : Fm) (x : Int) : Int := if f.hasRd then fld x 7 5 else 0

def aV (f : Fm) (x : Int) : Int := if f.hasA then fld x 15 5 else 0

def bV (f : Fm) (x : Int) : Int := if f.hasB then fld x 20 5 else 0

theorem immF_snoc (x : Int) (l : List (Nat × Nat × Nat)) (k : Nat) (h : k < l.length) : bits .or .u64 (immF x (l.take k)) (IntKind.u64.wrap (fld x (l.getD k (0, 0, 0)).1 (l.getD k (0, 0, 0)).2.1 * 2 ^ (l.getD k (0, 0, 0)).2.2)) = immF x (l.take (k + 1)) := by
  have e : l.getD k (0, 0, 0) = l[k] := by simp [List.getD, h]
  rw [e, List.take_succ_eq_append_getElem h]
  simp only [immF, List.foldl_append, List.foldl_cons, List.foldl_nil]

theorem PcsAt.below {w w' : World} {p : Option Addr} {l : List (Nat × Nat × Nat)} (h : PcsAt w p l) (hb : Below w.heap.size w w') : PcsAt w' p l := by
  intro k hk
  obtain ⟨g, e, hg, c0, c1, c2⟩ := h k hk
  exact ⟨g, e, Nat.lt_of_lt_of_le hg hb.size, (hb.cell (by exact hg)).trans c0, (hb.cell (by exact hg)).trans c1, (hb.cell (by exact hg)).trans c2⟩

theorem keep_some {w w' : World} (hb : Below w.heap.size w w') {g : Nat} {o : Obj} (h : w.heap[g]? = some o) : w'.heap[g]? = some o := by
  rw [hb.block g ?_]
  · exact h
  · obtain ⟨h1, _⟩ := Array.getElem?_eq_some_iff.1 h; exact h1

theorem below_drewN {B : Nat} {a w : World} (h : Below B a w) (n : Nat) : Below B a (w.drewN n) := ⟨h.os, h.tape, h.output, h.size, h.block⟩

theorem bitsAt_q (x : Int) (k n : Nat) (h0 : 0 ≤ x) (h1 : x < 18446744073709551616) (hk : k < 64) (hn : n < 64) (w : World) :
    Calls Tryd.prog 57 #[.int .u64 x, .int .i64 k, .int .i64 n] w fun e w' => e = .returned (.int .u64 (fld x k n)) ∧ ∃ m, w' = w.drewN m :=
  (bitsAt_any x k n h0 h1 hk hn w).mono fun _ _ h => ⟨h.1, 1, h.2⟩

theorem inst_one (a b c d e : Int) : (#[Value.int .i64 a, .int .i64 b, .int .i64 c, .int .i64 d, .int .i64 e] : Array Value).all (·.oneCell') = true := by
  simp [Value.oneCell']

theorem inst_size : (Tryd.prog.info? 30).map (·.size) = some 5 := by kernel_rfl

set_option maxHeartbeats 1600000 in
theorem readFields_any (op : Int) (f : Fm) (x : Int) (h0 : 0 ≤ x) (h1 : x < 18446744073709551616) (w : World) :
    Calls Tryd.prog 27 #[.int .i64 op, .string f.str, .int .u64 x] w fun e w' => e = .returned (.agg #[.int .i64 op, .int .i64 (rdV f x), .int .i64 (aV f x), .int .i64 (bV f x), .int .i64 (wrap64 (widen f.width (immF x f.pcs)))]) ∧ Below w.heap.size w w' := by
  have hfo := fieldsOf_any f
  obtain ⟨b1, hb1⟩ : ∃ b, b = f.hasRd := ⟨_, rfl⟩
  obtain ⟨b2, hb2⟩ : ∃ b, b = f.hasA := ⟨_, rfl⟩
  obtain ⟨b3, hb3⟩ : ∃ b, b = f.hasB := ⟨_, rfl⟩
  obtain ⟨l, hl⟩ : ∃ l, l = f.pcs := ⟨_, rfl⟩
  obtain ⟨wd, hwd⟩ : ∃ wd, wd = f.width := ⟨_, rfl⟩
  obtain ⟨s, hs⟩ : ∃ s, s = f.str := ⟨_, rfl⟩
  have W1 : 1 ≤ wd := by rw [hwd]; cases f <;> decide
  have W2 : wd ≤ 64 := by rw [hwd]; cases f <;> decide
  have PB : Hid (∀ p ∈ l, p.1 < 64 ∧ p.2.1 < 64 ∧ p.2.2 < 64) := by
    show ∀ p ∈ l, p.1 < 64 ∧ p.2.1 < 64 ∧ p.2.2 < 64
    rw [hl]; cases f <;> decide
  have LB : l.length ≤ 4 := by rw [hl]; cases f <;> decide
  rw [← hb1, ← hb2, ← hb3, ← hl, ← hwd, ← hs] at hfo
  have R1 : Hid (rdV f x = if b1 then fld x 7 5 else 0) := by show _ = _; rw [rdV, hb1]
  have R2 : Hid (aV f x = if b2 then fld x 15 5 else 0) := by show _ = _; rw [aV, hb2]
  have R3 : Hid (bV f x = if b3 then fld x 20 5 else 0) := by show _ = _; rw [bV, hb3]
  rw [← hs, ← hl, ← hwd]
  clear hb1 hb2 hb3 hl hwd hs
  obtain ⟨y1, hy1⟩ : ∃ y, y = fld x 7 5 := ⟨_, rfl⟩
  obtain ⟨y2, hy2⟩ : ∃ y, y = fld x 15 5 := ⟨_, rfl⟩
  obtain ⟨y3, hy3⟩ : ∃ y, y = fld x 20 5 := ⟨_, rfl⟩
  have B1 := bitsAt_any x 7 5 h0 h1 (by decide) (by decide)
  have B2 := bitsAt_any x 15 5 h0 h1 (by decide) (by decide)
  have B3 := bitsAt_any x 20 5 h0 h1 (by decide) (by decide)
  have L1 : 0 ≤ y1 ∧ y1 < 32 := by rw [hy1]; exact fld_bd x 7 5
  have L2 : 0 ≤ y2 ∧ y2 < 32 := by rw [hy2]; exact fld_bd x 15 5
  have L3 : 0 ≤ y3 ∧ y3 < 32 := by rw [hy3]; exact fld_bd x 20 5
  have V1 : wrap64 y1 = y1 := IntWalk.wrap64_in _ (by omega)
  have V2 : wrap64 y2 = y2 := IntWalk.wrap64_in _ (by omega)
  have V3 : wrap64 y3 = y3 := IntWalk.wrap64_in _ (by omega)
  rw [← hy1] at B1 R1
  rw [← hy2] at B2 R2
  rw [← hy3] at B3 R3
  clear hy1 hy2 hy3 L1 L2 L3
  have HB1 : Hid (∀ w : World, Calls Tryd.prog 57 #[.int .u64 x, .int .i64 7, .int .i64 5] w fun e w' => e = .returned (.int .u64 y1) ∧ w' = w.drew) := B1
  have HB2 : Hid (∀ w : World, Calls Tryd.prog 57 #[.int .u64 x, .int .i64 15, .int .i64 5] w fun e w' => e = .returned (.int .u64 y2) ∧ w' = w.drew) := B2
  have HB3 : Hid (∀ w : World, Calls Tryd.prog 57 #[.int .u64 x, .int .i64 20, .int .i64 5] w fun e w' => e = .returned (.int .u64 y3) ∧ w' = w.drew) := B3
  clear B1 B2 B3
  cases b1 <;> cases b2 <;> cases b3
  all_goals (
    go_enter Tryd.func27, Tryd.ntmps27
    go_wp2_with fail
    refine (hfo _).mono ?_
    rintro e w1 ⟨p, rfl, hP, hbel⟩
    clear hfo
    have H60 : Hid (w1.heap[w.heap.size]? = some (.cells #[.int .i64 0, .int .i64 0, .int .i64 0, .int .i64 0, .int .i64 0] 30 (0, 0))) := by
      show _ = _
      rw [hbel.block _ (by simp)]; exact heap_alloc_new _ _
    have hsz : w.heap.size < w1.heap.size := by have := hbel.size; simp at this; omega
    go_wp2_with (go_at_call 57; first | (with_reducible refine (HB1.out _).mono ?_; rintro e w2 ⟨rfl, rfl⟩) | (with_reducible refine (HB2.out _).mono ?_; rintro e w2 ⟨rfl, rfl⟩) | (with_reducible refine (HB3.out _).mono ?_; rintro e w2 ⟨rfl, rfl⟩))
    go_loopw [9, 37] (fun acc i wr => ∃ k : Nat, k ≤ l.length ∧ i = .int .i64 k ∧ acc = .int .u64 (immF x (l.take k)) ∧ ∃ r1 r2 r3 : Int, ∃ c1 c2 c3 : Bool, Hid (r1 = rdV f x) ∧ Hid (r2 = aV f x) ∧ Hid (r3 = bV f x) ∧
        Hid (wr.heap[w.heap.size]? = some (.cells #[.int .i64 0, .int .i64 0, .int .i64 0, .int .i64 0, .int .i64 0] 30 (0, 0))) ∧
        Hid (wr.heap[w1.heap.size]? = some (.cells #[.bool c1, .bool c2, .bool c3, .slice p l.length l.length, .int .i64 wd] 93 (0, 0))) ∧
        Hid (wr.heap[w1.heap.size + 1]? = some (.cells #[.int .i64 op, .int .i64 r1, .int .i64 r2, .int .i64 r3, .int .i64 0] 30 (0, 0))) ∧
        Hid (PcsAt wr p l) ∧ Below w.heap.size w wr)
      (fun _ i _ => l.length - (intOf i).toNat)
    case atStart =>
      have hb0 := (((Below.refl _ _).alloc (Nat.le_refl _) _).trans (hbel.mono (by simp)) : Below w.heap.size w w1)
      refine ⟨0, by omega, rfl, rfl, _, _, _, _, _, _, ?_, ?_, ?_, ?_, heap_alloc2_old _ _ _, heap_alloc2_new _ _ _, ?_, ?_⟩
      · show _ = _; rw [R1.out]; rfl
      · show _ = _; rw [R2.out]; rfl
      · show _ = _; rw [R3.out]; rfl
      · exact keep_some (by (repeat apply Below.drew); exact ((Below.refl _ _).alloc (Nat.le_refl _) _).alloc (by simp) _) H60.out
      · exact PcsAt.below hP.out (by (repeat apply Below.drew); exact ((Below.refl _ _).alloc (Nat.le_refl _) _).alloc (by simp) _)
      · exact below_trans hb0 (by (repeat apply Below.drew); exact ((Below.refl _ _).alloc (Nat.le_refl _) _).alloc (by simp) _)
    case round =>
      obtain ⟨k, hk, rfl, rfl, r1, r2, r3, c1, c2, c3, Q1, Q2, Q3, G6, G7, G8, HP, hbel2⟩ := hrel
      clear hP hbel H60
      by_cases hlt : k < l.length
      · obtain ⟨g, hpg, hg, d0, d1, d2⟩ := HP.out k hlt
        subst hpg
        have AC : Hid (bits .or .u64 (immF x (l.take k)) (IntKind.u64.wrap (fld x (l.getD k (0, 0, 0)).1 (l.getD k (0, 0, 0)).2.1 * 2 ^ (l.getD k (0, 0, 0)).2.2)) = immF x (l.take (k + 1))) := immF_snoc x l k hlt
        have PB2 := PB.out (l.getD k (0, 0, 0)) (by simp [List.getD, hlt])
        obtain ⟨⟨pa, pb, pt⟩, hq⟩ : ∃ q, q = l.getD k (0, 0, 0) := ⟨_, rfl⟩
        rw [← hq] at d0 d1 d2 AC PB2
        clear hq
        obtain ⟨PB3, PB4, PB5⟩ := PB2
        simp only at d0 d1 d2 PB3 PB4 PB5
        have BQ0 := bitsAt_q x pa pb h0 h1 PB3 PB4
        obtain ⟨y, hy⟩ : ∃ y, y = fld x pa pb := ⟨_, rfl⟩
        obtain ⟨z, hz⟩ : ∃ z, z = immF x (l.take k) := ⟨_, rfl⟩
        rw [← hy] at BQ0
        have AC2 : Hid (bits .or .u64 z (IntKind.u64.wrap (y * 2 ^ pt)) = immF x (l.take (k + 1))) := by
          show _ = _
          rw [hz, hy]; exact AC.out
        have BQ : Hid (∀ w : World, Calls Tryd.prog 57 #[.int .u64 x, .int .i64 pa, .int .i64 pb] w fun e w' => e = .returned (.int .u64 y) ∧ ∃ m, w' = w.drewN m) := BQ0
        rw [← hz]
        clear BQ0 AC hy hz
        go_wp2_with fail
        go_quiet (first | (go_at_call 57; with_reducible refine Calls.quiet_of (BQ.out _)))
        go_wp2_with fail
        go_roundw
        case rel => 
          have hbn : Below wr.heap.size wr ((wr.alloc (.cells #[.int .i64 pa, .int .i64 pb, .int .i64 pt] 97)).drewN nq) := below_drewN ((Below.refl _ _).alloc (Nat.le_refl _) _) nq
          exact ⟨k + 1, by omega, by go_num, by rw [← AC2.out], r1, r2, r3, c1, c2, c3, Q1, Q2, Q3, keep_some hbn G6.out, keep_some hbn G7.out, keep_some hbn G8.out, PcsAt.below HP.out hbn, below_trans hbel2 hbn⟩
        case measure => simp [intOf]; omega
      · have hkl : k = l.length := by omega
        have hacc : l.take k = l := List.take_of_length_le (by omega)
        rw [hacc]
        subst hkl
        clear hacc HB1 HB2 HB3 R1 R2 R3
        obtain ⟨z, hz⟩ : ∃ z, z = immF x l := ⟨_, rfl⟩
        have HZ : Hid (z = immF x l) := hz
        rw [← hz]
        clear hz
        have e7 := cell_of_row wr w1.heap.size 4 _ _ _ G7.out
        have e8 : ∀ j, wr.cell? ⟨w1.heap.size + 1, j, none⟩ = _ := fun j => cell_of_row wr (w1.heap.size + 1) j _ _ _ G8.out
        have e80 := e8 0
        have e81 := e8 1
        have e82 := e8 2
        have e83 := e8 3
        have e84 := e8 4
        have f84 := frozen_of_row wr (w1.heap.size + 1) 4 _ _ G8.out
        have HG6 : (wr.setCell ⟨w1.heap.size + 1, 4, none⟩ (.int .i64 (wrap64 (widen wd z)))).heap[w.heap.size]? = some (.cells #[.int .i64 0, .int .i64 0, .int .i64 0, .int .i64 0, .int .i64 0] 30 (0, 0)) := by
          rw [heap_setCell_other _ _ _ _ (by show w.heap.size ≠ w1.heap.size + 1; omega)]; exact G6.out
        simp at e7 e80 e81 e82 e83 e84
        clear e8
        go_wp2_with (first | (go_at_call 58; with_reducible refine (implWiden_any z wd W1 W2 _).mono ?_; rintro e w2 ⟨rfl, hw2⟩; have hw3 := hw2.symm; subst hw3) | (refine wpList_store_rowTo rfl 30 (.tmp 6) (.tmp 59) rfl rfl w.heap.size #[.int .i64 op, .int .i64 r1, .int .i64 r2, .int .i64 r3, .int .i64 (wrap64 (widen wd z))] rfl rfl 30 _ HG6 inst_size rfl (inst_one op r1 r2 r3 _) ?_))
        refine bodyPost_ret (results_cell_row Tryd.results27 _ _ _ _ _ _ _ rfl (setRow_heap _ _ _ _ _ _ HG6) Tryd.underlying30 rfl inst_size) rfl ⟨?_, ?_⟩
        · rw [← Q1.out, ← Q2.out, ← Q3.out, ← HZ.out]
        · exact below_setRow (hbel2.setCell (by show w.heap.size ≤ w1.heap.size + 1; omega) _) (Nat.le_refl _) _)

end Go.Proofs.YtjjpklalihaanaaDoor
