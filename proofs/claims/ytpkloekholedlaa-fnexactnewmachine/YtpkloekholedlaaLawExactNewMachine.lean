/- The walk of laws.FnExactNewMachine: it returns true at every list of bytes, and writes nothing that was there. By tools/genLawEN.py. -/
import Derived.Test.YtpkloekholedlaaMacV
import Derived.Test.YtpkloekholedlaaMacQ
import Derived.Test.YtpkloekholedlaaMacR
namespace Go.Proofs.Ytpkloekholedlaa.fnExactNewMachine
open Go.RowKit
set_option linter.unusedVariables false

theorem fam1_sl {B E : Nat} {w : World} {a : Option Addr} {n c : Nat} {zs : List Int} (h : Fam B E w [bRow a n c zs]) : Sl .u8 w a zs := own_sl' (h.own _ (List.mem_singleton.2 rfl))

theorem newM_len {zs : List Int} (h : zs.length ≤ 1048576) : MLen (newM zs) := by
  unfold newM
  split
  · exact (raw_len zs h).line
  · exact ⟨by simp [zeroM], by simp [zeroM], by simp [zeroM], by simp [zeroM, zeroD], by simp [zeroM, zeroD]⟩

set_option maxRecDepth 100000 in
set_option maxHeartbeats 6400000 in
theorem walk (a0 : Option Addr) (n cap0 : Nat) (z0 : List Int) (w : World) (w0 : IsRow .u8 w a0 n cap0 z0) :
    Calls Try.prog 5 #[.slice a0 n cap0] w fun e w' => e = .returned (.bool true) ∧ Below w.heap.size w w' := by
  obtain ⟨zs, hz, hs, hw, hm⟩ := w0.sl
  clear w0 hw
  unfold maxLen at hm
  by_cases hbig : 1048576 < n
  · have hb : (1048576 : Int) < (n : Int) := by omega
    go_enter Try.func5, Try.ntmps5
    go_wp2_with fail
    go_ret
    exact ⟨rfl, Below.refl _ _⟩
  · have hn : n ≤ 1048576 := by omega
    have hb : ¬ (1048576 : Int) < (n : Int) := by omega
    have HTB : Hid (∀ w', Below w.heap.size w w' → Calls Try.prog 21 #[.slice a0 n cap0] w' fun e w'' => ∃ gg : Nat, e = .returned (.slice (some ⟨gg, 0, none⟩) n n) ∧ Fam w'.heap.size w''.heap.size w'' [bRow (some ⟨gg, 0, none⟩) n n zs] ∧ Below w'.heap.size w' w'') := fun w' hb => (toByteS_any a0 n cap0 zs w' hz hn (hs.below hb)).mono fun e w'' h => ⟨_, h.1, fam_one (q := bRow _ n n zs) h.2.1 h.2.2, h.2.2⟩
    have HS : Hid (∀ (a : Option Addr) (c : Nat) (w' : World), Below w.heap.size w w' → Sl .u8 w' a zs → Calls Try.prog 10 #[.slice a n c] w' fun e w'' => ∃ K : MA, e = .returned (.tuple #[.agg (mvc (newM zs) K), .bool (ramOkB n)]) ∧ Fam w'.heap.size w''.heap.size w'' (mvF (newM zs) K) ∧ Below w'.heap.size w' w'') := fun a c w' hbw k => specNewMachine_any a n c zs w' hz hn k
    have HI : Hid (∀ (a : Option Addr) (c : Nat) (w' : World), Below w.heap.size w w' → Sl .u8 w' a zs → Calls Try.prog 9 #[.slice a n c] w' fun e w'' => ∃ K : MA, e = .returned (.tuple #[.agg (mvc (newM zs) K), .bool (ramOkB n)]) ∧ Fam w'.heap.size w''.heap.size w'' (mvF (newM zs) K) ∧ Below w'.heap.size w' w'') := fun a c w' hbw k => implNewMachine_any a n c zs w' hz hn k
    have hrl : MLen (newM zs) := newM_len (by omega)
    generalize newM zs = R at *
    generalize ramOkB n = rok at *
    dsimp only [mvc] at HS HI
    have tz : decide (zs = zs) = true := by simp
    have to : (rok != rok) = false := by simp
    clear hs hm hbig

    go_enter Try.func5, Try.ntmps5
    go_wp2_with fail
    refine (HTB.out _ (Below.refl _ _)).mono ?_
    rintro e w0 ⟨gA, rfl, fA0, hb0⟩
    have hx0 : Below w.heap.size w w0 := hb0
    have m0 : w.heap.size ≤ w0.heap.size := hb0.size
    have B0 : Below w.heap.size w w0 := hx0
    go_wp2_with fail
    refine (HS.out _ _ _ B0 (fam1_sl fA0)).mono ?_
    rintro e w1 ⟨CW, rfl, fW1, hb1⟩
    have hx1 : Below w0.heap.size w0 w1 := hb1
    have m1 : w0.heap.size ≤ w1.heap.size := hb1.size
    have B1 : Below w.heap.size w w1 := below_trans B0 hx1
    have fA1 := fA0.below hx1
    go_wp2_with fail
    refine (HTB.out _ (B1.alloc B1.size _)).mono ?_
    rintro e w2 ⟨gX, rfl, fX2, hb2⟩
    have hx2 : Below w1.heap.size w1 w2 := below_trans ((Below.refl _ _).alloc (Nat.le_refl _) _) hb2
    have m2 : w1.heap.size + 1 ≤ w2.heap.size := by have h := hb2.size; rw [World.size_alloc] at h; exact h
    have B2 : Below w.heap.size w w2 := below_trans B1 hx2
    have rW2 : w2.heap[w1.heap.size]? = some (.cells #[.int .u64 R.pc, .slice CW.ax R.x.length CW.cx, .int .i64 R.pr, .slice CW.ac R.cs.length CW.cc, .slice CW.ar R.ram.length CW.cr, .int .u64 R.d.t, .int .u64 R.d.cm, .bool R.d.so, .slice CW.ai R.d.xs.length CW.ci, .slice CW.ao R.d.ys.length CW.co, .int .i64 R.d.ir, .int .u64 R.hd, .bool R.hl, .bool R.wt] 30 (0, 0)) := dstays hb2 (heap_alloc_new _ _)
    have fW2 := fW1.below hx2
    rw [World.size_alloc] at fX2
    go_wp2_with fail
    refine (HI.out _ _ _ B2 (fam1_sl fX2)).mono ?_
    rintro e w3 ⟨CQ, rfl, fQ3, hb3⟩
    have hx3 : Below w2.heap.size w2 w3 := hb3
    have m3 : w2.heap.size ≤ w3.heap.size := hb3.size
    have B3 : Below w.heap.size w w3 := below_trans B2 hx3
    have rW3 := dstays hx3 rW2
    have fW3 := fW2.below hx3
    have fX3 := fX2.below hx3
    have cW0 := fun o => (cells14 (row_al8 rW3 o)).1
    have cW1 := fun o => (cells14 (row_al8 rW3 o)).2.1
    have cW2 := fun o => (cells14 (row_al8 rW3 o)).2.2.1
    have cW3 := fun o => (cells14 (row_al8 rW3 o)).2.2.2.1
    have cW4 := fun o => (cells14 (row_al8 rW3 o)).2.2.2.2.1
    have cW5 := fun o => (cells14 (row_al8 rW3 o)).2.2.2.2.2.1
    have cW6 := fun o => (cells14 (row_al8 rW3 o)).2.2.2.2.2.2.1
    have cW7 := fun o => (cells14 (row_al8 rW3 o)).2.2.2.2.2.2.2.1
    have cW8 := fun o => (cells14 (row_al8 rW3 o)).2.2.2.2.2.2.2.2.1
    have cW9 := fun o => (cells14 (row_al8 rW3 o)).2.2.2.2.2.2.2.2.2.1
    have cW10 := fun o => (cells14 (row_al8 rW3 o)).2.2.2.2.2.2.2.2.2.2.1
    have cW11 := fun o => (cells14 (row_al8 rW3 o)).2.2.2.2.2.2.2.2.2.2.2.1
    have cW12 := fun o => (cells14 (row_al8 rW3 o)).2.2.2.2.2.2.2.2.2.2.2.2.1
    have cW13 := fun o => (cells14 (row_al8 rW3 o)).2.2.2.2.2.2.2.2.2.2.2.2.2
    go_wp2_with fail
    refine (eqMachine_same R _ _ _ hrl (fQ3.below ((Below.refl _ _).alloc (Nat.le_refl _) _)).msl (fW3.below ((Below.refl _ _).alloc (Nat.le_refl _) _)).msl).mono ?_
    rintro e w4 ⟨rfl, hb4⟩
    have hx4 : Below w3.heap.size w3 w4 := below_trans ((Below.refl _ _).alloc (Nat.le_refl _) _) hb4
    have m4 : w3.heap.size + 1 ≤ w4.heap.size := by have h := hb4.size; rw [World.size_alloc] at h; exact h
    have B4 : Below w.heap.size w w4 := below_trans B3 hx4
    have rW4 := dstays hx4 rW3
    have rQ4 : w4.heap[w3.heap.size]? = some (.cells #[.int .u64 R.pc, .slice CQ.ax R.x.length CQ.cx, .int .i64 R.pr, .slice CQ.ac R.cs.length CQ.cc, .slice CQ.ar R.ram.length CQ.cr, .int .u64 R.d.t, .int .u64 R.d.cm, .bool R.d.so, .slice CQ.ai R.d.xs.length CQ.ci, .slice CQ.ao R.d.ys.length CQ.co, .int .i64 R.d.ir, .int .u64 R.hd, .bool R.hl, .bool R.wt] 30 (0, 0)) := dstays hb4 (heap_alloc_new _ _)
    have fW4 := fW3.below hx4
    have fX4 := fX3.below hx4
    have fQ4 := fQ3.below hx4
    clear cW0 cW1 cW2 cW3 cW4 cW5 cW6 cW7 cW8 cW9 cW10 cW11 cW12 cW13
    as_aux_lemma =>
      go_wp2_with fail
      refine (HTB.out _ B4).mono ?_
      rintro e w5 ⟨gZ, rfl, fZ5, hb5⟩
      have hx5 : Below w4.heap.size w4 w5 := hb5
      have m5 : w4.heap.size ≤ w5.heap.size := hb5.size
      have B5 : Below w.heap.size w w5 := below_trans B4 hx5
      have rW5 := dstays hx5 rW4
      have rQ5 := dstays hx5 rQ4
      have fW5 := fW4.below hx5
      have fX5 := fX4.below hx5
      have fQ5 := fQ4.below hx5
      go_wp2_with fail
      refine (eqByteS_any _ _ _ _ _ _ zs zs _ hz hz hn hn (fam1_sl fX5) (fam1_sl fZ5)).mono ?_
      rintro e w6 ⟨rfl, hb6⟩
      have hx6 : Below w5.heap.size w5 w6 := hb6
      have m6 : w5.heap.size ≤ w6.heap.size := hb6.size
      have B6 : Below w.heap.size w w6 := below_trans B5 hx6
      have rW6 := dstays hx6 rW5
      have rQ6 := dstays hx6 rQ5
      have fW6 := fW5.below hx6
      have fX6 := fX5.below hx6
      have fQ6 := fQ5.below hx6
      have fZ6 := fZ5.below hx6
      go_wp2_with fail
      refine (markByteS_any _ n n _ 1 zs _ hn (by omega) (by omega) (fX6.own _ (List.mem_singleton.2 rfl))).mono ?_
      rintro e w7 ⟨rfl, om7, gm7⟩
      have kp7 : Keep _ _ w6 w7 := Keep.of_grown gm7 (fun k e => ⟨((fX6.own _ (List.mem_singleton.2 rfl)).lt k e).1, fX6.hi _ (List.mem_singleton.2 rfl) k e⟩)
      have B7 : Below w.heap.size w w7 := B6.trans (kp7.below (by omega) (by omega))
      have m7 : w6.heap.size ≤ w7.heap.size := kp7.size
      have rW7 := (kp7.block _ (Array.getElem?_eq_some_iff.1 rW6).1 (by omega)).trans rW6
      have rQ7 := (kp7.block _ (Array.getElem?_eq_some_iff.1 rQ6).1 (by omega)).trans rQ6
      have fW7 := fW6.keep kp7 (by omega)
      have fQ7 := fQ6.keep kp7 (by omega)
      have hneg : decide ((1 : Int) + (n : Int) < 0) = false := by simp; omega
      obtain ⟨cQ0, cQ1, cQ2, cQ3, cQ4, cQ5, cQ6, cQ7, cQ8, cQ9, cQ10, cQ11, cQ12, cQ13⟩ := cells14 rQ7
      obtain ⟨cW0, cW1, cW2, cW3, cW4, cW5, cW6, cW7, cW8, cW9, cW10, cW11, cW12, cW13⟩ := cells14 rW7
      go_wp2_with fail
      refine (eqMachine_same R _ _ _ hrl fQ7.msl fW7.msl).mono ?_
      rintro e w8 ⟨rfl, hb8⟩
      have hx8 : Below w7.heap.size w7 w8 := hb8
      have m8 : w7.heap.size ≤ w8.heap.size := hb8.size
      have B8 : Below w.heap.size w w8 := below_trans B7 hx8
      have rW8 := dstays hx8 rW7
      have rQ8 := dstays hx8 rQ7
      have fW8 := fW7.below hx8
      have fQ8 := fQ7.below hx8
      clear cQ0 cQ1 cQ2 cQ3 cQ4 cQ5 cQ6 cQ7 cQ8 cQ9 cQ10 cQ11 cQ12 cQ13 cW0 cW1 cW2 cW3 cW4 cW5 cW6 cW7 cW8 cW9 cW10 cW11 cW12 cW13
      as_aux_lemma =>
        obtain ⟨cQ0, cQ1, cQ2, cQ3, cQ4, cQ5, cQ6, cQ7, cQ8, cQ9, cQ10, cQ11, cQ12, cQ13⟩ := cells14 rQ8
        go_wp2_with fail
        refine (markMachine_any R _ 1 _ _ _ hrl (by omega) (by omega) (by omega) fQ8).mono ?_
        rintro e w9 ⟨rfl, fQ9, kl9⟩
        have kp9 := kl9.keep fQ8
        have B9 : Below w.heap.size w w9 := B8.trans (kp9.below (by omega) (by omega))
        have m9 : w8.heap.size ≤ w9.heap.size := kp9.size
        have rW9 := (kp9.block _ (Array.getElem?_eq_some_iff.1 rW8).1 (by omega)).trans rW8
        have rQ9 := (kp9.block _ (Array.getElem?_eq_some_iff.1 rQ8).1 (by omega)).trans rQ8
        have fW9 := fW8.keep kp9 (by omega)
        have hneg2 : ¬ ((1 : Int) + (R.x.length : Int) + (R.cs.length : Int) + (R.ram.length : Int) + (R.d.xs.length : Int) + (R.d.ys.length : Int) < 0) := by omega
        have hne2 : ((1 : Int) + (R.x.length : Int) + (R.cs.length : Int) + (R.ram.length : Int) + (R.d.xs.length : Int) + (R.d.ys.length : Int) != 1 + (R.x.length : Int) + (R.cs.length : Int) + (R.ram.length : Int) + (R.d.xs.length : Int) + (R.d.ys.length : Int)) = false := by simp
        clear cQ0 cQ1 cQ2 cQ3 cQ4 cQ5 cQ6 cQ7 cQ8 cQ9 cQ10 cQ11 cQ12 cQ13
        obtain ⟨cQ0, cQ1, cQ2, cQ3, cQ4, cQ5, cQ6, cQ7, cQ8, cQ9, cQ10, cQ11, cQ12, cQ13⟩ := cells14 rQ9
        go_wp2_with fail
        refine (heldMachine_any R _ 1 _ hrl (by omega) (by omega) fQ9.rsl.1 fQ9.rsl.2.1 fQ9.rsl.2.2.1 fQ9.rsl.2.2.2.1 fQ9.rsl.2.2.2.2).mono ?_
        rintro e w10 ⟨rfl, hb10⟩
        have hx10 : Below w9.heap.size w9 w10 := hb10
        have m10 : w9.heap.size ≤ w10.heap.size := hb10.size
        have B10 : Below w.heap.size w w10 := below_trans B9 hx10
        have rW10 := dstays hx10 rW9
        have rQ10 := dstays hx10 rQ9
        have fW10 := fW9.below hx10
        have fQ10 := fQ9.below hx10
        clear cQ0 cQ1 cQ2 cQ3 cQ4 cQ5 cQ6 cQ7 cQ8 cQ9 cQ10 cQ11 cQ12 cQ13
        as_aux_lemma =>
          go_wp2_with fail
          refine (HTB.out _ B10).mono ?_
          rintro e w11 ⟨gP, rfl, fP11, hb11⟩
          have hx11 : Below w10.heap.size w10 w11 := hb11
          have m11 : w10.heap.size ≤ w11.heap.size := hb11.size
          have B11 : Below w.heap.size w w11 := below_trans B10 hx11
          have rW11 := dstays hx11 rW10
          have rQ11 := dstays hx11 rQ10
          have fW11 := fW10.below hx11
          have fQ11 := fQ10.below hx11
          go_wp2_with fail
          refine (HI.out _ _ _ B11 (fam1_sl fP11)).mono ?_
          rintro e w12 ⟨CK, rfl, fK12, hb12⟩
          have hx12 : Below w11.heap.size w11 w12 := hb12
          have m12 : w11.heap.size ≤ w12.heap.size := hb12.size
          have B12 : Below w.heap.size w w12 := below_trans B11 hx12
          have rW12 := dstays hx12 rW11
          have rQ12 := dstays hx12 rQ11
          have fW12 := fW11.below hx12
          have fQ12 := fQ11.below hx12
          have fP12 := fP11.below hx12
          have cW0 := fun o => (cells14 (row_al8 rW12 o)).1
          have cW1 := fun o => (cells14 (row_al8 rW12 o)).2.1
          have cW2 := fun o => (cells14 (row_al8 rW12 o)).2.2.1
          have cW3 := fun o => (cells14 (row_al8 rW12 o)).2.2.2.1
          have cW4 := fun o => (cells14 (row_al8 rW12 o)).2.2.2.2.1
          have cW5 := fun o => (cells14 (row_al8 rW12 o)).2.2.2.2.2.1
          have cW6 := fun o => (cells14 (row_al8 rW12 o)).2.2.2.2.2.2.1
          have cW7 := fun o => (cells14 (row_al8 rW12 o)).2.2.2.2.2.2.2.1
          have cW8 := fun o => (cells14 (row_al8 rW12 o)).2.2.2.2.2.2.2.2.1
          have cW9 := fun o => (cells14 (row_al8 rW12 o)).2.2.2.2.2.2.2.2.2.1
          have cW10 := fun o => (cells14 (row_al8 rW12 o)).2.2.2.2.2.2.2.2.2.2.1
          have cW11 := fun o => (cells14 (row_al8 rW12 o)).2.2.2.2.2.2.2.2.2.2.2.1
          have cW12 := fun o => (cells14 (row_al8 rW12 o)).2.2.2.2.2.2.2.2.2.2.2.2.1
          have cW13 := fun o => (cells14 (row_al8 rW12 o)).2.2.2.2.2.2.2.2.2.2.2.2.2
          go_wp2_with fail
          refine (eqMachine_same R _ _ _ hrl (fK12.below ((Below.refl _ _).alloc (Nat.le_refl _) _)).msl (fW12.below ((Below.refl _ _).alloc (Nat.le_refl _) _)).msl).mono ?_
          rintro e w13 ⟨rfl, hb13⟩
          have hx13 : Below w12.heap.size w12 w13 := below_trans ((Below.refl _ _).alloc (Nat.le_refl _) _) hb13
          have m13 : w12.heap.size + 1 ≤ w13.heap.size := by have h := hb13.size; rw [World.size_alloc] at h; exact h
          have B13 : Below w.heap.size w w13 := below_trans B12 hx13
          have rW13 := dstays hx13 rW12
          have rQ13 := dstays hx13 rQ12
          have rK13 : w13.heap[w12.heap.size]? = some (.cells #[.int .u64 R.pc, .slice CK.ax R.x.length CK.cx, .int .i64 R.pr, .slice CK.ac R.cs.length CK.cc, .slice CK.ar R.ram.length CK.cr, .int .u64 R.d.t, .int .u64 R.d.cm, .bool R.d.so, .slice CK.ai R.d.xs.length CK.ci, .slice CK.ao R.d.ys.length CK.co, .int .i64 R.d.ir, .int .u64 R.hd, .bool R.hl, .bool R.wt] 30 (0, 0)) := dstays hb13 (heap_alloc_new _ _)
          have fW13 := fW12.below hx13
          have fQ13 := fQ12.below hx13
          have fK13 := fK12.below hx13
          clear cW0 cW1 cW2 cW3 cW4 cW5 cW6 cW7 cW8 cW9 cW10 cW11 cW12 cW13
          obtain ⟨cQ0, cQ1, cQ2, cQ3, cQ4, cQ5, cQ6, cQ7, cQ8, cQ9, cQ10, cQ11, cQ12, cQ13⟩ := cells14 rQ13
          go_wp2_with fail
          refine (heldMachine_any R _ 1 _ hrl (by omega) (by omega) fQ13.rsl.1 fQ13.rsl.2.1 fQ13.rsl.2.2.1 fQ13.rsl.2.2.2.1 fQ13.rsl.2.2.2.2).mono ?_
          rintro e w14 ⟨rfl, hb14⟩
          have hx14 : Below w13.heap.size w13 w14 := hb14
          have m14 : w13.heap.size ≤ w14.heap.size := hb14.size
          have B14 : Below w.heap.size w w14 := below_trans B13 hx14
          have rW14 := dstays hx14 rW13
          have rQ14 := dstays hx14 rQ13
          have rK14 := dstays hx14 rK13
          have fQ14 := fQ13.below hx14
          clear cQ0 cQ1 cQ2 cQ3 cQ4 cQ5 cQ6 cQ7 cQ8 cQ9 cQ10 cQ11 cQ12 cQ13
          go_wp2_with fail
          go_ret
          exact ⟨rfl, B14⟩

end Go.Proofs.Ytpkloekholedlaa.fnExactNewMachine
