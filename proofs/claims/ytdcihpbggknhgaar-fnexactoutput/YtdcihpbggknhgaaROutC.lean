/- Output: what was sent, the model's and the program's. By tools/genOut.py. -/
import Derived.Test.YtdcihpbggknhgaaRMacV
import Derived.Test.YtdcihpbggknhgaaRMacI
namespace Go.Proofs.YtdcihpbggknhgaaR
open Go.RowKit
set_option linter.unusedVariables false

def outM (M : MV) : List Int := if machB M = true then M.d.ys else []

theorem outM_len {M : MV} (h : MLen M) : (outM M).length ≤ 1048576 := by
  unfold outM; split
  · exact h.ys
  · simp

set_option maxRecDepth 100000 in
set_option maxHeartbeats 6400000 in
theorem specOutput_any (M : MV) (A : MA) (w : World) (hl : MLen M) (hs : MSl w M A) :
    Calls Try.prog 10 #[.agg #[.int .u64 M.pc, .slice A.ax M.x.length A.cx, .int .i64 M.pr, .slice A.ac M.cs.length A.cc, .slice A.ar M.ram.length A.cr, .int .u64 M.d.t, .int .u64 M.d.cm, .bool M.d.so, .slice A.ai M.d.xs.length A.ci, .slice A.ao M.d.ys.length A.co, .int .i64 M.d.ir, .int .u64 M.hd, .bool M.hl, .bool M.wt]] w fun e w' => ∃ (a' : Option Addr) (c' : Nat), e = .returned (.slice a' (outM M).length c') ∧ w'.ownsRow w.heap.size 5 1 (.slice a' (outM M).length c') (outM M).length ((outM M).map (Value.int .u8)) ∧ Below w.heap.size w w' := by
  have HK : Hid (∀ w', Below w.heap.size w w' → Calls Try.prog 19 #[.agg #[.int .u64 M.pc, .slice A.ax M.x.length A.cx, .int .i64 M.pr, .slice A.ac M.cs.length A.cc, .slice A.ar M.ram.length A.cr, .int .u64 M.d.t, .int .u64 M.d.cm, .bool M.d.so, .slice A.ai M.d.xs.length A.ci, .slice A.ao M.d.ys.length A.co, .int .i64 M.d.ir, .int .u64 M.hd, .bool M.hl, .bool M.wt]] w' fun e w'' => e = .returned (.bool (machB M)) ∧ Below w'.heap.size w' w'') := fun w' hb => specMachineOk_any M A w' hl (hs.below hb)
  cases h : machB M with
  | false =>
    rw [h] at HK
    have hv : outM M = [] := by simp [outM, h]
    rw [hv]
    clear hl hs h hv
    go_enter Try.func10, Try.ntmps10
    go_wp2_with fail
    refine (HK.out _ ((Below.refl _ _).alloc (Nat.le_refl _) _)).mono ?_
    rintro e w1 ⟨rfl, hb1⟩
    have BB := dhid (below_trans ((Below.refl _ _).alloc (Nat.le_refl _) _) hb1)
    clear hb1 HK
    go_wp2_with fail
    go_ret
    exact ⟨_, _, rfl, own_empty8 w1 w.heap.size BB.out.size (.cells #[] 5 (0, 0)) rfl, BB.out.alloc BB.out.size _⟩
  | true =>
    rw [h] at HK
    have hv : outM M = M.d.ys := by simp [outM, h]
    rw [hv]
    have HY : Hid (M.d.ys.length ≤ 1048576) := hl.ys
    have HO : Hid (Sl .u8 w A.ao M.d.ys) := hs.ys
    clear hl hs h hv
    go_enter Try.func10, Try.ntmps10
    go_wp2_with fail
    refine (HK.out _ ((Below.refl _ _).alloc (Nat.le_refl _) _)).mono ?_
    rintro e w1 ⟨rfl, hb1⟩
    have R1 : w1.heap[w.heap.size]? = some (.cells #[.int .u64 M.pc, .slice A.ax M.x.length A.cx, .int .i64 M.pr, .slice A.ac M.cs.length A.cc, .slice A.ar M.ram.length A.cr, .int .u64 M.d.t, .int .u64 M.d.cm, .bool M.d.so, .slice A.ai M.d.xs.length A.ci, .slice A.ao M.d.ys.length A.co, .int .i64 M.d.ir, .int .u64 M.hd, .bool M.hl, .bool M.wt] 33 (0, 0)) := dstays hb1 (heap_alloc_new _ _)
    have B1 := dhid (below_trans ((Below.refl _ _).alloc (Nat.le_refl _) _) hb1)
    obtain ⟨a0, a1, a2, a3, a4, a5, a6, a7, a8, a9, a10, a11, a12, a13⟩ := cells14 R1
    clear hb1 HK
    have hE := own_empty8 w1 w.heap.size B1.out.size (.cells #[] 5 (0, 0)) rfl
    have HS : Hid (Sl .u8 (w1.alloc (.cells #[] 5 (0, 0))) A.ao M.d.ys) := HO.out.below (B1.out.alloc B1.out.size _)
    have c9 : (w1.alloc (.cells #[] 5 (0, 0))).cell? ⟨w.heap.size, 9, none⟩ = some (.slice A.ao M.d.ys.length A.co) := (cells14 (row_al8 R1 _)).2.2.2.2.2.2.2.2.2.1
    go_wp2_with (first
      | (at_builtin; refine wpList_app8 rfl (.tmp 7) (.tmp 10) rfl w.heap.size _ rfl hE A.ao M.d.ys.length A.co M.d.ys rfl rfl HY.out HS.out (by have := B1.out.size; simp; omega) ?_; intro b1 d1 w2 ow2 gr2; have OW := dhid ow2; have GR := dhid gr2; clear ow2 gr2))
    go_ret
    exact ⟨b1, d1, rfl, OW.out, below_trans B1.out (app1 GR.out rfl)⟩

set_option maxRecDepth 100000 in
set_option maxHeartbeats 6400000 in
theorem implOutput_any (M : MV) (A : MA) (w : World) (hl : MLen M) (hs : MSl w M A) (hU : ∀ j, U (M.cs.getD j 0)) :
    Calls Try.prog 11 #[.agg #[.int .u64 M.pc, .slice A.ax M.x.length A.cx, .int .i64 M.pr, .slice A.ac M.cs.length A.cc, .slice A.ar M.ram.length A.cr, .int .u64 M.d.t, .int .u64 M.d.cm, .bool M.d.so, .slice A.ai M.d.xs.length A.ci, .slice A.ao M.d.ys.length A.co, .int .i64 M.d.ir, .int .u64 M.hd, .bool M.hl, .bool M.wt]] w fun e w' => ∃ (a' : Option Addr) (c' : Nat), e = .returned (.slice a' (outM M).length c') ∧ w'.ownsRow w.heap.size 5 1 (.slice a' (outM M).length c') (outM M).length ((outM M).map (Value.int .u8)) ∧ Below w.heap.size w w' := by
  have HK : Hid (∀ w', Below w.heap.size w w' → Calls Try.prog 25 #[.agg #[.int .u64 M.pc, .slice A.ax M.x.length A.cx, .int .i64 M.pr, .slice A.ac M.cs.length A.cc, .slice A.ar M.ram.length A.cr, .int .u64 M.d.t, .int .u64 M.d.cm, .bool M.d.so, .slice A.ai M.d.xs.length A.ci, .slice A.ao M.d.ys.length A.co, .int .i64 M.d.ir, .int .u64 M.hd, .bool M.hl, .bool M.wt]] w' fun e w'' => e = .returned (.bool (machB M)) ∧ Below w'.heap.size w' w'') := fun w' hb => implMachineOk_any M A w' hl (hs.below hb) hU
  cases h : machB M with
  | false =>
    rw [h] at HK
    have hv : outM M = [] := by simp [outM, h]
    rw [hv]
    clear hl hs h hv hU
    go_enter Try.func11, Try.ntmps11
    go_wp2_with fail
    refine (HK.out _ ((Below.refl _ _).alloc (Nat.le_refl _) _)).mono ?_
    rintro e w1 ⟨rfl, hb1⟩
    have BB := dhid (below_trans ((Below.refl _ _).alloc (Nat.le_refl _) _) hb1)
    clear hb1 HK
    go_wp2_with fail
    go_ret
    exact ⟨none, 0, rfl, ⟨rfl, .inl ⟨rfl, rfl⟩⟩, BB.out⟩
  | true =>
    rw [h] at HK
    have hv : outM M = M.d.ys := by simp [outM, h]
    rw [hv]
    have HY : Hid (M.d.ys.length ≤ 1048576) := hl.ys
    have HO : Hid (Sl .u8 w A.ao M.d.ys) := hs.ys
    clear hl hs h hv hU
    go_enter Try.func11, Try.ntmps11
    go_wp2_with fail
    refine (HK.out _ ((Below.refl _ _).alloc (Nat.le_refl _) _)).mono ?_
    rintro e w1 ⟨rfl, hb1⟩
    have R1 : w1.heap[w.heap.size]? = some (.cells #[.int .u64 M.pc, .slice A.ax M.x.length A.cx, .int .i64 M.pr, .slice A.ac M.cs.length A.cc, .slice A.ar M.ram.length A.cr, .int .u64 M.d.t, .int .u64 M.d.cm, .bool M.d.so, .slice A.ai M.d.xs.length A.ci, .slice A.ao M.d.ys.length A.co, .int .i64 M.d.ir, .int .u64 M.hd, .bool M.hl, .bool M.wt] 33 (0, 0)) := dstays hb1 (heap_alloc_new _ _)
    have B1 := dhid (below_trans ((Below.refl _ _).alloc (Nat.le_refl _) _) hb1)
    obtain ⟨a0, a1, a2, a3, a4, a5, a6, a7, a8, a9, a10, a11, a12, a13⟩ := cells14 R1
    clear hb1 HK R1
    go_wp2_with fail
    refine (clone_any _ _ _ M.d.ys w1 rfl HY.out (HO.out.below B1.out)).mono ?_
    rintro e w2 ⟨b1, d1, rfl, ow2, hb2⟩
    have OW := dhid ow2
    have B2 := dhid (below_trans B1.out hb2)
    have S1 := dhid B1.out.size
    clear ow2 hb2
    go_wp2_with fail
    go_ret
    exact ⟨b1, d1, rfl, own_low OW.out S1.out, B2.out⟩

theorem fam1 {W W' : World} {q : FRow} (h : W'.ownsRow W.heap.size q.t 1 q.v q.n q.xs) (hb : Below W.heap.size W W') : Fam W.heap.size W'.heap.size W' [q] := (Fam.nil W.heap.size W.heap.size W').snoc q _ _ h (Nat.le_refl _) (Nat.le_refl _) (Nat.le_refl _) hb.size

theorem fam1_sl {B E : Nat} {w : World} {a : Option Addr} {n c : Nat} {xs : List Int} (h : Fam B E w [bRow a n c xs]) : Sl .u8 w a xs := own_sl' (h.own (bRow a n c xs) (by simp))

end Go.Proofs.YtdcihpbggknhgaaR
