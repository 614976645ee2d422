/- A drawn instruction, right or not; what Decode and Encode are drawn. -/
import Derived.Test.YtjoaccdbiomdjaaDoorRDrawI
import Derived.Test.YtjoaccdbiomdjaaDoorREncS
namespace Go.Proofs.YtjoaccdbiomdjaaDoorR
open Go.RowKit
set_option linter.unusedVariables false

set_option maxRecDepth 20000 in
set_option maxHeartbeats 6400000 in
theorem l2DrawAny_c {w0 : World} {g : Nat} {a : Option Addr} {n cap : Nat} {zs : List Int} (hcd : Code w0 a n zs) (w : World) (hc : Cur w0 w g a n cap) :
    Calls Tryd.prog 39 #[.pointer (some ⟨g, 0, none⟩)] w fun e w' => ∃ i : Ins, e = .returned i.val ∧ i.wf ∧ Hid (Cs w0 g a n cap w w') := by
  have HD : Hid (Code w0 a n zs) := hcd
  have HC : Hid (Cur w0 w g a n cap) := hc
  have hgw := hc.lt
  clear hcd hc
  go_enter Tryd.func39, Tryd.ntmps39
  go_wp2_with fail
  have HA := Cs.alloc HC.out (.cells #[.int .i64 0, .int .i64 0, .int .i64 0, .int .i64 0, .int .i64 0] 25)
  refine (l2Draw_c HD.out _ HA.1).mono ?_
  rintro e w1 ⟨⟨o0, o1, o2, o3, o4⟩, rfl, hwf, hs1⟩
  simp only [Ins.val]
  have hr1 : w1.heap[w.heap.size]? = some (.cells #[.int .i64 0, .int .i64 0, .int .i64 0, .int .i64 0, .int .i64 0] 25 (0, 0)) := hs1.out.keep (heap_alloc_new _ _) (by omega)
  have hs1a := HA.trans hs1.out
  have hlt1 : w.heap.size < w1.heap.size := by
    have := hs1.out.2.size
    simp at this
    omega
  have S0 : Hid (It w0 g a n cap w w.heap.size w1.heap.size (w1.alloc (.cells #[.int .i64 o0, .int .i64 o1, .int .i64 o2, .int .i64 o3, .int .i64 o4] 25))) := by
    refine ⟨hs1a.trans (Cs.alloc hs1a.1 _), ⟨⟨0, 0, 0, 0, 0⟩, ⟨zero_wf, zero_wf, zero_wf, zero_wf, zero_wf⟩, ?_⟩, ⟨⟨o0, o1, o2, o3, o4⟩, hwf, heap_alloc_new _ _⟩, Nat.le_refl _, by omega, by omega, hgw⟩
    rw [heap_alloc_old w1 _ hlt1]; exact hr1
  obtain ⟨ib, hib⟩ : ∃ ib, w1.heap.size = ib := ⟨_, rfl⟩
  clear hr1 hs1 hs1a HA hlt1 hwf
  go_wp2_with fail
  rw [hib] at S0
  clear hib HC hgw
  refine (l1Once_c HD.out 12 (by omega) _ S0.out.cur).mono ?_
  rintro e w2 ⟨c, rfl, hs⟩
  have S1 : Hid (It w0 g a n cap w w.heap.size ib w2) := S0.out.next hs.out
  clear hs S0
  cases c with
  | false =>
    obtain ⟨ic, jc, hwfc, ⟨p0, p1, p2, p3, p4⟩, ⟨f0, f1, f2, f3, f4⟩, ⟨q0, q1, q2, q3, q4⟩, ⟨e0, e1, e2, e3, e4⟩⟩ := S1.out.facts
    have HWF : Hid ic.wf := hwfc
    have hne : w.heap.size ≠ ib := S1.out.2.2.2.2.2.1
    have hne2 : ib ≠ w.heap.size := fun h => S1.out.2.2.2.2.2.1 h.symm
    clear hwfc
    have SE : Hid (It w0 g a n cap w w.heap.size ib _) := S1.out
    go_wp2_with fail
    refine bodyPost_ret (results_cell_row Tryd.results39 _ _ w.heap.size 25 _ _ _ rfl (SE.out.back _ _ _ _ _).1 Tryd.underlying25 rfl inst_sizeD) rfl ?_
    obtain ⟨g0, g1, g2, g3, g4⟩ := HWF.out
    exact ⟨⟨_, _, _, _, _⟩, rfl, Ins.wf_mk (by first | exact wf64 (by omega) (by omega) | exact wf_wrap _ | assumption) (by first | exact wf64 (by omega) (by omega) | exact wf_wrap _ | assumption) (by first | exact wf64 (by omega) (by omega) | exact wf_wrap _ | assumption) (by first | exact wf64 (by omega) (by omega) | exact wf_wrap _ | assumption) (by first | exact wf64 (by omega) (by omega) | exact wf_wrap _ | assumption), (SE.out.back _ _ _ _ _).2⟩
  | true =>
    go_wp2_with fail
    refine (l1Below_c HD.out 5 (by omega) _ S1.out.cur).mono ?_
    rintro e w3 ⟨x, rfl, ⟨hx0, hx1⟩, hs⟩
    have S2 : Hid (It w0 g a n cap w w.heap.size ib w3) := S1.out.next hs.out
    clear hs S1
    obtain ⟨k, rfl⟩ := Int.eq_ofNat_of_zero_le hx0
    match k, hx1 with
    | 0, _ =>
      go_wp2_with fail
      have HA := Cs.alloc S2.out.cur (.cells #[.int .i64 0, .int .i64 99, .int .i64 (-1), .int .i64 4611686018427387904] 2)
      refine (l1Below_c HD.out 4 (by omega) _ HA.1).mono ?_
      rintro e w4 ⟨x, rfl, ⟨hy0, hy1⟩, hs⟩
      obtain ⟨k, rfl⟩ := Int.eq_ofNat_of_zero_le hy0
      obtain ⟨v, hv, hcell⟩ := few_ints [0, 99, -1, 4611686018427387904] 2 (hs.out.keep (heap_alloc_new _ _) (Nat.ne_of_gt S2.out.cur.lt)) (by decide) (k := k) (by simp; omega)
      have S3 : Hid (It w0 g a n cap w w.heap.size ib w4) := (S2.out.next HA).next hs.out
      clear hs S2 HA
      obtain ⟨ic, jc, hwfc, ⟨p0, p1, p2, p3, p4⟩, ⟨f0, f1, f2, f3, f4⟩, ⟨q0, q1, q2, q3, q4⟩, ⟨e0, e1, e2, e3, e4⟩⟩ := S3.out.facts
      have HWF : Hid ic.wf := hwfc
      have hne : w.heap.size ≠ ib := S3.out.2.2.2.2.2.1
      have hne2 : ib ≠ w.heap.size := fun h => S3.out.2.2.2.2.2.1 h.symm
      clear hwfc
      have SE : Hid (It w0 g a n cap w w.heap.size ib _) := (It.put S3.out 0 (by omega) v (by first | exact wf64 (by omega) (by omega) | exact wf_wrap _ | assumption))
      go_wp2_with fail
      refine bodyPost_ret (results_cell_row Tryd.results39 _ _ w.heap.size 25 _ _ _ rfl (SE.out.back _ _ _ _ _).1 Tryd.underlying25 rfl inst_sizeD) rfl ?_
      obtain ⟨g0, g1, g2, g3, g4⟩ := HWF.out
      exact ⟨⟨_, _, _, _, _⟩, rfl, Ins.wf_mk (by first | exact wf64 (by omega) (by omega) | exact wf_wrap _ | assumption) (by first | exact wf64 (by omega) (by omega) | exact wf_wrap _ | assumption) (by first | exact wf64 (by omega) (by omega) | exact wf_wrap _ | assumption) (by first | exact wf64 (by omega) (by omega) | exact wf_wrap _ | assumption) (by first | exact wf64 (by omega) (by omega) | exact wf_wrap _ | assumption), (SE.out.back _ _ _ _ _).2⟩
    | 1, _ =>
      go_wp2_with fail
      have HA := Cs.alloc S2.out.cur (.cells #[.int .i64 (-1), .int .i64 32, .int .i64 5] 2)
      refine (l1Below_c HD.out 3 (by omega) _ HA.1).mono ?_
      rintro e w4 ⟨x, rfl, ⟨hy0, hy1⟩, hs⟩
      obtain ⟨k, rfl⟩ := Int.eq_ofNat_of_zero_le hy0
      obtain ⟨v, hv, hcell⟩ := few_ints [-1, 32, 5] 2 (hs.out.keep (heap_alloc_new _ _) (Nat.ne_of_gt S2.out.cur.lt)) (by decide) (k := k) (by simp; omega)
      have S3 : Hid (It w0 g a n cap w w.heap.size ib w4) := (S2.out.next HA).next hs.out
      clear hs S2 HA
      obtain ⟨ic, jc, hwfc, ⟨p0, p1, p2, p3, p4⟩, ⟨f0, f1, f2, f3, f4⟩, ⟨q0, q1, q2, q3, q4⟩, ⟨e0, e1, e2, e3, e4⟩⟩ := S3.out.facts
      have HWF : Hid ic.wf := hwfc
      have hne : w.heap.size ≠ ib := S3.out.2.2.2.2.2.1
      have hne2 : ib ≠ w.heap.size := fun h => S3.out.2.2.2.2.2.1 h.symm
      clear hwfc
      have SE : Hid (It w0 g a n cap w w.heap.size ib _) := (It.put S3.out 1 (by omega) v (by first | exact wf64 (by omega) (by omega) | exact wf_wrap _ | assumption))
      go_wp2_with fail
      refine bodyPost_ret (results_cell_row Tryd.results39 _ _ w.heap.size 25 _ _ _ rfl (SE.out.back _ _ _ _ _).1 Tryd.underlying25 rfl inst_sizeD) rfl ?_
      obtain ⟨g0, g1, g2, g3, g4⟩ := HWF.out
      exact ⟨⟨_, _, _, _, _⟩, rfl, Ins.wf_mk (by first | exact wf64 (by omega) (by omega) | exact wf_wrap _ | assumption) (by first | exact wf64 (by omega) (by omega) | exact wf_wrap _ | assumption) (by first | exact wf64 (by omega) (by omega) | exact wf_wrap _ | assumption) (by first | exact wf64 (by omega) (by omega) | exact wf_wrap _ | assumption) (by first | exact wf64 (by omega) (by omega) | exact wf_wrap _ | assumption), (SE.out.back _ _ _ _ _).2⟩
    | 2, _ =>
      go_wp2_with fail
      have HA := Cs.alloc S2.out.cur (.cells #[.int .i64 (-1), .int .i64 32, .int .i64 5] 2)
      refine (l1Below_c HD.out 3 (by omega) _ HA.1).mono ?_
      rintro e w4 ⟨x, rfl, ⟨hy0, hy1⟩, hs⟩
      obtain ⟨k, rfl⟩ := Int.eq_ofNat_of_zero_le hy0
      obtain ⟨v, hv, hcell⟩ := few_ints [-1, 32, 5] 2 (hs.out.keep (heap_alloc_new _ _) (Nat.ne_of_gt S2.out.cur.lt)) (by decide) (k := k) (by simp; omega)
      have S3 : Hid (It w0 g a n cap w w.heap.size ib w4) := (S2.out.next HA).next hs.out
      clear hs S2 HA
      obtain ⟨ic, jc, hwfc, ⟨p0, p1, p2, p3, p4⟩, ⟨f0, f1, f2, f3, f4⟩, ⟨q0, q1, q2, q3, q4⟩, ⟨e0, e1, e2, e3, e4⟩⟩ := S3.out.facts
      have HWF : Hid ic.wf := hwfc
      have hne : w.heap.size ≠ ib := S3.out.2.2.2.2.2.1
      have hne2 : ib ≠ w.heap.size := fun h => S3.out.2.2.2.2.2.1 h.symm
      clear hwfc
      have SE : Hid (It w0 g a n cap w w.heap.size ib _) := (It.put S3.out 2 (by omega) v (by first | exact wf64 (by omega) (by omega) | exact wf_wrap _ | assumption))
      go_wp2_with fail
      refine bodyPost_ret (results_cell_row Tryd.results39 _ _ w.heap.size 25 _ _ _ rfl (SE.out.back _ _ _ _ _).1 Tryd.underlying25 rfl inst_sizeD) rfl ?_
      obtain ⟨g0, g1, g2, g3, g4⟩ := HWF.out
      exact ⟨⟨_, _, _, _, _⟩, rfl, Ins.wf_mk (by first | exact wf64 (by omega) (by omega) | exact wf_wrap _ | assumption) (by first | exact wf64 (by omega) (by omega) | exact wf_wrap _ | assumption) (by first | exact wf64 (by omega) (by omega) | exact wf_wrap _ | assumption) (by first | exact wf64 (by omega) (by omega) | exact wf_wrap _ | assumption) (by first | exact wf64 (by omega) (by omega) | exact wf_wrap _ | assumption), (SE.out.back _ _ _ _ _).2⟩
    | 3, _ =>
      go_wp2_with fail
      have HA := Cs.alloc S2.out.cur (.cells #[.int .i64 (-1), .int .i64 32, .int .i64 5] 2)
      refine (l1Below_c HD.out 3 (by omega) _ HA.1).mono ?_
      rintro e w4 ⟨x, rfl, ⟨hy0, hy1⟩, hs⟩
      obtain ⟨k, rfl⟩ := Int.eq_ofNat_of_zero_le hy0
      obtain ⟨v, hv, hcell⟩ := few_ints [-1, 32, 5] 2 (hs.out.keep (heap_alloc_new _ _) (Nat.ne_of_gt S2.out.cur.lt)) (by decide) (k := k) (by simp; omega)
      have S3 : Hid (It w0 g a n cap w w.heap.size ib w4) := (S2.out.next HA).next hs.out
      clear hs S2 HA
      obtain ⟨ic, jc, hwfc, ⟨p0, p1, p2, p3, p4⟩, ⟨f0, f1, f2, f3, f4⟩, ⟨q0, q1, q2, q3, q4⟩, ⟨e0, e1, e2, e3, e4⟩⟩ := S3.out.facts
      have HWF : Hid ic.wf := hwfc
      have hne : w.heap.size ≠ ib := S3.out.2.2.2.2.2.1
      have hne2 : ib ≠ w.heap.size := fun h => S3.out.2.2.2.2.2.1 h.symm
      clear hwfc
      have SE : Hid (It w0 g a n cap w w.heap.size ib _) := (It.put S3.out 3 (by omega) v (by first | exact wf64 (by omega) (by omega) | exact wf_wrap _ | assumption))
      go_wp2_with fail
      refine bodyPost_ret (results_cell_row Tryd.results39 _ _ w.heap.size 25 _ _ _ rfl (SE.out.back _ _ _ _ _).1 Tryd.underlying25 rfl inst_sizeD) rfl ?_
      obtain ⟨g0, g1, g2, g3, g4⟩ := HWF.out
      exact ⟨⟨_, _, _, _, _⟩, rfl, Ins.wf_mk (by first | exact wf64 (by omega) (by omega) | exact wf_wrap _ | assumption) (by first | exact wf64 (by omega) (by omega) | exact wf_wrap _ | assumption) (by first | exact wf64 (by omega) (by omega) | exact wf_wrap _ | assumption) (by first | exact wf64 (by omega) (by omega) | exact wf_wrap _ | assumption) (by first | exact wf64 (by omega) (by omega) | exact wf_wrap _ | assumption), (SE.out.back _ _ _ _ _).2⟩
    | 4, _ =>
      go_wp2_with fail
      have HA := Cs.alloc S2.out.cur (.cells #[.int .i64 (-2049), .int .i64 2048, .int .i64 64, .int .i64 32, .int .i64 4096, .int .i64 (-4097), .int .i64 1, .int .i64 4611686018427387904] 2)
      refine (l1Below_c HD.out 8 (by omega) _ HA.1).mono ?_
      rintro e w4 ⟨x, rfl, ⟨hy0, hy1⟩, hs⟩
      obtain ⟨k, rfl⟩ := Int.eq_ofNat_of_zero_le hy0
      obtain ⟨v, hv, hcell⟩ := few_ints [-2049, 2048, 64, 32, 4096, -4097, 1, 4611686018427387904] 2 (hs.out.keep (heap_alloc_new _ _) (Nat.ne_of_gt S2.out.cur.lt)) (by decide) (k := k) (by simp; omega)
      have S3 : Hid (It w0 g a n cap w w.heap.size ib w4) := (S2.out.next HA).next hs.out
      clear hs S2 HA
      obtain ⟨ic, jc, hwfc, ⟨p0, p1, p2, p3, p4⟩, ⟨f0, f1, f2, f3, f4⟩, ⟨q0, q1, q2, q3, q4⟩, ⟨e0, e1, e2, e3, e4⟩⟩ := S3.out.facts
      have HWF : Hid ic.wf := hwfc
      have hne : w.heap.size ≠ ib := S3.out.2.2.2.2.2.1
      have hne2 : ib ≠ w.heap.size := fun h => S3.out.2.2.2.2.2.1 h.symm
      clear hwfc
      have SE : Hid (It w0 g a n cap w w.heap.size ib _) := (It.put S3.out 4 (by omega) v (by first | exact wf64 (by omega) (by omega) | exact wf_wrap _ | assumption))
      go_wp2_with fail
      refine bodyPost_ret (results_cell_row Tryd.results39 _ _ w.heap.size 25 _ _ _ rfl (SE.out.back _ _ _ _ _).1 Tryd.underlying25 rfl inst_sizeD) rfl ?_
      obtain ⟨g0, g1, g2, g3, g4⟩ := HWF.out
      exact ⟨⟨_, _, _, _, _⟩, rfl, Ins.wf_mk (by first | exact wf64 (by omega) (by omega) | exact wf_wrap _ | assumption) (by first | exact wf64 (by omega) (by omega) | exact wf_wrap _ | assumption) (by first | exact wf64 (by omega) (by omega) | exact wf_wrap _ | assumption) (by first | exact wf64 (by omega) (by omega) | exact wf_wrap _ | assumption) (by first | exact wf64 (by omega) (by omega) | exact wf_wrap _ | assumption), (SE.out.back _ _ _ _ _).2⟩
    | k + 5, h => exact absurd h (by omega)

theorem ins_one (a b c d e : Int) : (#[Value.int .i64 a, .int .i64 b, .int .i64 c, .int .i64 d, .int .i64 e] : Array Value).all (·.oneCell') = true := by
  simp [Value.oneCell']

theorem word_U (i : Ins) : U (wordS i) := by
  unfold wordS layS
  split <;> exact bits_range _ _ _

set_option maxHeartbeats 3200000 in
theorem DrawEncode_c {a : Option Addr} {n : Nat} (cap : Nat) {zs : List Int} (w : World) (hcd : Code w a n zs) :
    Calls Tryd.prog 37 #[.slice a n cap] w fun e w' => ∃ i : Ins, e = .returned i.val ∧ i.wf ∧ Hid (Below w.heap.size w w') := by
  have HD : Hid (Code w a n zs) := hcd
  clear hcd
  have hb0 : Below w.heap.size w (w.alloc (.cells #[.int .i64 0, .int .i64 0, .int .i64 0, .int .i64 0, .int .i64 0] 25)) := (Below.refl _ _).alloc (Nat.le_refl _) _
  obtain ⟨wa, hwa⟩ : ∃ wa, wa = w.alloc (.cells #[.int .i64 0, .int .i64 0, .int .i64 0, .int .i64 0, .int .i64 0] 25) := ⟨_, rfl⟩
  have hra : wa.heap[w.heap.size]? = some (.cells #[.int .i64 0, .int .i64 0, .int .i64 0, .int .i64 0, .int .i64 0] 25 (0, 0)) := by rw [hwa]; exact heap_alloc_new _ _
  have hla : w.heap.size < wa.heap.size := by rw [hwa]; simp
  have HDA : Hid (Code wa a n zs) := by
    rw [hwa]; exact ⟨HD.out.len, HD.out.few, HD.out.sl.below hb0, HD.out.bd⟩
  rw [← hwa] at hb0
  have HB0 : Hid (Below w.heap.size w wa) := hb0
  have HRA : Hid (wa.heap[w.heap.size]? = some (.cells #[.int .i64 0, .int .i64 0, .int .i64 0, .int .i64 0, .int .i64 0] 25 (0, 0))) := hra
  clear hb0 hra
  go_enter Tryd.func37, Tryd.ntmps37
  go_wp2_with fail
  rw [← hwa]
  clear hwa
  refine (l1New_c cap _ HDA.out).mono ?_
  rintro e w1 ⟨g, rfl, hc⟩
  go_wp2_with fail
  refine (l2DrawAny_c HDA.out _ hc.out).mono ?_
  rintro e w2 ⟨⟨o0, o1, o2, o3, o4⟩, rfl, hwf, hs⟩
  simp only [Ins.val]
  have B2 : Below wa.heap.size wa w2 := hs.out.1.below
  have hr2 : w2.heap[w.heap.size]? = some (.cells #[.int .i64 0, .int .i64 0, .int .i64 0, .int .i64 0, .int .i64 0] 25 (0, 0)) := by rw [B2.block _ hla]; exact HRA.out
  have HR2 : Hid (w2.heap[w.heap.size]? = some (.cells #[.int .i64 0, .int .i64 0, .int .i64 0, .int .i64 0, .int .i64 0] 25 (0, 0))) := hr2
  have HB2 : Hid (Below wa.heap.size wa w2) := B2
  have HWF : Hid ((Ins.mk o0 o1 o2 o3 o4).wf) := hwf
  clear hs hc B2 hr2 hwf
  go_wp2_with (first | refine wpList_store_rowTo rfl 25 (.tmp 2) (.tmp 7) rfl rfl w.heap.size #[.int .i64 o0, .int .i64 o1, .int .i64 o2, .int .i64 o3, .int .i64 o4] rfl rfl 25 _ HR2.out inst_sizeD rfl (ins_one _ _ _ _ _) ?_)
  refine bodyPost_ret (results_cell_row Tryd.results37 _ _ w.heap.size 25 _ _ _ rfl (setRow_heap _ _ _ _ _ _ HR2.out) Tryd.underlying25 rfl inst_sizeD) rfl ?_
  exact ⟨⟨o0, o1, o2, o3, o4⟩, rfl, HWF.out, below_setRow (below_trans HB0.out HB2.out) (Nat.le_refl _) _⟩

end Go.Proofs.YtjoaccdbiomdjaaDoorR
