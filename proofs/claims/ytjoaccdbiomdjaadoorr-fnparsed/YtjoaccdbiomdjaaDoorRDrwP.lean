/- What Show and Parse are drawn. -/
import Derived.Test.YtjoaccdbiomdjaaDoorRBenC
import Derived.Test.YtjoaccdbiomdjaaDoorRDrawJ
import Derived.Test.YtjoaccdbiomdjaaDoorRShoP
namespace Go.Proofs.YtjoaccdbiomdjaaDoorR
open Go.RowKit
set_option linter.unusedVariables false

set_option maxHeartbeats 3200000 in
theorem DrawShow_c {a : Option Addr} {n : Nat} (cap : Nat) {zs : List Int} (w : World) (hcd : Code w a n zs) :
    Calls Tryd.prog 19 #[.slice a n cap] w fun e w' => ∃ i : Ins, e = .returned i.val ∧ i.wf ∧ Hid (Below w.heap.size w w') := by
  have HD : Hid (Code w a n zs) := hcd
  clear hcd
  have hb0 : Below w.heap.size w (w.alloc (.cells #[.int .i64 0, .int .i64 0, .int .i64 0, .int .i64 0, .int .i64 0] 25)) := (Below.refl _ _).alloc (Nat.le_refl _) _
  obtain ⟨wa, hwa⟩ : ∃ wa, wa = w.alloc (.cells #[.int .i64 0, .int .i64 0, .int .i64 0, .int .i64 0, .int .i64 0] 25) := ⟨_, rfl⟩
  have hra : wa.heap[w.heap.size]? = some (.cells #[.int .i64 0, .int .i64 0, .int .i64 0, .int .i64 0, .int .i64 0] 25 (0, 0)) := by rw [hwa]; exact heap_alloc_new _ _
  have hla : w.heap.size < wa.heap.size := by rw [hwa]; simp
  have HDA : Hid (Code wa a n zs) := by
    rw [hwa]; exact ⟨HD.out.len, HD.out.few, HD.out.sl.below hb0, HD.out.bd⟩
  rw [← hwa] at hb0
  have HB0 : Hid (Below w.heap.size w wa) := hb0
  have HRA : Hid (wa.heap[w.heap.size]? = some (.cells #[.int .i64 0, .int .i64 0, .int .i64 0, .int .i64 0, .int .i64 0] 25 (0, 0))) := hra
  clear hb0 hra
  go_enter Tryd.func19, Tryd.ntmps19
  go_wp2_with fail
  rw [← hwa]
  clear hwa
  refine (DrawEncode_c cap _ HDA.out).mono ?_
  rintro e w2 ⟨⟨o0, o1, o2, o3, o4⟩, rfl, hwf, hs⟩
  simp only [Ins.val]
  have B2 : Below wa.heap.size wa w2 := hs.out
  have hr2 : w2.heap[w.heap.size]? = some (.cells #[.int .i64 0, .int .i64 0, .int .i64 0, .int .i64 0, .int .i64 0] 25 (0, 0)) := by rw [B2.block _ hla]; exact HRA.out
  have HR2 : Hid (w2.heap[w.heap.size]? = some (.cells #[.int .i64 0, .int .i64 0, .int .i64 0, .int .i64 0, .int .i64 0] 25 (0, 0))) := hr2
  have HB2 : Hid (Below wa.heap.size wa w2) := B2
  have HWF : Hid ((Ins.mk o0 o1 o2 o3 o4).wf) := hwf
  clear hs B2 hr2 hwf
  go_wp2_with (first | refine wpList_store_rowTo rfl 25 (.tmp 2) (.tmp 4) rfl rfl w.heap.size #[.int .i64 o0, .int .i64 o1, .int .i64 o2, .int .i64 o3, .int .i64 o4] rfl rfl 25 _ HR2.out inst_sizeD rfl (ins_one _ _ _ _ _) ?_)
  refine bodyPost_ret (results_cell_row Tryd.results19 _ _ w.heap.size 25 _ _ _ rfl (setRow_heap _ _ _ _ _ _ HR2.out) Tryd.underlying25 rfl inst_sizeD) rfl ?_
  exact ⟨⟨o0, o1, o2, o3, o4⟩, rfl, HWF.out, below_setRow (below_trans HB0.out HB2.out) (Nat.le_refl _) _⟩

theorem showL_len (i : Ins) (h : IW i) : (showL i).length ≤ 120 := by
  unfold showL
  split
  · exact shText_len i h
  · simp

set_option maxHeartbeats 3200000 in
theorem DrawParse_c {a : Option Addr} {n : Nat} (cap : Nat) {zs : List Int} (w : World) (hcd : Code w a n zs) :
    Calls Tryd.prog 20 #[.slice a n cap] w fun e w' => ∃ s : ByteArray, e = .returned (.string s) ∧ s.size ≤ 122 ∧ Hid (Below w.heap.size w w') := by
  have HD : Hid (Code w a n zs) := hcd
  clear hcd
  go_enter Tryd.func20, Tryd.ntmps20
  go_wp2_with fail
  refine (l1New_c cap _ HD.out).mono ?_
  rintro e w1 ⟨g, rfl, hc⟩
  go_wp2_with fail
  refine (l2DrawAny_c HD.out _ hc.out).mono ?_
  rintro e w2 ⟨i, rfl, hwf, hs2⟩
  have C2 : Hid (Cur w w2 g a n cap) := hs2.out.1
  obtain ⟨T, hT0⟩ : ∃ T : ByteArray, T = ⟨(showL i).toArray⟩ := ⟨_, rfl⟩
  have HS : Hid (∀ W : World, Calls Tryd.prog 7 #[i.val] W fun e w' => e = .returned (.string T) ∧ Below W.heap.size W w') := fun W => by rw [hT0]; exact specShow_any i hwf W
  have hTl : T.size ≤ 120 := by rw [hT0]; simpa [ByteArray.size] using showL_len i hwf
  clear hs2 hc hwf hT0
  go_wp2_with fail
  refine (HS.out _).mono ?_
  rintro e w3 ⟨rfl, hb3⟩
  have C3 : Hid (Cur w w3 g a n cap) := (Cs.of_below C2.out hb3).1
  clear C2 hb3
  go_wp2_with fail
  refine (l1Once_c HD.out 3 (by omega) _ C3.out).mono ?_
  rintro e w4 ⟨c, rfl, hs4⟩
  have C4 : Hid (Cur w w4 g a n cap) := hs4.out.1
  clear hs4 C3
  cases c with
  | true =>
    go_wp2_with fail
    refine (l13Bend_c HD.out T (by omega) _ C4.out).mono ?_
    rintro e w5 ⟨t, rfl, htl, hs5⟩
    go_wp2_with fail
    go_ret
    exact ⟨t, rfl, by omega, hs5.out.1.below⟩
  | false =>
    go_wp2_with fail
    go_ret
    exact ⟨T, rfl, by omega, C4.out.below⟩

end Go.Proofs.YtjoaccdbiomdjaaDoorR
