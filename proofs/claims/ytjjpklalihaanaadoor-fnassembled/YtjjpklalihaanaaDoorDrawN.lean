/- Draws out of a few numbers; the cursor where nothing older was touched; the numbers of registers. -/
import Derived.Test.YtjjpklalihaanaaDoorDrawC
import Derived.Test.YtjjpklalihaanaaDoorCsrT
import Derived.Test.YtjjpklalihaanaaDoorBitP
namespace Go.Proofs.YtjjpklalihaanaaDoor
open Go.RowKit
set_option linter.unusedVariables false

theorem Cs.alloc {w0 : World} {g : Nat} {a : Option Addr} {n cap : Nat} {w : World} (h : Cur w0 w g a n cap) (o : Obj) : Cs w0 g a n cap w (w.alloc o) := ⟨h.grown (grown_alloc _ _ _), grown_alloc _ _ _⟩

/-- What a draw out of a few words hands back. -/
theorem few_words {w : World} {b k : Nat} (cs : List Int) (t : TypeId) (hr : w.heap[b]? = some (.cells (cs.map (Value.int .u64)).toArray t (0, 0))) (hu : ∀ x ∈ cs, U x) (hk : k < cs.length) : ∃ v, U v ∧ w.cell? ⟨b, k, none⟩ = some (.int .u64 v) := by
  refine ⟨cs[k], hu _ (List.getElem_mem hk), ?_⟩
  rw [cell_of_row _ _ _ _ _ _ hr]
  simp [List.getElem?_eq_getElem hk]

theorem few_ints {w : World} {b k : Nat} (cs : List Int) (t : TypeId) (hr : w.heap[b]? = some (.cells (cs.map (Value.int .i64)).toArray t (0, 0))) (hu : ∀ x ∈ cs, (Lit.int .i64 x).wf = true) (hk : k < cs.length) : ∃ v, (Lit.int .i64 v).wf = true ∧ w.cell? ⟨b, k, none⟩ = some (.int .i64 v) := by
  refine ⟨cs[k], hu _ (List.getElem_mem hk), ?_⟩
  rw [cell_of_row _ _ _ _ _ _ hr]
  simp [List.getElem?_eq_getElem hk]

/-- Where nothing older than the call was touched, the cursor stays. -/
theorem Cs.of_below {w0 : World} {g : Nat} {a : Option Addr} {n cap : Nat} {w wx : World} (hc : Cur w0 w g a n cap) (hb : Below w.heap.size w wx) : Cs w0 g a n cap w wx := by
  have hg := hc.lt
  obtain ⟨i, x, hi, hrow⟩ := hc.row
  exact ⟨⟨hc.new, below_trans hc.below hb, i, x, hi, by rw [hb.block g hg]; exact hrow⟩, ⟨hb.os, hb.tape, hb.output, hb.size, fun k hk _ => hb.block k hk⟩⟩

theorem infoI : (Tryd.prog.info? 2).map (fun i => (i.zero, i.size, i.bytes)) = some (some (.int .i64 0), 1, 8) := by kernel_rfl

set_option maxHeartbeats 1600000 in
theorem l4DrawNumber_c {w0 : World} {g : Nat} {a : Option Addr} {n cap : Nat} {zs : List Int} (hcd : Code w0 a n zs) (w : World) (hc : Cur w0 w g a n cap) :
    Calls Tryd.prog 42 #[.pointer (some ⟨g, 0, none⟩)] w fun e w' => ∃ x : Int, e = .returned (.int .i64 x) ∧ (Lit.int .i64 x).wf = true ∧ Hid (Cs w0 g a n cap w w') := by
  have HD : Hid (Code w0 a n zs) := hcd
  have HC : Hid (Cur w0 w g a n cap) := hc
  obtain ⟨i0, hi, hz0, hz1, hz2⟩ := info_parts infoI
  have hb9 : (22 + 5) * 8 ≤ 140737488355328 := by omega
  have hm9 : 22 + 5 ≤ maxLen := by unfold maxLen; omega
  have h1c : ∀ u ∈ ([256, 260, 324, 3860, 769] : List Int).map (Value.int .i64), u.oneCell' = true := ints_oneCell _ _
  have hnews : ∀ (W : World) (j : Nat) (u : Value), (([256, 260, 324, 3860, 769] : List Int).map (Value.int .i64))[j]? = some u → (W.alloc (.cells #[.int .i64 256, .int .i64 260, .int .i64 324, .int .i64 3860, .int .i64 769] 2)).cell? ((⟨W.heap.size, 0, none⟩ : Addr).add j) = some u := by
    intro W j u hu
    rw [adds, Nat.zero_add, cell_of_row _ _ _ _ _ _ (heap_alloc_new _ _)]
    rw [← hu]
    simp
  have HN : Hid (∀ (W : World) (j : Nat) (u : Value), (([256, 260, 324, 3860, 769] : List Int).map (Value.int .i64))[j]? = some u → (W.alloc (.cells #[.int .i64 256, .int .i64 260, .int .i64 324, .int .i64 3860, .int .i64 769] 2)).cell? ((⟨W.heap.size, 0, none⟩ : Addr).add j) = some u) := hnews
  clear hcd hc hnews
  go_enter Tryd.func42, Tryd.ntmps42
  go_wp2_with fail
  refine (l4Numbers_any _).mono ?_
  rintro e w1 ⟨rfl, hw1⟩
  have ho1 : w1.ownsRow w.heap.size 2 1 (.slice (some ⟨w.heap.size, 0, none⟩) 22 22) 22 (csrNumbers.map (Value.int .i64)) := by
    rw [hw1]; exact World.ownsRow_lit w _ 22 (Nat.le_refl _) (by unfold maxLen; omega) rfl
  have hb1 : Below w.heap.size w w1 := by rw [hw1]; exact (Below.refl _ _).alloc (Nat.le_refl _) _
  have hE := ho1.alloc (.cells #[.int .i64 256, .int .i64 260, .int .i64 324, .int .i64 3860, .int .i64 769] 2)
  have hlt1 : w.heap.size < w1.heap.size := by rw [hw1]; simp
  clear hw1 ho1
  go_wp2_with (at_builtin; refine wpList_append_own _ rfl (.tmp 4) (.tmp 5) 61 rfl _ 2 i0 (.int .i64 0) 1 8 Tryd.underlying61 hi hz0 hz1 hz2 rfl (by decide) _ 22 (csrNumbers.map (Value.int .i64)) (by rfl) hE ⟨w1.heap.size, 0, none⟩ 5 5 (([256, 260, 324, 3860, 769] : List Int).map (Value.int .i64)) rfl rfl (HN.out _) h1c hm9 hb9 (by simp; omega) ?_; intro v' w2 hown1 hgrow1 hnil1)
  obtain ⟨g2, c2, hv2, hg2⟩ := own_shape hown1 (by omega)
  have B2 : Below w.heap.size w w2 := Below.grown (hb1.alloc hb1.size _) hgrow1 (by simp; omega) (by intro k hk; simp [Value.ownBlock] at hk; omega)
  have HS2 : Hid (Cs w0 g a n cap w w2) := Cs.of_below HC.out B2
  obtain ⟨L, hL⟩ : ∃ L, L = csrNumbers ++ ([256, 260, 324, 3860, 769] : List Int) := ⟨_, rfl⟩
  rw [hv2, ← List.map_append, ← hL] at hown1
  have HWF : Hid (∀ x ∈ L, (Lit.int .i64 x).wf = true) := by rw [hL]; show ∀ x ∈ _, _; decide
  have HLL : Hid (L.length = 27) := by rw [hL]; rfl
  have HO : Hid (w2.ownsRow w.heap.size 2 1 (.slice (some ⟨g2, 0, none⟩) 27 c2) 27 (L.map (Value.int .i64))) := hown1
  have HNE : Hid (g < g2) := Nat.lt_of_lt_of_le HC.out.lt hg2
  rw [hv2]
  clear hL hown1 hgrow1 hnil1 hv2 hE hb1 hlt1 HN h1c hg2 B2
  go_wp2_with fail
  refine (l1Once_c HD.out 14 (by omega) _ HS2.out.1).mono ?_
  rintro e w3 ⟨c, rfl, hs3⟩
  cases c with
  | true =>
    go_wp2_with fail
    have HA := Cs.alloc hs3.out.1 (.cells #[.int .i64 0, .int .i64 1, .int .i64 769, .int .i64 2816, .int .i64 3072, .int .i64 4095] 2)
    refine (l1Below_c HD.out 6 (by omega) _ HA.1).mono ?_
    rintro e w4 ⟨x, rfl, ⟨hx0, hx1⟩, hs4⟩
    obtain ⟨k, rfl⟩ := Int.eq_ofNat_of_zero_le hx0
    obtain ⟨v, hv, hcell⟩ := few_ints [0, 1, 769, 2816, 3072, 4095] 2 (hs4.out.keep (heap_alloc_new _ _) (Nat.ne_of_gt hs3.out.1.lt)) (by decide) (k := k) (by simp; omega)
    have HV : Hid ((Lit.int .i64 v).wf = true) := hv
    have HS : Hid (Cs w0 g a n cap w w4) := HS2.out.trans (hs3.out.trans (HA.trans hs4.out))
    clear hv hs3 hs4 HA HC
    go_wp2_with fail
    go_ret
    exact ⟨_, rfl, HV.out, HS⟩
  | false =>
    go_wp2_with fail
    refine (l1Below_c HD.out 27 (by omega) _ hs3.out.1).mono ?_
    rintro e w4 ⟨x, rfl, ⟨hx0, hx1⟩, hs4⟩
    obtain ⟨k, rfl⟩ := Int.eq_ofNat_of_zero_le hx0
    have hs34 := hs3.out.trans hs4.out
    have ho4 := kept_of HO.out hs34.2 (by intro j hj hne; have := HNE.out; simp [Value.ownBlock] at hj hne; omega)
    obtain ⟨b, off, e, _, hcl⟩ := own_sl ho4 k (by have := HLL.out; omega)
    simp only [Option.some.injEq, Addr.mk.injEq, and_true] at e
    obtain ⟨rfl, rfl⟩ := e
    rw [Nat.zero_add] at hcl
    have HV : Hid ((Lit.int .i64 (L.getD k 0)).wf = true) := by
      have hk : k < L.length := by have := HLL.out; omega
      have e : L.getD k 0 = L[k] := by simp [List.getD, List.getElem?_eq_getElem hk]
      show (Lit.int .i64 (L.getD k 0)).wf = true
      rw [e]; exact HWF.out _ (List.getElem_mem hk)
    generalize L.getD k 0 = v at *
    have HS : Hid (Cs w0 g a n cap w w4) := HS2.out.trans hs34
    clear ho4 hs34 hs3 hs4 HC
    go_wp2_with fail
    go_ret
    exact ⟨_, rfl, HV.out, HS⟩

end Go.Proofs.YtjjpklalihaanaaDoor
