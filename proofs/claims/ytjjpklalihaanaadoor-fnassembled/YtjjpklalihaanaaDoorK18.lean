/- Own lemmas. -/
import Derived.Test.YtjjpklalihaanaaDoorK01
import Derived.Test.YtjjpklalihaanaaDoorK02
import Derived.Test.YtjjpklalihaanaaDoorK14
import Derived.Test.YtjjpklalihaanaaDoorK16
import Derived.WalkKit
import Derived.OwnWalk
namespace Go.Proofs.YtjjpklalihaanaaDoor
open Go.RowKit
set_option linter.unusedVariables false

def csrNumbers : List Int := [768, 770, 771, 772, 773, 832, 833, 834, 835, 836, 261, 320, 321, 322, 323, 384, 928, 944, 945, 946, 947, 2818]

theorem l4Numbers_any (w : World) : Calls Tryd.prog 61 #[] w fun e w' => e = .returned (.slice (some ⟨w.heap.size, 0, none⟩) 22 22) ∧ w' = w.alloc (.cells (csrNumbers.map (Value.int .i64)).toArray 2) := by
  go_enter Tryd.func61, Tryd.ntmps61
  go_wp2_with fail
  go_ret
  exact ⟨rfl, rfl⟩

end Go.Proofs.YtjjpklalihaanaaDoor

namespace Go.Proofs.YtjjpklalihaanaaDoor
open Go.RowKit
set_option linter.unusedVariables false

def U (x : Int) : Prop := 0 ≤ x ∧ x < 18446744073709551616

theorem Cs.alloc {w0 : World} {g : Nat} {a : Option Addr} {n cap : Nat} {w : World} (h : Cur w0 w g a n cap) (o : Obj) : Cs w0 g a n cap w (w.alloc o) := ⟨h.grown (grown_alloc _ _ _), grown_alloc _ _ _⟩

theorem few_ints {w : World} {b k : Nat} (cs : List Int) (t : TypeId) (hr : w.heap[b]? = some (.cells (cs.map (Value.int .i64)).toArray t (0, 0))) (hu : ∀ x ∈ cs, (Lit.int .i64 x).wf = true) (hk : k < cs.length) : ∃ v, (Lit.int .i64 v).wf = true ∧ w.cell? ⟨b, k, none⟩ = some (.int .i64 v) := by
  refine ⟨cs[k], hu _ (List.getElem_mem hk), ?_⟩
  rw [cell_of_row _ _ _ _ _ _ hr]
  simp [List.getElem?_eq_getElem hk]

theorem Cs.of_below {w0 : World} {g : Nat} {a : Option Addr} {n cap : Nat} {w wx : World} (hc : Cur w0 w g a n cap) (hb : Below w.heap.size w wx) : Cs w0 g a n cap w wx := by
  have hg := hc.lt
  obtain ⟨i, x, hi, hrow⟩ := hc.row
  exact ⟨⟨hc.new, below_trans hc.below hb, i, x, hi, by rw [hb.block g hg]; exact hrow⟩, ⟨hb.os, hb.tape, hb.output, hb.size, fun k hk _ => hb.block k hk⟩⟩

theorem infoI : (Tryd.prog.info? 2).map (fun i => (i.zero, i.size, i.bytes)) = some (some (.int .i64 0), 1, 8) := by kernel_rfl

set_option maxHeartbeats 1600000 in
theorem l4DrawNumber_c {w0 : World} {g : Nat} {a : Option Addr} {n cap : Nat} {zs : List Int} (hcd : Code w0 a n zs) (w : World) (hc : Cur w0 w g a n cap) :
    Calls Tryd.prog 42 #[.pointer (some ⟨g, 0, none⟩)] w fun e w' => ∃ x : Int, e = .returned (.int .i64 x) ∧ (Lit.int .i64 x).wf = true ∧ Hid (Cs w0 g a n cap w w') := by
  have HD : Hid (Code w0 a n zs) := hcd
  have HC : Hid (Cur w0 w g a n cap) := hc
  obtain ⟨i0, hi, hz0, hz1, hz2⟩ := info_parts infoI
  have hb9 : (22 + 5) * 8 ≤ 140737488355328 := by omega
  have hm9 : 22 + 5 ≤ maxLen := by unfold maxLen; omega
  have h1c : ∀ u ∈ ([256, 260, 324, 3860, 769] : List Int).map (Value.int .i64), u.oneCell' = true := ints_oneCell _ _
  have hnews : ∀ (W : World) (j : Nat) (u : Value), (([256, 260, 324, 3860, 769] : List Int).map (Value.int .i64))[j]? = some u → (W.alloc (.cells #[.int .i64 256, .int .i64 260, .int .i64 324, .int .i64 3860, .int .i64 769] 2)).cell? ((⟨W.heap.size, 0, none⟩ : Addr).add j) = some u := by
    intro W j u hu
    rw [adds, Nat.zero_add, cell_of_row _ _ _ _ _ _ (heap_alloc_new _ _)]
    rw [← hu]
    simp
  have HN : Hid (∀ (W : World) (j : Nat) (u : Value), (([256, 260, 324, 3860, 769] : List Int).map (Value.int .i64))[j]? = some u → (W.alloc (.cells #[.int .i64 256, .int .i64 260, .int .i64 324, .int .i64 3860, .int .i64 769] 2)).cell? ((⟨W.heap.size, 0, none⟩ : Addr).add j) = some u) := hnews
  clear hcd hc hnews
  go_enter Tryd.func42, Tryd.ntmps42
  go_wp2_with fail
  refine (l4Numbers_any _).mono ?_
  rintro e w1 ⟨rfl, hw1⟩
  have ho1 : w1.ownsRow w.heap.size 2 1 (.slice (some ⟨w.heap.size, 0, none⟩) 22 22) 22 (csrNumbers.map (Value.int .i64)) := by
    rw [hw1]; exact World.ownsRow_lit w _ 22 (Nat.le_refl _) (by unfold maxLen; omega) rfl
  have hb1 : Below w.heap.size w w1 := by rw [hw1]; exact (Below.refl _ _).alloc (Nat.le_refl _) _
  have hE := ho1.alloc (.cells #[.int .i64 256, .int .i64 260, .int .i64 324, .int .i64 3860, .int .i64 769] 2)
  have hlt1 : w.heap.size < w1.heap.size := by rw [hw1]; simp
  clear hw1 ho1
  go_wp2_with (at_builtin; refine wpList_append_own _ rfl (.tmp 4) (.tmp 5) 61 rfl _ 2 i0 (.int .i64 0) 1 8 Tryd.underlying61 hi hz0 hz1 hz2 rfl (by decide) _ 22 (csrNumbers.map (Value.int .i64)) (by rfl) hE ⟨w1.heap.size, 0, none⟩ 5 5 (([256, 260, 324, 3860, 769] : List Int).map (Value.int .i64)) rfl rfl (HN.out _) h1c hm9 hb9 (by simp; omega) ?_; intro v' w2 hown1 hgrow1 hnil1)
  obtain ⟨g2, c2, hv2, hg2⟩ := own_shape hown1 (by omega)
  have B2 : Below w.heap.size w w2 := Below.grown (hb1.alloc hb1.size _) hgrow1 (by simp; omega) (by intro k hk; simp [Value.ownBlock] at hk; omega)
  have HS2 : Hid (Cs w0 g a n cap w w2) := Cs.of_below HC.out B2
  obtain ⟨L, hL⟩ : ∃ L, L = csrNumbers ++ ([256, 260, 324, 3860, 769] : List Int) := ⟨_, rfl⟩
  rw [hv2, ← List.map_append, ← hL] at hown1
  have HWF : Hid (∀ x ∈ L, (Lit.int .i64 x).wf = true) := by rw [hL]; show ∀ x ∈ _, _; decide
  have HLL : Hid (L.length = 27) := by rw [hL]; rfl
  have HO : Hid (w2.ownsRow w.heap.size 2 1 (.slice (some ⟨g2, 0, none⟩) 27 c2) 27 (L.map (Value.int .i64))) := hown1
  have HNE : Hid (g < g2) := Nat.lt_of_lt_of_le HC.out.lt hg2
  rw [hv2]
  clear hL hown1 hgrow1 hnil1 hv2 hE hb1 hlt1 HN h1c hg2 B2
  go_wp2_with fail
  refine (l1Once_c HD.out 14 (by omega) _ HS2.out.1).mono ?_
  rintro e w3 ⟨c, rfl, hs3⟩
  cases c with
  | true =>
    go_wp2_with fail
    have HA := Cs.alloc hs3.out.1 (.cells #[.int .i64 0, .int .i64 1, .int .i64 769, .int .i64 2816, .int .i64 3072, .int .i64 4095] 2)
    refine (l1Below_c HD.out 6 (by omega) _ HA.1).mono ?_
    rintro e w4 ⟨x, rfl, ⟨hx0, hx1⟩, hs4⟩
    obtain ⟨k, rfl⟩ := Int.eq_ofNat_of_zero_le hx0
    obtain ⟨v, hv, hcell⟩ := few_ints [0, 1, 769, 2816, 3072, 4095] 2 (hs4.out.keep (heap_alloc_new _ _) (Nat.ne_of_gt hs3.out.1.lt)) (by decide) (k := k) (by simp; omega)
    have HV : Hid ((Lit.int .i64 v).wf = true) := hv
    have HS : Hid (Cs w0 g a n cap w w4) := HS2.out.trans (hs3.out.trans (HA.trans hs4.out))
    clear hv hs3 hs4 HA HC
    go_wp2_with fail
    go_ret
    exact ⟨_, rfl, HV.out, HS⟩
  | false =>
    go_wp2_with fail
    refine (l1Below_c HD.out 27 (by omega) _ hs3.out.1).mono ?_
    rintro e w4 ⟨x, rfl, ⟨hx0, hx1⟩, hs4⟩
    obtain ⟨k, rfl⟩ := Int.eq_ofNat_of_zero_le hx0
    have hs34 := hs3.out.trans hs4.out
    have ho4 := kept_of HO.out hs34.2 (by intro j hj hne; have := HNE.out; simp [Value.ownBlock] at hj hne; omega)
    obtain ⟨b, off, e, _, hcl⟩ := own_sl ho4 k (by have := HLL.out; omega)
    simp only [Option.some.injEq, Addr.mk.injEq, and_true] at e
    obtain ⟨rfl, rfl⟩ := e
    rw [Nat.zero_add] at hcl
    have HV : Hid ((Lit.int .i64 (L.getD k 0)).wf = true) := by
      have hk : k < L.length := by have := HLL.out; omega
      have e : L.getD k 0 = L[k] := by simp [List.getD, List.getElem?_eq_getElem hk]
      show (Lit.int .i64 (L.getD k 0)).wf = true
      rw [e]; exact HWF.out _ (List.getElem_mem hk)
    generalize L.getD k 0 = v at *
    have HS : Hid (Cs w0 g a n cap w w4) := HS2.out.trans hs34
    clear ho4 hs34 hs3 hs4 HC
    go_wp2_with fail
    go_ret
    exact ⟨_, rfl, HV.out, HS⟩

theorem wf_wrap (x : Int) : (Lit.int .i64 (wrap64 x)).wf = true := by
  unfold wrap64; exact wf64 (by omega) (by omega)

theorem zero_wf : (Lit.int .i64 0).wf = true := by decide

def Ins.wf (i : Ins) : Prop := (Lit.int .i64 i.op).wf = true ∧ (Lit.int .i64 i.rd).wf = true ∧ (Lit.int .i64 i.a).wf = true ∧ (Lit.int .i64 i.b).wf = true ∧ (Lit.int .i64 i.imm).wf = true

theorem Ins.wf_mk {v0 v1 v2 v3 v4 : Int} (h0 : (Lit.int .i64 v0).wf = true) (h1 : (Lit.int .i64 v1).wf = true) (h2 : (Lit.int .i64 v2).wf = true) (h3 : (Lit.int .i64 v3).wf = true) (h4 : (Lit.int .i64 v4).wf = true) : (Ins.mk v0 v1 v2 v3 v4).wf := ⟨h0, h1, h2, h3, h4⟩

def Ins.cells (i : Ins) : Array Value := #[.int .i64 i.op, .int .i64 i.rd, .int .i64 i.a, .int .i64 i.b, .int .i64 i.imm]

def InsAt (w : World) (b : Nat) : Prop := ∃ i : Ins, i.wf ∧ w.heap[b]? = some (.cells i.cells 30 (0, 0))

def It (w0 : World) (g : Nat) (a : Option Addr) (n cap : Nat) (w : World) (rb ib : Nat) (wr : World) : Prop :=
  Cs w0 g a n cap w wr ∧ InsAt wr rb ∧ InsAt wr ib ∧ w.heap.size ≤ rb ∧ w.heap.size ≤ ib ∧ rb ≠ ib ∧ g < w.heap.size

theorem Cs.put {w0 : World} {g : Nat} {a : Option Addr} {n cap : Nat} {w wr : World} (h : Cs w0 g a n cap w wr) (hg : g < w.heap.size) (b j : Nat) (hb : w.heap.size ≤ b) (v : Value) : Cs w0 g a n cap w (wr.setCell ⟨b, j, none⟩ v) := by
  obtain ⟨hc, hw⟩ := h
  obtain ⟨i, x, hi, hrow⟩ := hc.row
  refine ⟨⟨hc.new, hc.below.setCell ?_ _, i, x, hi, ?_⟩, ⟨hw.os, hw.tape, hw.output, by simpa [World.setCell] using hw.size, fun k hk hne => ?_⟩⟩
  · show w0.heap.size ≤ b
    have := hc.new; omega
  · rw [heap_setCell_other _ _ _ _ (by show g ≠ b; omega)]; exact hrow
  · rw [heap_setCell_other _ _ _ _ (by show k ≠ b; omega)]; exact hw.block k hk hne

theorem heap_setC {w : World} {g : Nat} {cs : Array Value} {t : TypeId} {fr : Nat × Nat} (h : w.heap[g]? = some (.cells cs t fr)) (i : Nat) (v : Value) :
    (w.setCell ⟨g, i, none⟩ v).heap[g]? = some (.cells (cs.setIfInBounds i v) t fr) := by
  simp [World.setCell, Array.getElem?_modify, h]

theorem InsAt.put {w : World} {b : Nat} (h : InsAt w b) (j : Nat) (hj : j < 5) (v : Int) (hv : (Lit.int .i64 v).wf = true) : InsAt (w.setCell ⟨b, j, none⟩ (.int .i64 v)) b := by
  obtain ⟨i, ⟨h0, h1, h2, h3, h4⟩, hr⟩ := h
  have hs := heap_setC hr j (.int .i64 v)
  match j, hj with
  | 0, _ => exact ⟨{ i with op := v }, ⟨hv, h1, h2, h3, h4⟩, hs⟩
  | 1, _ => exact ⟨{ i with rd := v }, ⟨h0, hv, h2, h3, h4⟩, hs⟩
  | 2, _ => exact ⟨{ i with a := v }, ⟨h0, h1, hv, h3, h4⟩, hs⟩
  | 3, _ => exact ⟨{ i with b := v }, ⟨h0, h1, h2, hv, h4⟩, hs⟩
  | 4, _ => exact ⟨{ i with imm := v }, ⟨h0, h1, h2, h3, hv⟩, hs⟩

theorem InsAt.other {w : World} {b : Nat} (h : InsAt w b) (c j : Nat) (hc : b ≠ c) (v : Value) : InsAt (w.setCell ⟨c, j, none⟩ v) b := by
  obtain ⟨i, hw, hr⟩ := h
  exact ⟨i, hw, by rw [heap_setCell_other _ _ _ _ hc]; exact hr⟩

theorem It.next {w0 : World} {g : Nat} {a : Option Addr} {n cap : Nat} {w wr wx : World} {rb ib : Nat} (h : It w0 g a n cap w rb ib wr) (k : Cs w0 g a n cap wr wx) : It w0 g a n cap w rb ib wx := by
  obtain ⟨hc, ⟨i, hi, hr⟩, ⟨j, hj, hs⟩, h1, h2, h3, h4⟩ := h
  exact ⟨hc.trans k, ⟨i, hi, k.keep hr (by omega)⟩, ⟨j, hj, k.keep hs (by omega)⟩, h1, h2, h3, h4⟩

theorem It.put {w0 : World} {g : Nat} {a : Option Addr} {n cap : Nat} {w wr : World} {rb ib : Nat} (h : It w0 g a n cap w rb ib wr) (j : Nat) (hj : j < 5) (v : Int) (hv : (Lit.int .i64 v).wf = true) : It w0 g a n cap w rb ib (wr.setCell ⟨ib, j, none⟩ (.int .i64 v)) := by
  obtain ⟨hc, h1, h2, h3, h4, h5, h6⟩ := h
  exact ⟨hc.put h6 ib j h4 _, h1.other ib j h5 _, h2.put j hj v hv, h3, h4, h5, h6⟩

theorem It.cur {w0 : World} {g : Nat} {a : Option Addr} {n cap : Nat} {w wr : World} {rb ib : Nat} (h : It w0 g a n cap w rb ib wr) : Cur w0 wr g a n cap := h.1.1

theorem It.facts {w0 : World} {g : Nat} {a : Option Addr} {n cap : Nat} {w wr : World} {rb ib : Nat} (h : It w0 g a n cap w rb ib wr) :
    ∃ (i j : Ins), i.wf ∧ (wr.cell? ⟨ib, 0, none⟩ = some (.int .i64 i.op) ∧ wr.cell? ⟨ib, 1, none⟩ = some (.int .i64 i.rd) ∧ wr.cell? ⟨ib, 2, none⟩ = some (.int .i64 i.a) ∧ wr.cell? ⟨ib, 3, none⟩ = some (.int .i64 i.b) ∧ wr.cell? ⟨ib, 4, none⟩ = some (.int .i64 i.imm)) ∧
      (wr.frozen? ⟨ib, 0, none⟩ = false ∧ wr.frozen? ⟨ib, 1, none⟩ = false ∧ wr.frozen? ⟨ib, 2, none⟩ = false ∧ wr.frozen? ⟨ib, 3, none⟩ = false ∧ wr.frozen? ⟨ib, 4, none⟩ = false) ∧
      (wr.cell? ⟨rb, 0, none⟩ = some (.int .i64 j.op) ∧ wr.cell? ⟨rb, 1, none⟩ = some (.int .i64 j.rd) ∧ wr.cell? ⟨rb, 2, none⟩ = some (.int .i64 j.a) ∧ wr.cell? ⟨rb, 3, none⟩ = some (.int .i64 j.b) ∧ wr.cell? ⟨rb, 4, none⟩ = some (.int .i64 j.imm)) ∧
      (wr.frozen? ⟨rb, 0, none⟩ = false ∧ wr.frozen? ⟨rb, 1, none⟩ = false ∧ wr.frozen? ⟨rb, 2, none⟩ = false ∧ wr.frozen? ⟨rb, 3, none⟩ = false ∧ wr.frozen? ⟨rb, 4, none⟩ = false) := by
  obtain ⟨hc, ⟨j, hj, hr⟩, ⟨i, hi, hs⟩, _⟩ := h
  refine ⟨i, j, hi, ⟨?_, ?_, ?_, ?_, ?_⟩, ⟨?_, ?_, ?_, ?_, ?_⟩, ⟨?_, ?_, ?_, ?_, ?_⟩, ⟨?_, ?_, ?_, ?_, ?_⟩⟩
  · exact cell_of_row _ _ _ _ _ _ hs
  · exact cell_of_row _ _ _ _ _ _ hs
  · exact cell_of_row _ _ _ _ _ _ hs
  · exact cell_of_row _ _ _ _ _ _ hs
  · exact cell_of_row _ _ _ _ _ _ hs
  · exact frozen_of_row _ _ _ _ _ hs
  · exact frozen_of_row _ _ _ _ _ hs
  · exact frozen_of_row _ _ _ _ _ hs
  · exact frozen_of_row _ _ _ _ _ hs
  · exact frozen_of_row _ _ _ _ _ hs
  · exact cell_of_row _ _ _ _ _ _ hr
  · exact cell_of_row _ _ _ _ _ _ hr
  · exact cell_of_row _ _ _ _ _ _ hr
  · exact cell_of_row _ _ _ _ _ _ hr
  · exact cell_of_row _ _ _ _ _ _ hr
  · exact frozen_of_row _ _ _ _ _ hr
  · exact frozen_of_row _ _ _ _ _ hr
  · exact frozen_of_row _ _ _ _ _ hr
  · exact frozen_of_row _ _ _ _ _ hr
  · exact frozen_of_row _ _ _ _ _ hr

def formO : Option Fm → ByteArray
  | none => ⟨#[]⟩
  | some f => f.str

theorem form_of (op : Int) : ∃ fo : Option Fm, formOf op = formO fo := by
  unfold formOf
  split
  · exact ⟨some _, rfl⟩
  · exact ⟨none, rfl⟩

theorem inst_sizeD : (Tryd.prog.info? 30).map (·.size) = some 5 := by kernel_rfl

theorem It.back {w0 : World} {g : Nat} {a : Option Addr} {n cap : Nat} {w wr : World} {rb ib : Nat} (h : It w0 g a n cap w rb ib wr) (v0 v1 v2 v3 v4 : Int) :
    ((((((wr.setCell ⟨rb, 0, none⟩ (.int .i64 v0)).setCell ⟨rb, 1, none⟩ (.int .i64 v1)).setCell ⟨rb, 2, none⟩ (.int .i64 v2)).setCell ⟨rb, 3, none⟩ (.int .i64 v3)).setCell ⟨rb, 4, none⟩ (.int .i64 v4)).heap[rb]? = some (.cells (Ins.mk v0 v1 v2 v3 v4).cells 30 (0, 0))) ∧
      Cs w0 g a n cap w (((((wr.setCell ⟨rb, 0, none⟩ (.int .i64 v0)).setCell ⟨rb, 1, none⟩ (.int .i64 v1)).setCell ⟨rb, 2, none⟩ (.int .i64 v2)).setCell ⟨rb, 3, none⟩ (.int .i64 v3)).setCell ⟨rb, 4, none⟩ (.int .i64 v4)) := by
  obtain ⟨hc, ⟨j, hj, hr⟩, _, h1, h2, h3, h4⟩ := h
  refine ⟨?_, ((((hc.put h4 rb 0 h1 _).put h4 rb 1 h1 _).put h4 rb 2 h1 _).put h4 rb 3 h1 _).put h4 rb 4 h1 _⟩
  exact heap_setC (heap_setC (heap_setC (heap_setC (heap_setC hr 0 _) 1 _) 2 _) 3 _) 4 _

theorem l1From_c {w0 : World} {g : Nat} {a : Option Addr} {n cap : Nat} {zs : List Int} (hcd : Code w0 a n zs) (lo hi : Int) (h0 : -4611686018427387904 ≤ lo) (h1 : hi ≤ 2305843009213693952) (h2 : lo ≤ hi) (h3 : hi - lo ≤ 2305843009213693952) (w : World) (hc : Cur w0 w g a n cap) :
    Calls Tryd.prog 41 #[.pointer (some ⟨g, 0, none⟩), .int .i64 lo, .int .i64 hi] w fun e w' => ∃ x : Int, e = .returned (.int .i64 x) ∧ (lo ≤ x ∧ x ≤ hi) ∧ Hid (Cs w0 g a n cap w w') := by
  have HD : Hid (Code w0 a n zs) := hcd
  have HC : Hid (Cur w0 w g a n cap) := hc
  clear hcd hc
  go_enter Tryd.func41, Tryd.ntmps41
  go_wp2_with fail
  refine (l1Below_c HD.out _ ?_ _ HC.out).mono ?_
  · first | omega | (unfold wrap64; omega)
  rintro e w1 ⟨x, rfl, ⟨p, q⟩, hs⟩
  go_wp2_with fail
  go_ret
  refine ⟨_, rfl, ?_, hs⟩
  first | (constructor <;> omega) | (unfold wrap64 at *; constructor <;> omega)

set_option maxRecDepth 20000 in
set_option maxHeartbeats 12800000 in
theorem l2Draw_c {w0 : World} {g : Nat} {a : Option Addr} {n cap : Nat} {zs : List Int} (hcd : Code w0 a n zs) (w : World) (hc : Cur w0 w g a n cap) :
    Calls Tryd.prog 16 #[.pointer (some ⟨g, 0, none⟩)] w fun e w' => ∃ i : Ins, e = .returned i.val ∧ i.wf ∧ Hid (Cs w0 g a n cap w w') := by
  have HD : Hid (Code w0 a n zs) := hcd
  have HC : Hid (Cur w0 w g a n cap) := hc
  have hgw := hc.lt
  clear hcd hc
  go_enter Tryd.func16, Tryd.ntmps16
  go_wp2_with fail
  have HA := Cs.alloc HC.out (.cells #[.int .i64 0, .int .i64 0, .int .i64 0, .int .i64 0, .int .i64 0] 30)
  refine (l1Below_c HD.out 98 (by omega) _ HA.1).mono ?_
  rintro e w1 ⟨op0, rfl, ⟨ol, oh⟩, hs1⟩
  have hr1 : w1.heap[w.heap.size]? = some (.cells #[.int .i64 0, .int .i64 0, .int .i64 0, .int .i64 0, .int .i64 0] 30 (0, 0)) := hs1.out.keep (heap_alloc_new _ _) (by omega)
  have hs1a := HA.trans hs1.out
  have hlt1 : w.heap.size < w1.heap.size := by
    have := hs1.out.2.size
    simp at this
    omega
  obtain ⟨op, hop⟩ : ∃ op, 1 + op0 = op := ⟨_, rfl⟩
  have S0 : Hid (It w0 g a n cap w w.heap.size w1.heap.size (w1.alloc (.cells #[.int .i64 op, .int .i64 0, .int .i64 0, .int .i64 0, .int .i64 0] 30))) := by
    refine ⟨hs1a.trans (Cs.alloc hs1a.1 _), ⟨⟨0, 0, 0, 0, 0⟩, ⟨zero_wf, zero_wf, zero_wf, zero_wf, zero_wf⟩, ?_⟩, ⟨⟨op, 0, 0, 0, 0⟩, ⟨(wf64 (by omega) (by omega) : (Lit.int .i64 op).wf = true), zero_wf, zero_wf, zero_wf, zero_wf⟩, heap_alloc_new _ _⟩, Nat.le_refl _, by omega, by omega, hgw⟩
    rw [heap_alloc_old w1 _ hlt1]; exact hr1
  have h98 : (1 : Int) + op0 = op := hop
  have hoplo : 1 ≤ op := by omega
  have hophi : op ≤ 98 := by omega
  obtain ⟨rb, hrb⟩ : ∃ rb, w.heap.size = rb := ⟨_, rfl⟩
  obtain ⟨ib, hib⟩ : ∃ ib, w1.heap.size = ib := ⟨_, rfl⟩
  clear hr1 hs1 hs1a HA hlt1
  go_wp2_with fail
  rw [hrb, hib] at S0
  clear hrb hib hop h98 HC hgw hoplo hophi
  refine (l1Below_c HD.out 8 (by omega) _ S0.out.cur).mono ?_
  rintro e wa ⟨rd0, rfl, ⟨rd0l, rd0h⟩, hs⟩
  have S1 : Hid (It w0 g a n cap w rb ib wa) := S0.out.next hs.out
  clear hs S0
  have rd0h2 : rd0 < 32 := by omega
  clear rd0h
  go_wp2_with fail
  refine (l1Below_c HD.out 8 (by omega) _ S1.out.cur).mono ?_
  rintro e wb ⟨aa0, rfl, ⟨aa0l, aa0h⟩, hs⟩
  have S2 : Hid (It w0 g a n cap w rb ib wb) := S1.out.next hs.out
  clear hs S1
  have aa0h2 : aa0 < 32 := by omega
  clear aa0h
  go_wp2_with fail
  refine (l1Below_c HD.out 8 (by omega) _ S2.out.cur).mono ?_
  rintro e wc ⟨bb0, rfl, ⟨bb0l, bb0h⟩, hs⟩
  have S3 : Hid (It w0 g a n cap w rb ib wc) := S2.out.next hs.out
  clear hs S2
  have bb0h2 : bb0 < 32 := by omega
  clear bb0h
  go_wp2_with fail
  refine (l1Once_c HD.out 6 (by omega) _ S3.out.cur).mono ?_
  rintro e wd ⟨c6, rfl, hs⟩
  have S4 : Hid (It w0 g a n cap w rb ib wd) := S3.out.next hs.out
  clear hs S3
  cases c6
  case' true =>
    go_wp2_with fail
    refine (l1Below_c HD.out 32 (by omega) _ S4.out.cur).mono ?_
    rintro e we ⟨rd2, rfl, ⟨rd2l, rd2h⟩, hs⟩
    have S5 : Hid (It w0 g a n cap w rb ib we) := S4.out.next hs.out
    clear hs S4
    go_wp2_with fail
    refine (l1Below_c HD.out 32 (by omega) _ S5.out.cur).mono ?_
    rintro e wf ⟨aa2, rfl, ⟨aa2l, aa2h⟩, hs⟩
    have S6 : Hid (It w0 g a n cap w rb ib wf) := S5.out.next hs.out
    clear hs S5
    go_wp2_with fail
    refine (l1Below_c HD.out 32 (by omega) _ S6.out.cur).mono ?_
    rintro e wg ⟨bb2, rfl, ⟨bb2l, bb2h⟩, hs⟩
    have S7 : Hid (It w0 g a n cap w rb ib wg) := S6.out.next hs.out
    clear hs S6
    have S4 := S7
    clear S7
    go_wp2_with fail
    have rdl := rd2l
    have rdh := rd2h
    have aal := aa2l
    have aah := aa2h
    have bbl := bb2l
    have bbh := bb2h
    clear rd2l rd2h aa2l aa2h bb2l bb2h rd0l rd0h2 aa0l aa0h2 bb0l bb0h2
    generalize rd2 = rd at *
    generalize aa2 = aa at *
    generalize bb2 = bb at *
  case' false =>
    go_wp2_with fail
    have rdl := rd0l
    have rdh := rd0h2
    have aal := aa0l
    have aah := aa0h2
    have bbl := bb0l
    have bbh := bb0h2
    clear rd0l rd0h2 aa0l aa0h2 bb0l bb0h2
    generalize rd0 = rd at *
    generalize aa0 = aa at *
    generalize bb0 = bb at *
  all_goals refine (l1From_c HD.out (-40) 40 (by omega) (by omega) (by omega) (by omega) _ S4.out.cur).mono ?_
  all_goals rintro e wh ⟨nn, rfl, ⟨nnl, nnh⟩, hs⟩
  all_goals have S8 : Hid (It w0 g a n cap w rb ib wh) := S4.out.next hs.out
  all_goals clear hs S4
  all_goals obtain ⟨ia, ja, hwfa, ⟨p0, p1, p2, p3, p4⟩, _, _, _⟩ := S8.out.facts
  all_goals go_wp2_with fail
  all_goals refine (specForm_any ia.op hwfa.1 wh).mono ?_
  all_goals rintro e w9 ⟨rfl, hbf⟩
  all_goals have S9 : Hid (It w0 g a n cap w rb ib w9) := S8.out.next (Cs.of_below S8.out.cur hbf)
  all_goals obtain ⟨fo, hfo⟩ := form_of ia.op
  all_goals rw [hfo]
  all_goals clear hfo S8 hbf hwfa p0 p1 p2 p3 p4
  all_goals obtain ⟨ic, jc, hwfc, ⟨p0, p1, p2, p3, p4⟩, ⟨f0, f1, f2, f3, f4⟩, ⟨q0, q1, q2, q3, q4⟩, ⟨e0, e1, e2, e3, e4⟩⟩ := S9.out.facts
  all_goals have HWF : Hid ic.wf := hwfc
  all_goals have hne : rb ≠ ib := S9.out.2.2.2.2.2.1
  all_goals have hne2 : ib ≠ rb := fun h => S9.out.2.2.2.2.2.1 h.symm
  all_goals clear hwfc
  all_goals (
    match fo with
    | none =>
      simp only [formO]
      have SE : Hid (It w0 g a n cap w rb ib _) := S9
      go_wp2_with fail
      refine bodyPost_ret (results_cell_row Tryd.results16 _ _ rb 30 _ _ _ rfl (SE.out.back _ _ _ _ _).1 Tryd.underlying30 rfl inst_sizeD) rfl ?_
      obtain ⟨g0, g1, g2, g3, g4⟩ := HWF.out
      exact ⟨⟨_, _, _, _, _⟩, rfl, Ins.wf_mk (by first | exact wf64 (by omega) (by omega) | exact wf_wrap _ | assumption) (by first | exact wf64 (by omega) (by omega) | exact wf_wrap _ | assumption) (by first | exact wf64 (by omega) (by omega) | exact wf_wrap _ | assumption) (by first | exact wf64 (by omega) (by omega) | exact wf_wrap _ | assumption) (by first | exact wf64 (by omega) (by omega) | exact wf_wrap _ | assumption), (SE.out.back _ _ _ _ _).2⟩
    | some .x =>
      simp only [formO, Fm.str]
      have SE : Hid (It w0 g a n cap w rb ib _) := S9
      go_wp2_with fail
      refine bodyPost_ret (results_cell_row Tryd.results16 _ _ rb 30 _ _ _ rfl (SE.out.back _ _ _ _ _).1 Tryd.underlying30 rfl inst_sizeD) rfl ?_
      obtain ⟨g0, g1, g2, g3, g4⟩ := HWF.out
      exact ⟨⟨_, _, _, _, _⟩, rfl, Ins.wf_mk (by first | exact wf64 (by omega) (by omega) | exact wf_wrap _ | assumption) (by first | exact wf64 (by omega) (by omega) | exact wf_wrap _ | assumption) (by first | exact wf64 (by omega) (by omega) | exact wf_wrap _ | assumption) (by first | exact wf64 (by omega) (by omega) | exact wf_wrap _ | assumption) (by first | exact wf64 (by omega) (by omega) | exact wf_wrap _ | assumption), (SE.out.back _ _ _ _ _).2⟩
    | some .s =>
      simp only [formO, Fm.str]
      have SE : Hid (It w0 g a n cap w rb ib _) := (It.put (It.put (It.put S9.out 2 (by omega) aa (by first | exact wf64 (by omega) (by omega) | exact wf_wrap _ | assumption)) 3 (by omega) bb (by first | exact wf64 (by omega) (by omega) | exact wf_wrap _ | assumption)) 4 (by omega) nn (by first | exact wf64 (by omega) (by omega) | exact wf_wrap _ | assumption))
      go_wp2_with fail
      refine bodyPost_ret (results_cell_row Tryd.results16 _ _ rb 30 _ _ _ rfl (SE.out.back _ _ _ _ _).1 Tryd.underlying30 rfl inst_sizeD) rfl ?_
      obtain ⟨g0, g1, g2, g3, g4⟩ := HWF.out
      exact ⟨⟨_, _, _, _, _⟩, rfl, Ins.wf_mk (by first | exact wf64 (by omega) (by omega) | exact wf_wrap _ | assumption) (by first | exact wf64 (by omega) (by omega) | exact wf_wrap _ | assumption) (by first | exact wf64 (by omega) (by omega) | exact wf_wrap _ | assumption) (by first | exact wf64 (by omega) (by omega) | exact wf_wrap _ | assumption) (by first | exact wf64 (by omega) (by omega) | exact wf_wrap _ | assumption), (SE.out.back _ _ _ _ _).2⟩
    | some .r =>
      simp only [formO, Fm.str]
      cases d98 : (ic.op == 98) with
      | true =>
        have SE : Hid (It w0 g a n cap w rb ib _) := (It.put (It.put (It.put (It.put S9.out 1 (by omega) rd (by first | exact wf64 (by omega) (by omega) | exact wf_wrap _ | assumption)) 2 (by omega) aa (by first | exact wf64 (by omega) (by omega) | exact wf_wrap _ | assumption)) 3 (by omega) bb (by first | exact wf64 (by omega) (by omega) | exact wf_wrap _ | assumption)) 1 (by omega) 0 (by first | exact wf64 (by omega) (by omega) | exact wf_wrap _ | assumption))
        go_wp2_with fail
        refine bodyPost_ret (results_cell_row Tryd.results16 _ _ rb 30 _ _ _ rfl (SE.out.back _ _ _ _ _).1 Tryd.underlying30 rfl inst_sizeD) rfl ?_
        obtain ⟨g0, g1, g2, g3, g4⟩ := HWF.out
        exact ⟨⟨_, _, _, _, _⟩, rfl, Ins.wf_mk (by first | exact wf64 (by omega) (by omega) | exact wf_wrap _ | assumption) (by first | exact wf64 (by omega) (by omega) | exact wf_wrap _ | assumption) (by first | exact wf64 (by omega) (by omega) | exact wf_wrap _ | assumption) (by first | exact wf64 (by omega) (by omega) | exact wf_wrap _ | assumption) (by first | exact wf64 (by omega) (by omega) | exact wf_wrap _ | assumption), (SE.out.back _ _ _ _ _).2⟩
      | false =>
        have SE : Hid (It w0 g a n cap w rb ib _) := (It.put (It.put (It.put S9.out 1 (by omega) rd (by first | exact wf64 (by omega) (by omega) | exact wf_wrap _ | assumption)) 2 (by omega) aa (by first | exact wf64 (by omega) (by omega) | exact wf_wrap _ | assumption)) 3 (by omega) bb (by first | exact wf64 (by omega) (by omega) | exact wf_wrap _ | assumption))
        go_wp2_with fail
        refine bodyPost_ret (results_cell_row Tryd.results16 _ _ rb 30 _ _ _ rfl (SE.out.back _ _ _ _ _).1 Tryd.underlying30 rfl inst_sizeD) rfl ?_
        obtain ⟨g0, g1, g2, g3, g4⟩ := HWF.out
        exact ⟨⟨_, _, _, _, _⟩, rfl, Ins.wf_mk (by first | exact wf64 (by omega) (by omega) | exact wf_wrap _ | assumption) (by first | exact wf64 (by omega) (by omega) | exact wf_wrap _ | assumption) (by first | exact wf64 (by omega) (by omega) | exact wf_wrap _ | assumption) (by first | exact wf64 (by omega) (by omega) | exact wf_wrap _ | assumption) (by first | exact wf64 (by omega) (by omega) | exact wf_wrap _ | assumption), (SE.out.back _ _ _ _ _).2⟩
    | some .h =>
      simp only [formO, Fm.str]
      have SA : Hid (It w0 g a n cap w rb ib _) := (It.put (It.put S9.out 1 (by omega) rd (by first | exact wf64 (by omega) (by omega) | exact wf_wrap _ | assumption)) 2 (by omega) aa (by first | exact wf64 (by omega) (by omega) | exact wf_wrap _ | assumption))
      go_wp2_with fail
      refine (l1Below_c HD.out 64 (by omega) _ SA.out.cur).mono ?_
      rintro e wk ⟨im, rfl, ⟨iml, imh⟩, hs⟩
      have T1 : Hid (It w0 g a n cap w rb ib wk) := SA.out.next hs.out
      clear hs SA
      clear S9
      clear p0 p1 p2 p3 p4 f0 f1 f2 f3 f4 q0 q1 q2 q3 q4 e0 e1 e2 e3 e4 HWF
      obtain ⟨ic, jc, hwfc, ⟨p0, p1, p2, p3, p4⟩, ⟨f0, f1, f2, f3, f4⟩, ⟨q0, q1, q2, q3, q4⟩, ⟨e0, e1, e2, e3, e4⟩⟩ := T1.out.facts
      have HWF : Hid ic.wf := hwfc
      clear hwfc
      have SE : Hid (It w0 g a n cap w rb ib _) := (It.put T1.out 4 (by omega) im (by first | exact wf64 (by omega) (by omega) | exact wf_wrap _ | assumption))
      go_wp2_with fail
      refine bodyPost_ret (results_cell_row Tryd.results16 _ _ rb 30 _ _ _ rfl (SE.out.back _ _ _ _ _).1 Tryd.underlying30 rfl inst_sizeD) rfl ?_
      obtain ⟨g0, g1, g2, g3, g4⟩ := HWF.out
      exact ⟨⟨_, _, _, _, _⟩, rfl, Ins.wf_mk (by first | exact wf64 (by omega) (by omega) | exact wf_wrap _ | assumption) (by first | exact wf64 (by omega) (by omega) | exact wf_wrap _ | assumption) (by first | exact wf64 (by omega) (by omega) | exact wf_wrap _ | assumption) (by first | exact wf64 (by omega) (by omega) | exact wf_wrap _ | assumption) (by first | exact wf64 (by omega) (by omega) | exact wf_wrap _ | assumption), (SE.out.back _ _ _ _ _).2⟩
    | some .w =>
      simp only [formO, Fm.str]
      have SA : Hid (It w0 g a n cap w rb ib _) := (It.put (It.put S9.out 1 (by omega) rd (by first | exact wf64 (by omega) (by omega) | exact wf_wrap _ | assumption)) 2 (by omega) aa (by first | exact wf64 (by omega) (by omega) | exact wf_wrap _ | assumption))
      go_wp2_with fail
      refine (l1Below_c HD.out 32 (by omega) _ SA.out.cur).mono ?_
      rintro e wk ⟨im, rfl, ⟨iml, imh⟩, hs⟩
      have T1 : Hid (It w0 g a n cap w rb ib wk) := SA.out.next hs.out
      clear hs SA
      clear S9
      clear p0 p1 p2 p3 p4 f0 f1 f2 f3 f4 q0 q1 q2 q3 q4 e0 e1 e2 e3 e4 HWF
      obtain ⟨ic, jc, hwfc, ⟨p0, p1, p2, p3, p4⟩, ⟨f0, f1, f2, f3, f4⟩, ⟨q0, q1, q2, q3, q4⟩, ⟨e0, e1, e2, e3, e4⟩⟩ := T1.out.facts
      have HWF : Hid ic.wf := hwfc
      clear hwfc
      have SE : Hid (It w0 g a n cap w rb ib _) := (It.put T1.out 4 (by omega) im (by first | exact wf64 (by omega) (by omega) | exact wf_wrap _ | assumption))
      go_wp2_with fail
      refine bodyPost_ret (results_cell_row Tryd.results16 _ _ rb 30 _ _ _ rfl (SE.out.back _ _ _ _ _).1 Tryd.underlying30 rfl inst_sizeD) rfl ?_
      obtain ⟨g0, g1, g2, g3, g4⟩ := HWF.out
      exact ⟨⟨_, _, _, _, _⟩, rfl, Ins.wf_mk (by first | exact wf64 (by omega) (by omega) | exact wf_wrap _ | assumption) (by first | exact wf64 (by omega) (by omega) | exact wf_wrap _ | assumption) (by first | exact wf64 (by omega) (by omega) | exact wf_wrap _ | assumption) (by first | exact wf64 (by omega) (by omega) | exact wf_wrap _ | assumption) (by first | exact wf64 (by omega) (by omega) | exact wf_wrap _ | assumption), (SE.out.back _ _ _ _ _).2⟩
    | some .c =>
      simp only [formO, Fm.str]
      have SA : Hid (It w0 g a n cap w rb ib _) := (It.put (It.put S9.out 1 (by omega) rd (by first | exact wf64 (by omega) (by omega) | exact wf_wrap _ | assumption)) 2 (by omega) aa (by first | exact wf64 (by omega) (by omega) | exact wf_wrap _ | assumption))
      go_wp2_with fail
      refine (l4DrawNumber_c HD.out _ SA.out.cur).mono ?_
      rintro e wk ⟨im, rfl, imwf, hs⟩
      have T1 : Hid (It w0 g a n cap w rb ib wk) := SA.out.next hs.out
      clear hs SA
      clear S9
      clear p0 p1 p2 p3 p4 f0 f1 f2 f3 f4 q0 q1 q2 q3 q4 e0 e1 e2 e3 e4 HWF
      obtain ⟨ic, jc, hwfc, ⟨p0, p1, p2, p3, p4⟩, ⟨f0, f1, f2, f3, f4⟩, ⟨q0, q1, q2, q3, q4⟩, ⟨e0, e1, e2, e3, e4⟩⟩ := T1.out.facts
      have HWF : Hid ic.wf := hwfc
      clear hwfc
      have SE : Hid (It w0 g a n cap w rb ib _) := (It.put T1.out 4 (by omega) im (by first | exact wf64 (by omega) (by omega) | exact wf_wrap _ | assumption))
      go_wp2_with fail
      refine bodyPost_ret (results_cell_row Tryd.results16 _ _ rb 30 _ _ _ rfl (SE.out.back _ _ _ _ _).1 Tryd.underlying30 rfl inst_sizeD) rfl ?_
      obtain ⟨g0, g1, g2, g3, g4⟩ := HWF.out
      exact ⟨⟨_, _, _, _, _⟩, rfl, Ins.wf_mk (by first | exact wf64 (by omega) (by omega) | exact wf_wrap _ | assumption) (by first | exact wf64 (by omega) (by omega) | exact wf_wrap _ | assumption) (by first | exact wf64 (by omega) (by omega) | exact wf_wrap _ | assumption) (by first | exact wf64 (by omega) (by omega) | exact wf_wrap _ | assumption) (by first | exact wf64 (by omega) (by omega) | exact wf_wrap _ | assumption), (SE.out.back _ _ _ _ _).2⟩
    | some .i =>
      simp only [formO, Fm.str]
      have SA : Hid (It w0 g a n cap w rb ib _) := (It.put (It.put (It.put S9.out 1 (by omega) rd (by first | exact wf64 (by omega) (by omega) | exact wf_wrap _ | assumption)) 2 (by omega) aa (by first | exact wf64 (by omega) (by omega) | exact wf_wrap _ | assumption)) 4 (by omega) nn (by first | exact wf64 (by omega) (by omega) | exact wf_wrap _ | assumption))
      go_wp2_with fail
      refine (l1Once_c HD.out 6 (by omega) _ SA.out.cur).mono ?_
      rintro e wk ⟨cc, rfl, hs⟩
      have T1 : Hid (It w0 g a n cap w rb ib wk) := SA.out.next hs.out
      clear hs SA
      clear S9
      clear p0 p1 p2 p3 p4 f0 f1 f2 f3 f4 q0 q1 q2 q3 q4 e0 e1 e2 e3 e4 HWF
      obtain ⟨ic, jc, hwfc, ⟨p0, p1, p2, p3, p4⟩, ⟨f0, f1, f2, f3, f4⟩, ⟨q0, q1, q2, q3, q4⟩, ⟨e0, e1, e2, e3, e4⟩⟩ := T1.out.facts
      have HWF : Hid ic.wf := hwfc
      clear hwfc
      cases cc with
      | false =>
        have SE : Hid (It w0 g a n cap w rb ib _) := T1
        go_wp2_with fail
        refine bodyPost_ret (results_cell_row Tryd.results16 _ _ rb 30 _ _ _ rfl (SE.out.back _ _ _ _ _).1 Tryd.underlying30 rfl inst_sizeD) rfl ?_
        obtain ⟨g0, g1, g2, g3, g4⟩ := HWF.out
        exact ⟨⟨_, _, _, _, _⟩, rfl, Ins.wf_mk (by first | exact wf64 (by omega) (by omega) | exact wf_wrap _ | assumption) (by first | exact wf64 (by omega) (by omega) | exact wf_wrap _ | assumption) (by first | exact wf64 (by omega) (by omega) | exact wf_wrap _ | assumption) (by first | exact wf64 (by omega) (by omega) | exact wf_wrap _ | assumption) (by first | exact wf64 (by omega) (by omega) | exact wf_wrap _ | assumption), (SE.out.back _ _ _ _ _).2⟩
      | true =>
        have SA := T1
        go_wp2_with fail
        refine (l1From_c HD.out (-2048) 2047 (by omega) (by omega) (by omega) (by omega) _ SA.out.cur).mono ?_
        rintro e wl ⟨im, rfl, ⟨iml, imh⟩, hs⟩
        have T2 : Hid (It w0 g a n cap w rb ib wl) := SA.out.next hs.out
        clear hs SA
        clear T1
        clear p0 p1 p2 p3 p4 f0 f1 f2 f3 f4 q0 q1 q2 q3 q4 e0 e1 e2 e3 e4 HWF
        obtain ⟨ic, jc, hwfc, ⟨p0, p1, p2, p3, p4⟩, ⟨f0, f1, f2, f3, f4⟩, ⟨q0, q1, q2, q3, q4⟩, ⟨e0, e1, e2, e3, e4⟩⟩ := T2.out.facts
        have HWF : Hid ic.wf := hwfc
        clear hwfc
        have SE : Hid (It w0 g a n cap w rb ib _) := (It.put T2.out 4 (by omega) im (by first | exact wf64 (by omega) (by omega) | exact wf_wrap _ | assumption))
        go_wp2_with fail
        refine bodyPost_ret (results_cell_row Tryd.results16 _ _ rb 30 _ _ _ rfl (SE.out.back _ _ _ _ _).1 Tryd.underlying30 rfl inst_sizeD) rfl ?_
        obtain ⟨g0, g1, g2, g3, g4⟩ := HWF.out
        exact ⟨⟨_, _, _, _, _⟩, rfl, Ins.wf_mk (by first | exact wf64 (by omega) (by omega) | exact wf_wrap _ | assumption) (by first | exact wf64 (by omega) (by omega) | exact wf_wrap _ | assumption) (by first | exact wf64 (by omega) (by omega) | exact wf_wrap _ | assumption) (by first | exact wf64 (by omega) (by omega) | exact wf_wrap _ | assumption) (by first | exact wf64 (by omega) (by omega) | exact wf_wrap _ | assumption), (SE.out.back _ _ _ _ _).2⟩
    | some .b =>
      simp only [formO, Fm.str]
      have SA : Hid (It w0 g a n cap w rb ib _) := (It.put (It.put S9.out 2 (by omega) aa (by first | exact wf64 (by omega) (by omega) | exact wf_wrap _ | assumption)) 3 (by omega) bb (by first | exact wf64 (by omega) (by omega) | exact wf_wrap _ | assumption))
      go_wp2_with fail
      refine (l1From_c HD.out (-3) 6 (by omega) (by omega) (by omega) (by omega) _ SA.out.cur).mono ?_
      rintro e wk ⟨im, rfl, ⟨iml, imh⟩, hs⟩
      have T1 : Hid (It w0 g a n cap w rb ib wk) := SA.out.next hs.out
      clear hs SA
      clear S9
      clear p0 p1 p2 p3 p4 f0 f1 f2 f3 f4 q0 q1 q2 q3 q4 e0 e1 e2 e3 e4 HWF
      obtain ⟨ic, jc, hwfc, ⟨p0, p1, p2, p3, p4⟩, ⟨f0, f1, f2, f3, f4⟩, ⟨q0, q1, q2, q3, q4⟩, ⟨e0, e1, e2, e3, e4⟩⟩ := T1.out.facts
      have HWF : Hid ic.wf := hwfc
      clear hwfc
      have SA : Hid (It w0 g a n cap w rb ib _) := (It.put T1.out 4 (by omega) (4 * im) (by first | exact wf64 (by omega) (by omega) | exact wf_wrap _ | assumption))
      go_wp2_with fail
      refine (l1Once_c HD.out 6 (by omega) _ SA.out.cur).mono ?_
      rintro e wl ⟨cc, rfl, hs⟩
      have T2 : Hid (It w0 g a n cap w rb ib wl) := SA.out.next hs.out
      clear hs SA
      clear T1
      clear p0 p1 p2 p3 p4 f0 f1 f2 f3 f4 q0 q1 q2 q3 q4 e0 e1 e2 e3 e4 HWF
      obtain ⟨ic, jc, hwfc, ⟨p0, p1, p2, p3, p4⟩, ⟨f0, f1, f2, f3, f4⟩, ⟨q0, q1, q2, q3, q4⟩, ⟨e0, e1, e2, e3, e4⟩⟩ := T2.out.facts
      have HWF : Hid ic.wf := hwfc
      clear hwfc
      cases cc with
      | false =>
        have SE : Hid (It w0 g a n cap w rb ib _) := T2
        go_wp2_with fail
        refine bodyPost_ret (results_cell_row Tryd.results16 _ _ rb 30 _ _ _ rfl (SE.out.back _ _ _ _ _).1 Tryd.underlying30 rfl inst_sizeD) rfl ?_
        obtain ⟨g0, g1, g2, g3, g4⟩ := HWF.out
        exact ⟨⟨_, _, _, _, _⟩, rfl, Ins.wf_mk (by first | exact wf64 (by omega) (by omega) | exact wf_wrap _ | assumption) (by first | exact wf64 (by omega) (by omega) | exact wf_wrap _ | assumption) (by first | exact wf64 (by omega) (by omega) | exact wf_wrap _ | assumption) (by first | exact wf64 (by omega) (by omega) | exact wf_wrap _ | assumption) (by first | exact wf64 (by omega) (by omega) | exact wf_wrap _ | assumption), (SE.out.back _ _ _ _ _).2⟩
      | true =>
        have SA := T2
        go_wp2_with fail
        refine (l1From_c HD.out (-2048) 2047 (by omega) (by omega) (by omega) (by omega) _ SA.out.cur).mono ?_
        rintro e wm ⟨iq, rfl, ⟨iql, iqh⟩, hs⟩
        have T3 : Hid (It w0 g a n cap w rb ib wm) := SA.out.next hs.out
        clear hs SA
        clear T2
        clear p0 p1 p2 p3 p4 f0 f1 f2 f3 f4 q0 q1 q2 q3 q4 e0 e1 e2 e3 e4 HWF
        obtain ⟨ic, jc, hwfc, ⟨p0, p1, p2, p3, p4⟩, ⟨f0, f1, f2, f3, f4⟩, ⟨q0, q1, q2, q3, q4⟩, ⟨e0, e1, e2, e3, e4⟩⟩ := T3.out.facts
        have HWF : Hid ic.wf := hwfc
        clear hwfc
        have SE : Hid (It w0 g a n cap w rb ib _) := (It.put T3.out 4 (by omega) (2 * iq) (by first | exact wf64 (by omega) (by omega) | exact wf_wrap _ | assumption))
        go_wp2_with fail
        refine bodyPost_ret (results_cell_row Tryd.results16 _ _ rb 30 _ _ _ rfl (SE.out.back _ _ _ _ _).1 Tryd.underlying30 rfl inst_sizeD) rfl ?_
        obtain ⟨g0, g1, g2, g3, g4⟩ := HWF.out
        exact ⟨⟨_, _, _, _, _⟩, rfl, Ins.wf_mk (by first | exact wf64 (by omega) (by omega) | exact wf_wrap _ | assumption) (by first | exact wf64 (by omega) (by omega) | exact wf_wrap _ | assumption) (by first | exact wf64 (by omega) (by omega) | exact wf_wrap _ | assumption) (by first | exact wf64 (by omega) (by omega) | exact wf_wrap _ | assumption) (by first | exact wf64 (by omega) (by omega) | exact wf_wrap _ | assumption), (SE.out.back _ _ _ _ _).2⟩
    | some .u =>
      simp only [formO, Fm.str]
      have SA : Hid (It w0 g a n cap w rb ib _) := (It.put S9.out 1 (by omega) rd (by first | exact wf64 (by omega) (by omega) | exact wf_wrap _ | assumption))
      go_wp2_with fail
      refine (l1From_c HD.out (-524288) 524287 (by omega) (by omega) (by omega) (by omega) _ SA.out.cur).mono ?_
      rintro e wk ⟨im, rfl, ⟨iml, imh⟩, hs⟩
      have T1 : Hid (It w0 g a n cap w rb ib wk) := SA.out.next hs.out
      clear hs SA
      clear S9
      clear p0 p1 p2 p3 p4 f0 f1 f2 f3 f4 q0 q1 q2 q3 q4 e0 e1 e2 e3 e4 HWF
      obtain ⟨ic, jc, hwfc, ⟨p0, p1, p2, p3, p4⟩, ⟨f0, f1, f2, f3, f4⟩, ⟨q0, q1, q2, q3, q4⟩, ⟨e0, e1, e2, e3, e4⟩⟩ := T1.out.facts
      have HWF : Hid ic.wf := hwfc
      clear hwfc
      have SA : Hid (It w0 g a n cap w rb ib _) := (It.put T1.out 4 (by omega) (4096 * im) (by first | exact wf64 (by omega) (by omega) | exact wf_wrap _ | assumption))
      go_wp2_with fail
      refine (l1Once_c HD.out 2 (by omega) _ SA.out.cur).mono ?_
      rintro e wl ⟨cc, rfl, hs⟩
      have T2 : Hid (It w0 g a n cap w rb ib wl) := SA.out.next hs.out
      clear hs SA
      clear T1
      clear p0 p1 p2 p3 p4 f0 f1 f2 f3 f4 q0 q1 q2 q3 q4 e0 e1 e2 e3 e4 HWF
      obtain ⟨ic, jc, hwfc, ⟨p0, p1, p2, p3, p4⟩, ⟨f0, f1, f2, f3, f4⟩, ⟨q0, q1, q2, q3, q4⟩, ⟨e0, e1, e2, e3, e4⟩⟩ := T2.out.facts
      have HWF : Hid ic.wf := hwfc
      clear hwfc
      cases cc with
      | false =>
        have SE : Hid (It w0 g a n cap w rb ib _) := T2
        go_wp2_with fail
        refine bodyPost_ret (results_cell_row Tryd.results16 _ _ rb 30 _ _ _ rfl (SE.out.back _ _ _ _ _).1 Tryd.underlying30 rfl inst_sizeD) rfl ?_
        obtain ⟨g0, g1, g2, g3, g4⟩ := HWF.out
        exact ⟨⟨_, _, _, _, _⟩, rfl, Ins.wf_mk (by first | exact wf64 (by omega) (by omega) | exact wf_wrap _ | assumption) (by first | exact wf64 (by omega) (by omega) | exact wf_wrap _ | assumption) (by first | exact wf64 (by omega) (by omega) | exact wf_wrap _ | assumption) (by first | exact wf64 (by omega) (by omega) | exact wf_wrap _ | assumption) (by first | exact wf64 (by omega) (by omega) | exact wf_wrap _ | assumption), (SE.out.back _ _ _ _ _).2⟩
      | true =>
        have SE : Hid (It w0 g a n cap w rb ib _) := (It.put T2.out 4 (by omega) (-2147483648) (by first | exact wf64 (by omega) (by omega) | exact wf_wrap _ | assumption))
        go_wp2_with fail
        refine bodyPost_ret (results_cell_row Tryd.results16 _ _ rb 30 _ _ _ rfl (SE.out.back _ _ _ _ _).1 Tryd.underlying30 rfl inst_sizeD) rfl ?_
        obtain ⟨g0, g1, g2, g3, g4⟩ := HWF.out
        exact ⟨⟨_, _, _, _, _⟩, rfl, Ins.wf_mk (by first | exact wf64 (by omega) (by omega) | exact wf_wrap _ | assumption) (by first | exact wf64 (by omega) (by omega) | exact wf_wrap _ | assumption) (by first | exact wf64 (by omega) (by omega) | exact wf_wrap _ | assumption) (by first | exact wf64 (by omega) (by omega) | exact wf_wrap _ | assumption) (by first | exact wf64 (by omega) (by omega) | exact wf_wrap _ | assumption), (SE.out.back _ _ _ _ _).2⟩
    | some .j =>
      simp only [formO, Fm.str]
      have SA : Hid (It w0 g a n cap w rb ib _) := (It.put S9.out 1 (by omega) rd (by first | exact wf64 (by omega) (by omega) | exact wf_wrap _ | assumption))
      go_wp2_with fail
      refine (l1From_c HD.out (-4) 8 (by omega) (by omega) (by omega) (by omega) _ SA.out.cur).mono ?_
      rintro e wk ⟨im, rfl, ⟨iml, imh⟩, hs⟩
      have T1 : Hid (It w0 g a n cap w rb ib wk) := SA.out.next hs.out
      clear hs SA
      clear S9
      clear p0 p1 p2 p3 p4 f0 f1 f2 f3 f4 q0 q1 q2 q3 q4 e0 e1 e2 e3 e4 HWF
      obtain ⟨ic, jc, hwfc, ⟨p0, p1, p2, p3, p4⟩, ⟨f0, f1, f2, f3, f4⟩, ⟨q0, q1, q2, q3, q4⟩, ⟨e0, e1, e2, e3, e4⟩⟩ := T1.out.facts
      have HWF : Hid ic.wf := hwfc
      clear hwfc
      have SA : Hid (It w0 g a n cap w rb ib _) := (It.put T1.out 4 (by omega) (4 * im) (by first | exact wf64 (by omega) (by omega) | exact wf_wrap _ | assumption))
      go_wp2_with fail
      refine (l1Once_c HD.out 6 (by omega) _ SA.out.cur).mono ?_
      rintro e wl ⟨cc, rfl, hs⟩
      have T2 : Hid (It w0 g a n cap w rb ib wl) := SA.out.next hs.out
      clear hs SA
      clear T1
      clear p0 p1 p2 p3 p4 f0 f1 f2 f3 f4 q0 q1 q2 q3 q4 e0 e1 e2 e3 e4 HWF
      obtain ⟨ic, jc, hwfc, ⟨p0, p1, p2, p3, p4⟩, ⟨f0, f1, f2, f3, f4⟩, ⟨q0, q1, q2, q3, q4⟩, ⟨e0, e1, e2, e3, e4⟩⟩ := T2.out.facts
      have HWF : Hid ic.wf := hwfc
      clear hwfc
      cases cc with
      | false =>
        have SE : Hid (It w0 g a n cap w rb ib _) := T2
        go_wp2_with fail
        refine bodyPost_ret (results_cell_row Tryd.results16 _ _ rb 30 _ _ _ rfl (SE.out.back _ _ _ _ _).1 Tryd.underlying30 rfl inst_sizeD) rfl ?_
        obtain ⟨g0, g1, g2, g3, g4⟩ := HWF.out
        exact ⟨⟨_, _, _, _, _⟩, rfl, Ins.wf_mk (by first | exact wf64 (by omega) (by omega) | exact wf_wrap _ | assumption) (by first | exact wf64 (by omega) (by omega) | exact wf_wrap _ | assumption) (by first | exact wf64 (by omega) (by omega) | exact wf_wrap _ | assumption) (by first | exact wf64 (by omega) (by omega) | exact wf_wrap _ | assumption) (by first | exact wf64 (by omega) (by omega) | exact wf_wrap _ | assumption), (SE.out.back _ _ _ _ _).2⟩
      | true =>
        have SA := T2
        go_wp2_with fail
        refine (l1From_c HD.out (-524288) 524287 (by omega) (by omega) (by omega) (by omega) _ SA.out.cur).mono ?_
        rintro e wm ⟨iq, rfl, ⟨iql, iqh⟩, hs⟩
        have T3 : Hid (It w0 g a n cap w rb ib wm) := SA.out.next hs.out
        clear hs SA
        clear T2
        clear p0 p1 p2 p3 p4 f0 f1 f2 f3 f4 q0 q1 q2 q3 q4 e0 e1 e2 e3 e4 HWF
        obtain ⟨ic, jc, hwfc, ⟨p0, p1, p2, p3, p4⟩, ⟨f0, f1, f2, f3, f4⟩, ⟨q0, q1, q2, q3, q4⟩, ⟨e0, e1, e2, e3, e4⟩⟩ := T3.out.facts
        have HWF : Hid ic.wf := hwfc
        clear hwfc
        have SE : Hid (It w0 g a n cap w rb ib _) := (It.put T3.out 4 (by omega) (2 * iq) (by first | exact wf64 (by omega) (by omega) | exact wf_wrap _ | assumption))
        go_wp2_with fail
        refine bodyPost_ret (results_cell_row Tryd.results16 _ _ rb 30 _ _ _ rfl (SE.out.back _ _ _ _ _).1 Tryd.underlying30 rfl inst_sizeD) rfl ?_
        obtain ⟨g0, g1, g2, g3, g4⟩ := HWF.out
        exact ⟨⟨_, _, _, _, _⟩, rfl, Ins.wf_mk (by first | exact wf64 (by omega) (by omega) | exact wf_wrap _ | assumption) (by first | exact wf64 (by omega) (by omega) | exact wf_wrap _ | assumption) (by first | exact wf64 (by omega) (by omega) | exact wf_wrap _ | assumption) (by first | exact wf64 (by omega) (by omega) | exact wf_wrap _ | assumption) (by first | exact wf64 (by omega) (by omega) | exact wf_wrap _ | assumption), (SE.out.back _ _ _ _ _).2⟩
    | some .a =>
      simp only [formO, Fm.str]
      cases d63 : (ic.op == 63) with
      | true =>
        have SA : Hid (It w0 g a n cap w rb ib _) := (It.put (It.put (It.put (It.put S9.out 1 (by omega) rd (by first | exact wf64 (by omega) (by omega) | exact wf_wrap _ | assumption)) 2 (by omega) aa (by first | exact wf64 (by omega) (by omega) | exact wf_wrap _ | assumption)) 3 (by omega) bb (by first | exact wf64 (by omega) (by omega) | exact wf_wrap _ | assumption)) 3 (by omega) 0 (by first | exact wf64 (by omega) (by omega) | exact wf_wrap _ | assumption))
        go_wp2_with fail
        refine (l1Below_c HD.out 4 (by omega) _ SA.out.cur).mono ?_
        rintro e wk ⟨im, rfl, ⟨iml, imh⟩, hs⟩
        have T1 : Hid (It w0 g a n cap w rb ib wk) := SA.out.next hs.out
        clear hs SA
        clear S9
        clear p0 p1 p2 p3 p4 f0 f1 f2 f3 f4 q0 q1 q2 q3 q4 e0 e1 e2 e3 e4 HWF
        obtain ⟨ic, jc, hwfc, ⟨p0, p1, p2, p3, p4⟩, ⟨f0, f1, f2, f3, f4⟩, ⟨q0, q1, q2, q3, q4⟩, ⟨e0, e1, e2, e3, e4⟩⟩ := T1.out.facts
        have HWF : Hid ic.wf := hwfc
        clear hwfc
        have SE : Hid (It w0 g a n cap w rb ib _) := (It.put T1.out 4 (by omega) im (by first | exact wf64 (by omega) (by omega) | exact wf_wrap _ | assumption))
        go_wp2_with fail
        refine bodyPost_ret (results_cell_row Tryd.results16 _ _ rb 30 _ _ _ rfl (SE.out.back _ _ _ _ _).1 Tryd.underlying30 rfl inst_sizeD) rfl ?_
        obtain ⟨g0, g1, g2, g3, g4⟩ := HWF.out
        exact ⟨⟨_, _, _, _, _⟩, rfl, Ins.wf_mk (by first | exact wf64 (by omega) (by omega) | exact wf_wrap _ | assumption) (by first | exact wf64 (by omega) (by omega) | exact wf_wrap _ | assumption) (by first | exact wf64 (by omega) (by omega) | exact wf_wrap _ | assumption) (by first | exact wf64 (by omega) (by omega) | exact wf_wrap _ | assumption) (by first | exact wf64 (by omega) (by omega) | exact wf_wrap _ | assumption), (SE.out.back _ _ _ _ _).2⟩
      | false =>
        cases d74 : (ic.op == 74) with
        | true =>
          have SA : Hid (It w0 g a n cap w rb ib _) := (It.put (It.put (It.put (It.put S9.out 1 (by omega) rd (by first | exact wf64 (by omega) (by omega) | exact wf_wrap _ | assumption)) 2 (by omega) aa (by first | exact wf64 (by omega) (by omega) | exact wf_wrap _ | assumption)) 3 (by omega) bb (by first | exact wf64 (by omega) (by omega) | exact wf_wrap _ | assumption)) 3 (by omega) 0 (by first | exact wf64 (by omega) (by omega) | exact wf_wrap _ | assumption))
          go_wp2_with fail
          refine (l1Below_c HD.out 4 (by omega) _ SA.out.cur).mono ?_
          rintro e wk ⟨im, rfl, ⟨iml, imh⟩, hs⟩
          have T1 : Hid (It w0 g a n cap w rb ib wk) := SA.out.next hs.out
          clear hs SA
          clear S9
          clear p0 p1 p2 p3 p4 f0 f1 f2 f3 f4 q0 q1 q2 q3 q4 e0 e1 e2 e3 e4 HWF
          obtain ⟨ic, jc, hwfc, ⟨p0, p1, p2, p3, p4⟩, ⟨f0, f1, f2, f3, f4⟩, ⟨q0, q1, q2, q3, q4⟩, ⟨e0, e1, e2, e3, e4⟩⟩ := T1.out.facts
          have HWF : Hid ic.wf := hwfc
          clear hwfc
          have SE : Hid (It w0 g a n cap w rb ib _) := (It.put T1.out 4 (by omega) im (by first | exact wf64 (by omega) (by omega) | exact wf_wrap _ | assumption))
          go_wp2_with fail
          refine bodyPost_ret (results_cell_row Tryd.results16 _ _ rb 30 _ _ _ rfl (SE.out.back _ _ _ _ _).1 Tryd.underlying30 rfl inst_sizeD) rfl ?_
          obtain ⟨g0, g1, g2, g3, g4⟩ := HWF.out
          exact ⟨⟨_, _, _, _, _⟩, rfl, Ins.wf_mk (by first | exact wf64 (by omega) (by omega) | exact wf_wrap _ | assumption) (by first | exact wf64 (by omega) (by omega) | exact wf_wrap _ | assumption) (by first | exact wf64 (by omega) (by omega) | exact wf_wrap _ | assumption) (by first | exact wf64 (by omega) (by omega) | exact wf_wrap _ | assumption) (by first | exact wf64 (by omega) (by omega) | exact wf_wrap _ | assumption), (SE.out.back _ _ _ _ _).2⟩
        | false =>
          have SA : Hid (It w0 g a n cap w rb ib _) := (It.put (It.put (It.put S9.out 1 (by omega) rd (by first | exact wf64 (by omega) (by omega) | exact wf_wrap _ | assumption)) 2 (by omega) aa (by first | exact wf64 (by omega) (by omega) | exact wf_wrap _ | assumption)) 3 (by omega) bb (by first | exact wf64 (by omega) (by omega) | exact wf_wrap _ | assumption))
          go_wp2_with fail
          refine (l1Below_c HD.out 4 (by omega) _ SA.out.cur).mono ?_
          rintro e wk ⟨im, rfl, ⟨iml, imh⟩, hs⟩
          have T1 : Hid (It w0 g a n cap w rb ib wk) := SA.out.next hs.out
          clear hs SA
          clear S9
          clear p0 p1 p2 p3 p4 f0 f1 f2 f3 f4 q0 q1 q2 q3 q4 e0 e1 e2 e3 e4 HWF
          obtain ⟨ic, jc, hwfc, ⟨p0, p1, p2, p3, p4⟩, ⟨f0, f1, f2, f3, f4⟩, ⟨q0, q1, q2, q3, q4⟩, ⟨e0, e1, e2, e3, e4⟩⟩ := T1.out.facts
          have HWF : Hid ic.wf := hwfc
          clear hwfc
          have SE : Hid (It w0 g a n cap w rb ib _) := (It.put T1.out 4 (by omega) im (by first | exact wf64 (by omega) (by omega) | exact wf_wrap _ | assumption))
          go_wp2_with fail
          refine bodyPost_ret (results_cell_row Tryd.results16 _ _ rb 30 _ _ _ rfl (SE.out.back _ _ _ _ _).1 Tryd.underlying30 rfl inst_sizeD) rfl ?_
          obtain ⟨g0, g1, g2, g3, g4⟩ := HWF.out
          exact ⟨⟨_, _, _, _, _⟩, rfl, Ins.wf_mk (by first | exact wf64 (by omega) (by omega) | exact wf_wrap _ | assumption) (by first | exact wf64 (by omega) (by omega) | exact wf_wrap _ | assumption) (by first | exact wf64 (by omega) (by omega) | exact wf_wrap _ | assumption) (by first | exact wf64 (by omega) (by omega) | exact wf_wrap _ | assumption) (by first | exact wf64 (by omega) (by omega) | exact wf_wrap _ | assumption), (SE.out.back _ _ _ _ _).2⟩)

end Go.Proofs.YtjjpklalihaanaaDoor
