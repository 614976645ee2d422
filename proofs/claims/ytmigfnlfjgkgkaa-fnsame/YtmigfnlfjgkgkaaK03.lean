/- Own lemmas. -/
import Derived.Test.YtmigfnlfjgkgkaaK01
import Derived.Test.YtmigfnlfjgkgkaaK02
import Derived.OwnWalk
import Derived.Deep.Cut
import Derived.Deep.RegionWith
namespace Go.Proofs.Ytmigfnlfjgkgkaa
open Go.RowKit
set_option linter.unusedVariables false

theorem wf64 {x : Int} (h0 : -9223372036854775808 ≤ x) (h1 : x ≤ 9223372036854775807) : (Lit.int .i64 x).wf = true := by
  have hmin : IntKind.i64.min = -9223372036854775808 := rfl
  have hmax : IntKind.i64.max = 9223372036854775807 := rfl
  simp only [Lit.wf, Bool.and_eq_true, decide_eq_true_eq]
  omega

theorem Cs.keep {w0 w w' : World} {g : Nat} {a : Option Addr} {n cap : Nat} (h : Cs w0 g a n cap w w') {k : Nat} {o : Obj} (hk : w.heap[k]? = some o) (hne : k ≠ g) : w'.heap[k]? = some o := by
  by_cases hl : k < w.heap.size
  · rw [h.2.block k hl (by simp [hne])]; exact hk
  · rw [Array.getElem?_eq_none (by omega)] at hk; cases hk

theorem Cur.lt {w0 w : World} {g : Nat} {a : Option Addr} {n cap : Nat} (h : Cur w0 w g a n cap) : g < w.heap.size := by
  obtain ⟨i, x, _, hrow⟩ := h.row
  by_cases hl : g < w.heap.size
  · exact hl
  · rw [Array.getElem?_eq_none (by omega)] at hrow; cases hrow

set_option maxHeartbeats 3200000 in
theorem l1DrawWord_c {w0 : World} {g : Nat} {a : Option Addr} {n cap : Nat} {zs : List Int} (hcd : Code w0 a n zs) (w : World) (hc : Cur w0 w g a n cap) :
    Calls Try.prog 42 #[.pointer (some ⟨g, 0, none⟩)] w fun e w' => ∃ x : Int, e = .returned (.int .u64 x) ∧ (0 ≤ x ∧ x < 18446744073709551616) ∧ Hid (Cs w0 g a n cap w w') := by
  have HD : Hid (Code w0 a n zs) := hcd
  have HC : Hid (Cur w0 w g a n cap) := hc
  clear hcd hc
  go_enter Try.func42, Try.ntmps42
  go_wp2_with fail
  go_loopw [3, 4] (fun h i wr => ∃ (k : Nat) (x : Int), k ≤ 8 ∧ h = .int .u64 x ∧ i = .int .i64 k ∧ (0 ≤ x ∧ x < 18446744073709551616) ∧ Hid (Cs w0 g a n cap w wr))
    (fun _ i _ => 8 - (intOf i).toNat)
  case atStart => exact ⟨0, 0, Nat.zero_le _, rfl, rfl, by omega, Cs.refl HC.out⟩
  case round =>
    obtain ⟨k, x, hk, rfl, rfl, ⟨hx0, hx1⟩, hs⟩ := hrel
    by_cases hlt : k < 8
    · go_wp2_with fail
      refine (l1Byte_c HD.out _ hs.out.1).mono ?_
      rintro e w1 ⟨y, rfl, ⟨hy0, hy1⟩, hs1⟩
      obtain ⟨z, hz⟩ : ∃ z, z = IntKind.u64.wrap (IntKind.u64.wrap (x * 256) + y) := ⟨_, rfl⟩
      go_wp2_with fail
      go_roundw
      case rel =>
        refine ⟨k + 1, _, by omega, rfl, by go_num, ?_, hs.out.trans hs1.out⟩
        rw [IntKind.wrap_u64]; omega
      case measure => simp [intOf]; omega
    · go_wp2_with fail
      refine (l1Below_c HD.out 5 (by omega) _ hs.out.1).mono ?_
      rintro e w1 ⟨y, rfl, ⟨hy0, hy1⟩, hs1⟩
      have HS1 : Hid (Cs w0 g a n cap w w1) := hs.out.trans hs1.out
      have hm : 0 ≤ x % 100 ∧ x % 100 < 18446744073709551616 := by omega
      have hsh : 0 ≤ IntKind.u64.wrap (wrap64 x / 1099511627776) ∧ IntKind.u64.wrap (wrap64 x / 1099511627776) < 18446744073709551616 := by rw [IntKind.wrap_u64]; omega
      obtain ⟨k, rfl⟩ := Int.eq_ofNat_of_zero_le hy0
      match k, hy1 with
      | 0, _ =>
        go_wp2_with fail
        have HA : Hid (Cur w0 (w1.alloc (.cells #[.int .u64 0, .int .u64 1, .int .u64 18446744073709551615, .int .u64 9223372036854775808, .int .u64 9223372036854775807, .int .u64 2147483648, .int .u64 2147483647, .int .u64 18446744071562067968, .int .u64 4294967295, .int .u64 64] 24)) g a n cap) := hs1.out.1.grown (grown_alloc _ _ _)
        refine (l1Below_c HD.out 10 (by omega) _ HA.out).mono ?_
        rintro e w2 ⟨y, rfl, ⟨hx0, hx1⟩, hs2⟩
        obtain ⟨k, rfl⟩ := Int.eq_ofNat_of_zero_le hx0
        have hrow : w2.heap[w1.heap.size]? = some (.cells #[.int .u64 0, .int .u64 1, .int .u64 18446744073709551615, .int .u64 9223372036854775808, .int .u64 9223372036854775807, .int .u64 2147483648, .int .u64 2147483647, .int .u64 18446744071562067968, .int .u64 4294967295, .int .u64 64] 24 (0, 0)) := hs2.out.keep (heap_alloc_new _ _) (Nat.ne_of_gt hs1.out.1.lt)
        obtain ⟨v, hv, hcell⟩ : ∃ v : Int, (0 ≤ v ∧ v < 18446744073709551616) ∧ w2.cell? ⟨w1.heap.size, k, none⟩ = some (.int .u64 v) := by
          have ec := cell_of_row w2 w1.heap.size k _ _ _ hrow
          match k, hx1 with
          | 0, _ => exact ⟨_, by omega, ec⟩
          | 1, _ => exact ⟨_, by omega, ec⟩
          | 2, _ => exact ⟨_, by omega, ec⟩
          | 3, _ => exact ⟨_, by omega, ec⟩
          | 4, _ => exact ⟨_, by omega, ec⟩
          | 5, _ => exact ⟨_, by omega, ec⟩
          | 6, _ => exact ⟨_, by omega, ec⟩
          | 7, _ => exact ⟨_, by omega, ec⟩
          | 8, _ => exact ⟨_, by omega, ec⟩
          | 9, _ => exact ⟨_, by omega, ec⟩
          | k + 10, h => exact absurd h (by omega)
        have HV : Hid (0 ≤ v ∧ v < 18446744073709551616) := hv
        have HS : Hid (Cs w0 g a n cap w w2) := ⟨hs2.out.1, grown_trans HS1.out.2 (grown_trans (grown_alloc _ _ _) hs2.out.2)⟩
        clear hrow hv hs hs1 hs2 HA HC HS1
        go_wp2_with fail
        go_ret
        exact ⟨_, rfl, HV.out, HS⟩
      | 1, _ =>
        go_wp2_with fail
        go_ret
        exact ⟨_, rfl, hm, HS1⟩
      | 2, _ =>
        go_wp2_with fail
        go_ret
        exact ⟨_, rfl, hsh, HS1⟩
      | 3, _ =>
        go_wp2_with fail
        go_ret
        exact ⟨_, rfl, ⟨hx0, hx1⟩, HS1⟩
      | 4, _ =>
        go_wp2_with fail
        go_ret
        exact ⟨_, rfl, ⟨hx0, hx1⟩, HS1⟩
      | k + 5, h => exact absurd h (by omega)

theorem Cs.alloc {w0 : World} {g : Nat} {a : Option Addr} {n cap : Nat} {w : World} (h : Cur w0 w g a n cap) (o : Obj) : Cs w0 g a n cap w (w.alloc o) := ⟨h.grown (grown_alloc _ _ _), grown_alloc _ _ _⟩

theorem few_words {w : World} {b k : Nat} (cs : List Int) (t : TypeId) (hr : w.heap[b]? = some (.cells (cs.map (Value.int .u64)).toArray t (0, 0))) (hu : ∀ x ∈ cs, U x) (hk : k < cs.length) : ∃ v, U v ∧ w.cell? ⟨b, k, none⟩ = some (.int .u64 v) := by
  refine ⟨cs[k], hu _ (List.getElem_mem hk), ?_⟩
  rw [cell_of_row _ _ _ _ _ _ hr]
  simp [List.getElem?_eq_getElem hk]

theorem few_ints {w : World} {b k : Nat} (cs : List Int) (t : TypeId) (hr : w.heap[b]? = some (.cells (cs.map (Value.int .i64)).toArray t (0, 0))) (hu : ∀ x ∈ cs, (Lit.int .i64 x).wf = true) (hk : k < cs.length) : ∃ v, (Lit.int .i64 v).wf = true ∧ w.cell? ⟨b, k, none⟩ = some (.int .i64 v) := by
  refine ⟨cs[k], hu _ (List.getElem_mem hk), ?_⟩
  rw [cell_of_row _ _ _ _ _ _ hr]
  simp [List.getElem?_eq_getElem hk]

theorem Cs.of_below {w0 : World} {g : Nat} {a : Option Addr} {n cap : Nat} {w wx : World} (hc : Cur w0 w g a n cap) (hb : Below w.heap.size w wx) : Cs w0 g a n cap w wx := by
  have hg := hc.lt
  obtain ⟨i, x, hi, hrow⟩ := hc.row
  exact ⟨⟨hc.new, below_trans hc.below hb, i, x, hi, by rw [hb.block g hg]; exact hrow⟩, ⟨hb.os, hb.tape, hb.output, hb.size, fun k hk _ => hb.block k hk⟩⟩

theorem infoI : (Try.prog.info? 2).map (fun i => (i.zero, i.size, i.bytes)) = some (some (.int .i64 0), 1, 8) := by kernel_rfl

set_option maxHeartbeats 1600000 in
theorem l4DrawNumber_c {w0 : World} {g : Nat} {a : Option Addr} {n cap : Nat} {zs : List Int} (hcd : Code w0 a n zs) (w : World) (hc : Cur w0 w g a n cap) :
    Calls Try.prog 58 #[.pointer (some ⟨g, 0, none⟩)] w fun e w' => ∃ x : Int, e = .returned (.int .i64 x) ∧ (Lit.int .i64 x).wf = true ∧ Hid (Cs w0 g a n cap w w') := by
  have HD : Hid (Code w0 a n zs) := hcd
  have HC : Hid (Cur w0 w g a n cap) := hc
  obtain ⟨i0, hi, hz0, hz1, hz2⟩ := info_parts infoI
  have hb9 : (22 + 5) * 8 ≤ 140737488355328 := by omega
  have hm9 : 22 + 5 ≤ maxLen := by unfold maxLen; omega
  have h1c : ∀ u ∈ ([256, 260, 324, 3860, 769] : List Int).map (Value.int .i64), u.oneCell' = true := ints_oneCell _ _
  have hnews : ∀ (W : World) (j : Nat) (u : Value), (([256, 260, 324, 3860, 769] : List Int).map (Value.int .i64))[j]? = some u → (W.alloc (.cells #[.int .i64 256, .int .i64 260, .int .i64 324, .int .i64 3860, .int .i64 769] 2)).cell? ((⟨W.heap.size, 0, none⟩ : Addr).add j) = some u := by
    intro W j u hu
    rw [adds, Nat.zero_add, cell_of_row _ _ _ _ _ _ (heap_alloc_new _ _)]
    rw [← hu]
    simp
  have HN : Hid (∀ (W : World) (j : Nat) (u : Value), (([256, 260, 324, 3860, 769] : List Int).map (Value.int .i64))[j]? = some u → (W.alloc (.cells #[.int .i64 256, .int .i64 260, .int .i64 324, .int .i64 3860, .int .i64 769] 2)).cell? ((⟨W.heap.size, 0, none⟩ : Addr).add j) = some u) := hnews
  clear hcd hc hnews
  go_enter Try.func58, Try.ntmps58
  go_wp2_with fail
  refine (l4Numbers_any _).mono ?_
  rintro e w1 ⟨rfl, hw1⟩
  have ho1 : w1.ownsRow w.heap.size 2 1 (.slice (some ⟨w.heap.size, 0, none⟩) 22 22) 22 (csrNumbers.map (Value.int .i64)) := by
    rw [hw1]; exact World.ownsRow_lit w _ 22 (Nat.le_refl _) (by unfold maxLen; omega) rfl
  have hb1 : Below w.heap.size w w1 := by rw [hw1]; exact (Below.refl _ _).alloc (Nat.le_refl _) _
  have hE := ho1.alloc (.cells #[.int .i64 256, .int .i64 260, .int .i64 324, .int .i64 3860, .int .i64 769] 2)
  have hlt1 : w.heap.size < w1.heap.size := by rw [hw1]; simp
  clear hw1 ho1
  go_wp2_with (at_builtin; refine wpList_append_own _ rfl (.tmp 4) (.tmp 5) 65 rfl _ 2 i0 (.int .i64 0) 1 8 Try.underlying65 hi hz0 hz1 hz2 rfl (by decide) _ 22 (csrNumbers.map (Value.int .i64)) (by rfl) hE ⟨w1.heap.size, 0, none⟩ 5 5 (([256, 260, 324, 3860, 769] : List Int).map (Value.int .i64)) rfl rfl (HN.out _) h1c hm9 hb9 (by simp; omega) ?_; intro v' w2 hown1 hgrow1 hnil1)
  obtain ⟨g2, c2, hv2, hg2⟩ := own_shape hown1 (by omega)
  have B2 : Below w.heap.size w w2 := Below.grown (hb1.alloc hb1.size _) hgrow1 (by simp; omega) (by intro k hk; simp [Value.ownBlock] at hk; omega)
  have HS2 : Hid (Cs w0 g a n cap w w2) := Cs.of_below HC.out B2
  obtain ⟨L, hL⟩ : ∃ L, L = csrNumbers ++ ([256, 260, 324, 3860, 769] : List Int) := ⟨_, rfl⟩
  rw [hv2, ← List.map_append, ← hL] at hown1
  have HWF : Hid (∀ x ∈ L, (Lit.int .i64 x).wf = true) := by rw [hL]; show ∀ x ∈ _, _; decide
  have HLL : Hid (L.length = 27) := by rw [hL]; rfl
  have HO : Hid (w2.ownsRow w.heap.size 2 1 (.slice (some ⟨g2, 0, none⟩) 27 c2) 27 (L.map (Value.int .i64))) := hown1
  have HNE : Hid (g < g2) := Nat.lt_of_lt_of_le HC.out.lt hg2
  rw [hv2]
  clear hL hown1 hgrow1 hnil1 hv2 hE hb1 hlt1 HN h1c hg2 B2
  go_wp2_with fail
  refine (l1Once_c HD.out 14 (by omega) _ HS2.out.1).mono ?_
  rintro e w3 ⟨c, rfl, hs3⟩
  cases c with
  | true =>
    go_wp2_with fail
    have HA := Cs.alloc hs3.out.1 (.cells #[.int .i64 0, .int .i64 1, .int .i64 769, .int .i64 2816, .int .i64 3072, .int .i64 4095] 2)
    refine (l1Below_c HD.out 6 (by omega) _ HA.1).mono ?_
    rintro e w4 ⟨x, rfl, ⟨hx0, hx1⟩, hs4⟩
    obtain ⟨k, rfl⟩ := Int.eq_ofNat_of_zero_le hx0
    obtain ⟨v, hv, hcell⟩ := few_ints [0, 1, 769, 2816, 3072, 4095] 2 (hs4.out.keep (heap_alloc_new _ _) (Nat.ne_of_gt hs3.out.1.lt)) (by decide) (k := k) (by simp; omega)
    have HV : Hid ((Lit.int .i64 v).wf = true) := hv
    have HS : Hid (Cs w0 g a n cap w w4) := HS2.out.trans (hs3.out.trans (HA.trans hs4.out))
    clear hv hs3 hs4 HA HC
    go_wp2_with fail
    go_ret
    exact ⟨_, rfl, HV.out, HS⟩
  | false =>
    go_wp2_with fail
    refine (l1Below_c HD.out 27 (by omega) _ hs3.out.1).mono ?_
    rintro e w4 ⟨x, rfl, ⟨hx0, hx1⟩, hs4⟩
    obtain ⟨k, rfl⟩ := Int.eq_ofNat_of_zero_le hx0
    have hs34 := hs3.out.trans hs4.out
    have ho4 := kept_of HO.out hs34.2 (by intro j hj hne; have := HNE.out; simp [Value.ownBlock] at hj hne; omega)
    obtain ⟨b, off, e, _, hcl⟩ := own_sl ho4 k (by have := HLL.out; omega)
    simp only [Option.some.injEq, Addr.mk.injEq, and_true] at e
    obtain ⟨rfl, rfl⟩ := e
    rw [Nat.zero_add] at hcl
    have HV : Hid ((Lit.int .i64 (L.getD k 0)).wf = true) := by
      have hk : k < L.length := by have := HLL.out; omega
      have e : L.getD k 0 = L[k] := by simp [List.getD, List.getElem?_eq_getElem hk]
      show (Lit.int .i64 (L.getD k 0)).wf = true
      rw [e]; exact HWF.out _ (List.getElem_mem hk)
    generalize L.getD k 0 = v at *
    have HS : Hid (Cs w0 g a n cap w w4) := HS2.out.trans hs34
    clear ho4 hs34 hs3 hs4 HC
    go_wp2_with fail
    go_ret
    exact ⟨_, rfl, HV.out, HS⟩

def Rm (w0 : World) (g : Nat) (a : Option Addr) (n cap : Nat) (w : World) (b m : Nat) (wr : World) : Prop :=
  ∃ zs : List Int, (∀ y ∈ zs, (Lit.int .u8 y).wf = true) ∧ wr.ownsRow w.heap.size 5 1 (.slice (some ⟨b, 0, none⟩) m m) m (zs.map (Value.int .u8)) ∧ Cs w0 g a n cap w wr ∧ g < w.heap.size ∧ w.heap.size ≤ b

theorem Rm.next {w0 : World} {g : Nat} {a : Option Addr} {n cap : Nat} {w wr wx : World} {b m : Nat} (h : Rm w0 g a n cap w b m wr) (k : Cs w0 g a n cap wr wx) : Rm w0 g a n cap w b m wx := by
  obtain ⟨zs, hu, ho, hc, hg, hb⟩ := h
  refine ⟨zs, hu, kept_of ho k.2 ?_, hc.trans k, hg, hb⟩
  intro j hj hne
  simp [Value.ownBlock] at hj hne
  omega

theorem Rm.cur {w0 : World} {g : Nat} {a : Option Addr} {n cap : Nat} {w wr : World} {b m : Nat} (h : Rm w0 g a n cap w b m wr) : Cur w0 wr g a n cap := by
  obtain ⟨zs, hu, ho, hc, hg, hb⟩ := h
  exact hc.1

theorem wf8 {y : Int} (h0 : 0 ≤ y) (h1 : y ≤ 255) : (Lit.int .u8 y).wf = true := by
  have hmin : IntKind.u8.min = 0 := rfl
  have hmax : IntKind.u8.max = 255 := rfl
  simp only [Lit.wf, Bool.and_eq_true, decide_eq_true_eq]
  omega

theorem zeros_wf (m : Nat) : ∀ y ∈ List.replicate m (0 : Int), (Lit.int .u8 y).wf = true := by
  intro y hy
  rw [(List.mem_replicate.mp hy).2]; decide

set_option maxRecDepth 100000 in
theorem append_where {w : World} {base n : Nat} {v : Value} {xs : List Value} (ty : TypeId) (hown : w.ownsRow base 5 1 v n xs) (a : Addr) (c : Nat) (b : Int) (hnews : ∀ j u, [Value.int .u8 b][j]? = some u → w.cell? (a.add j) = some u) (hn : n ≤ 1048576) {v' : Value} {w' : World}
    (hr : (Builtin.append_ #[22, 22] ty #[v, .slice (some a) 1 c]).run Try.prog w = .ok v' w') : v'.ownBlock = v.ownBlock ∨ v'.ownBlock = some w.heap.size := by
  obtain ⟨i0, hi, hz0, hz1, hz2⟩ := info_parts Try.info5
  have h1 : ∀ u ∈ [Value.int .u8 b], u.oneCell' = true := by simp [Value.oneCell']
  have hl : [Value.int .u8 b].length = 1 * i0.size := by rw [hz1]; rfl
  rcases hown.2 with ⟨e, e0⟩ | ⟨g, cap, cur, e, hg, hcur, hc1, hc2, hcs, htk⟩
  · subst e
    right
    have h := run_append_grow_src (P := Try.prog) w 22 22 ty 5 i0 (.int .u8 0) Try.underlying22 hi hz0 none 0 0 [] (run_firstCells_none w.drew i0.size 0 0 0) (.slice (some a) 1 c) 1 [.int .u8 b] (Src.ofSlice w Try.underlying22 a 1 c [.int .u8 b] hl hnews h1) (by omega) (by omega) (growslice_fits (by omega) (by rw [hz2]; omega))
    rw [h] at hr
    injection hr with e1 _
    rw [← e1]
    rfl
  · subst e
    by_cases hroom : n + 1 ≤ cap
    · left
      have h := run_append_room (P := Try.prog) w 22 ty 5 i0 Try.underlying22 hi g n cap cur hcur a 1 c [.int .u8 b] hl hnews h1 hroom (by rw [hz1] at *; simp; omega)
      rw [h] at hr
      injection hr with e1 _
      rw [← e1]
      rfl
    · right
      have holds : ∀ j u, xs[j]? = some u → w.cell? ((⟨g, 0, none⟩ : Addr).add j) = some u := hown.cells (g := g) rfl
      have h := run_append_grow (P := Try.prog) w 22 ty 5 i0 (.int .u8 0) Try.underlying22 hi hz0 ⟨g, 0, none⟩ n cap xs (by rw [hz1]; exact hown.1) holds a 1 c [.int .u8 b] hl hnews (by omega) (by omega) (growslice_fits (by omega) (by rw [hz2]; omega))
      rw [h] at hr
      injection hr with e1 _
      rw [← e1]
      rfl

theorem one_new8 (w : World) (b : Int) (j : Nat) (u : Value) (h : [Value.int .u8 b][j]? = some u) : (w.alloc (.cells #[.int .u8 b] 5)).cell? ((⟨w.heap.size, 0, none⟩ : Addr).add j) = some u := by
  have hj : j = 0 := by
    rcases Nat.eq_zero_or_pos j with h0 | h0
    · exact h0
    · rw [List.getElem?_eq_none (by simp; omega)] at h; cases h
  subst hj
  rw [adds]
  simp only [List.getElem?_cons_zero, Option.some.injEq] at h
  subst h
  have e := heap_alloc_new w (.cells #[.int .u8 b] 5)
  show (w.alloc (.cells #[.int .u8 b] 5)).cell? ⟨w.heap.size, 0, none⟩ = _
  simp only [World.cell?, e]
  rfl

theorem Fam.pushIn {B E : Nat} {w w' : World} {a1 : Option Addr} {n1 c1 : Nat} {xs : List Int} {a2 : Option Addr} {n2 c2 : Nat} {ys : List Int} (h : Fam B E w (devF a1 n1 c1 xs a2 n2 c2 ys)) (hE : E ≤ w.heap.size) (gr : w.grownBy w' (Value.slice a1 n1 c1).ownBlock) {f : Option Addr} {m g : Nat} {zs : List Int} (ho : w'.ownsRow B 5 1 (.slice f m g) m (zs.map (Value.int .u8))) (hw : (Value.slice f m g).ownBlock = (Value.slice a1 n1 c1).ownBlock ∨ (Value.slice f m g).ownBlock = some w.heap.size) : Fam B w'.heap.size w' (devF f m g zs a2 n2 c2 ys) := by
  have hne := (List.pairwise_cons.1 h.ne).1 (bRow a2 n2 c2 ys) (List.mem_singleton.2 rfl)
  have h2 := h.own (bRow a2 n2 c2 ys) (by simp [devF])
  have hi2 := h.hi (bRow a2 n2 c2 ys) (by simp [devF])
  refine ⟨fun r hr => ?_, fun r hr k e => ?_, List.pairwise_cons.2 ⟨fun r hr k e e2 => ?_, List.pairwise_singleton _ _⟩⟩
  · rcases List.mem_cons.1 hr with rfl | hr
    · exact ho
    · rw [List.mem_singleton.1 hr]
      exact fown_of h2 (fun k e => gr.block k (h2.lt k e).2 (fun e2 => hne k e2.symm e))
  · rcases List.mem_cons.1 hr with rfl | hr
    · exact (ho.lt k e).2
    · rw [List.mem_singleton.1 hr] at e
      have := (h2.lt k e).2
      have := gr.size
      omega
  · rw [List.mem_singleton.1 hr] at e2
    rcases hw with hw | hw
    · exact hne k (hw.symm.trans e) e2
    · have e3 : some w.heap.size = some k := hw.symm.trans e
      cases e3
      have := hi2 _ e2
      omega

theorem push_run (ty : TypeId) {w : World} (base n : Nat) (v : Value) (zs : List Int) (hown : w.ownsRow base 5 1 v n (zs.map (Value.int .u8))) (hn : n ≤ 1048576) (ad : Addr) (c : Nat) (b : Int) (hnews : ∀ j u, [Value.int .u8 b][j]? = some u → w.cell? (ad.add j) = some u) (hbase : base ≤ w.heap.size) :
    ∃ a' c' w', (Builtin.append_ #[22, 22] ty #[v, .slice (some ad) 1 c]).run Try.prog w = .ok (.slice a' (n + 1) c') w' ∧ w'.ownsRow base 5 1 (.slice a' (n + 1) c') (n + 1) ((zs ++ [b]).map (Value.int .u8)) ∧ w.grownBy w' v.ownBlock ∧ ((Value.slice a' (n + 1) c').ownBlock = v.ownBlock ∨ (Value.slice a' (n + 1) c').ownBlock = some w.heap.size) := by
  obtain ⟨i0, hi, hz0, hz1, hz2⟩ := info_parts Try.info5
  obtain ⟨v', w', hr, h2, h3, h4⟩ := run_append_own (P := Try.prog) w base 22 ty 5 i0 (.int .u8 0) 1 1 Try.underlying22 hi hz0 hz1 hz2 rfl (by decide) v n (zs.map (Value.int .u8)) hown ad 1 c [.int .u8 b] rfl hnews (by simp [Value.oneCell']) (by unfold maxLen; omega) (by omega) hbase
  have hw := append_where ty hown ad c b hnews hn hr
  have hv : ∃ a' c', v' = .slice a' (n + 1) c' := by
    rcases h2.2 with ⟨_, e0⟩ | ⟨g', cap, cur, e, _⟩
    · omega
    · exact ⟨_, _, e⟩
  obtain ⟨a', c', rfl⟩ := hv
  exact ⟨a', c', w', hr, by rw [List.map_append]; exact h2, h3, hw⟩

structure Dc (w0 : World) (g : Nat) (a : Option Addr) (n cap : Nat) (w : World) (r b : Nat) (T : TypeId) (rs cs : Array Value) (wr : World) : Prop where
  row : wr.heap[b]? = some (.cells cs T (0, 0))
  res : wr.heap[r]? = some (.cells rs T (0, 0))
  cu : Cs w0 g a n cap w wr
  glt : g < r
  rlt : r < b
  wle : w.heap.size ≤ r

theorem blk {w : World} {k : Nat} {o : Obj} (h : w.heap[k]? = some o) : k < w.heap.size := (Array.getElem?_eq_some_iff.1 h).1

theorem Dc.next {w0 w wr wx : World} {g : Nat} {a : Option Addr} {n cap r b : Nat} {T : TypeId} {rs cs : Array Value} (h : Dc w0 g a n cap w r b T rs cs wr) (k : Cs w0 g a n cap wr wx) : Dc w0 g a n cap w r b T rs cs wx := by
  have hg := h.glt
  have hr := h.rlt
  have keep : ∀ j o, j ≠ g → wr.heap[j]? = some o → wx.heap[j]? = some o := fun j o hj ho => (k.2.block j (blk ho) (by simp; omega)).trans ho
  exact ⟨keep _ _ (by omega) h.row, keep _ _ (by omega) h.res, h.cu.trans k, hg, hr, h.wle⟩

theorem Dc.drew {w0 w wr : World} {g : Nat} {a : Option Addr} {n cap r b : Nat} {T : TypeId} {rs cs : Array Value} (h : Dc w0 g a n cap w r b T rs cs wr) : Dc w0 g a n cap w r b T rs cs wr.drew := ⟨h.row, h.res, ⟨h.cu.1.grown (grown_dN wr 1 none), grown_trans h.cu.2 (grown_dN wr 1 _)⟩, h.glt, h.rlt, h.wle⟩

theorem Cs.setc {w0 w wr : World} {g : Nat} {a : Option Addr} {n cap : Nat} (h : Cs w0 g a n cap w wr) (k i : Nat) (v : Value) (hk : w.heap.size ≤ k) (hg : g ≠ k) (hw0 : w0.heap.size ≤ k) : Cs w0 g a n cap w (wr.setCell ⟨k, i, none⟩ v) := by
  obtain ⟨j, x, hj, hrow⟩ := h.1.row
  refine ⟨⟨h.1.new, h.1.below.setCell hw0 v, j, x, hj, (Below.heap_setCell wr ⟨k, i, none⟩ v g hg).trans hrow⟩, h.2.os, h.2.tape, h.2.output, by rw [size_set]; exact h.2.size, fun q hq hne => ?_⟩
  rw [Below.heap_setCell wr ⟨k, i, none⟩ v q (by dsimp only; omega)]
  exact h.2.block q hq hne

theorem Dc.put {w0 w wr : World} {g : Nat} {a : Option Addr} {n cap r b : Nat} {T : TypeId} {rs cs : Array Value} (h : Dc w0 g a n cap w r b T rs cs wr) (i : Nat) (v : Value) : Dc w0 g a n cap w r b T rs (cs.setIfInBounds i v) (wr.setCell ⟨b, i, none⟩ v) := by
  have hg := h.glt
  have hr := h.rlt
  have hw := h.wle
  have h0 := h.cu.1.new
  exact ⟨row_set h.row i v, row_far h.res ⟨b, i, none⟩ v (by dsimp only; omega), h.cu.setc b i v (by omega) (by omega) (by omega), hg, hr, hw⟩

theorem Dc.on {w0 w wr wx : World} {g E : Nat} {a : Option Addr} {n cap r b : Nat} {T : TypeId} {rs cs : Array Value} (h : Dc w0 g a n cap w r b T rs cs wr) (k : Keep (b + 1) E wr wx) : Dc w0 g a n cap w r b T rs cs wx := by
  have hg := h.glt
  have hr := h.rlt
  have hw := h.wle
  have hb := blk h.row
  have h0 := h.cu.1.new
  obtain ⟨j, x, hj, hrow⟩ := h.cu.1.row
  have keep : ∀ j o, j < b + 1 → wr.heap[j]? = some o → wx.heap[j]? = some o := fun j o hj ho => (k.block j (blk ho) (.inl hj)).trans ho
  exact ⟨keep _ _ (by omega) h.row, keep _ _ (by omega) h.res, ⟨⟨h.cu.1.new, h.cu.1.below.trans (k.below (by omega) (by have := h.cu.1.below.size; omega)), j, x, hj, keep _ _ (by omega) hrow⟩, k.os.trans h.cu.2.os, k.tape.trans h.cu.2.tape, k.output.trans h.cu.2.output, Nat.le_trans h.cu.2.size k.size, fun q hq hne => (k.block q (by omega) (.inl (by omega))).trans (h.cu.2.block q hq hne)⟩, hg, hr, hw⟩

structure Dx (w0 : World) (g : Nat) (a : Option Addr) (n cap : Nat) (w : World) (r b : Nat) (D : DV) (a1 : Option Addr) (c1 : Nat) (a2 : Option Addr) (c2 : Nat) (wr : World) : Prop where
  c : Dc w0 g a n cap w r b 27 (dvc zeroD none 0 none 0) (dvc D a1 c1 a2 c2) wr
  fam : Fam (b + 1) wr.heap.size wr (dvF D a1 c1 a2 c2)

theorem Dx.next {w0 w wr wx : World} {g : Nat} {a : Option Addr} {n cap r b : Nat} {D : DV} {a1 : Option Addr} {c1 : Nat} {a2 : Option Addr} {c2 : Nat} (h : Dx w0 g a n cap w r b D a1 c1 a2 c2 wr) (k : Cs w0 g a n cap wr wx) : Dx w0 g a n cap w r b D a1 c1 a2 c2 wx := by
  have hg := h.c.glt
  have hr := h.c.rlt
  exact ⟨h.c.next k, (h.fam.mono fun j h1 h2 h3 => k.2.block j h3 (by simp; omega)).low (Nat.le_refl _) k.2.size⟩

theorem Dx.drew {w0 w wr : World} {g : Nat} {a : Option Addr} {n cap r b : Nat} {D : DV} {a1 : Option Addr} {c1 : Nat} {a2 : Option Addr} {c2 : Nat} (h : Dx w0 g a n cap w r b D a1 c1 a2 c2 wr) : Dx w0 g a n cap w r b D a1 c1 a2 c2 wr.drew := ⟨h.c.drew, h.fam.mono fun j _ _ _ => rfl⟩

theorem Dx.cur {w0 w wr : World} {g : Nat} {a : Option Addr} {n cap r b : Nat} {D : DV} {a1 : Option Addr} {c1 : Nat} {a2 : Option Addr} {c2 : Nat} (h : Dx w0 g a n cap w r b D a1 c1 a2 c2 wr) : Cur w0 wr g a n cap := h.c.cu.1

theorem dvc_in (D : DV) (a1 : Option Addr) (c1 : Nat) (a2 : Option Addr) (c2 : Nat) (zs : List Int) (f : Option Addr) (m c : Nat) (hm : zs.length = m) : (dvc D a1 c1 a2 c2).setIfInBounds 3 (.slice f m c) = dvc ⟨D.t, D.cm, D.so, zs, D.ys, D.ir⟩ f c a2 c2 := by subst hm; rfl

theorem dvc_out (D : DV) (a1 : Option Addr) (c1 : Nat) (a2 : Option Addr) (c2 : Nat) (zs : List Int) (f : Option Addr) (m c : Nat) (hm : zs.length = m) : (dvc D a1 c1 a2 c2).setIfInBounds 4 (.slice f m c) = dvc ⟨D.t, D.cm, D.so, D.xs, zs, D.ir⟩ a1 c1 f c := by subst hm; rfl

theorem Dx.cmp {w0 w wr : World} {g : Nat} {a : Option Addr} {n cap r b : Nat} {D : DV} {a1 : Option Addr} {c1 : Nat} {a2 : Option Addr} {c2 : Nat} (h : Dx w0 g a n cap w r b D a1 c1 a2 c2 wr) (x : Int) : Dx w0 g a n cap w r b ⟨D.t, x, D.so, D.xs, D.ys, D.ir⟩ a1 c1 a2 c2 (wr.setCell ⟨b, 1, none⟩ (.int .u64 x)) :=
  ⟨h.c.put 1 (.int .u64 x), (h.fam.set ⟨b, 1, none⟩ _ (.inl (by dsimp only; omega))).low (Nat.le_refl _) (by rw [size_set]; exact Nat.le_refl _)⟩

theorem Fam.pushOut {B E : Nat} {w w' : World} {a1 : Option Addr} {n1 c1 : Nat} {xs : List Int} {a2 : Option Addr} {n2 c2 : Nat} {ys : List Int} (h : Fam B E w (devF a1 n1 c1 xs a2 n2 c2 ys)) (hE : E ≤ w.heap.size) (gr : w.grownBy w' (Value.slice a2 n2 c2).ownBlock) {f : Option Addr} {m g : Nat} {zs : List Int} (ho : w'.ownsRow B 5 1 (.slice f m g) m (zs.map (Value.int .u8))) (hw : (Value.slice f m g).ownBlock = (Value.slice a2 n2 c2).ownBlock ∨ (Value.slice f m g).ownBlock = some w.heap.size) : Fam B w'.heap.size w' (devF a1 n1 c1 xs f m g zs) := by
  have hne := (List.pairwise_cons.1 h.ne).1 (bRow a2 n2 c2 ys) (List.mem_singleton.2 rfl)
  have h1 := h.own (bRow a1 n1 c1 xs) (by simp [devF])
  have hi1 := h.hi (bRow a1 n1 c1 xs) (by simp [devF])
  refine ⟨fun r hr => ?_, fun r hr k e => ?_, List.pairwise_cons.2 ⟨fun r hr k e e2 => ?_, List.pairwise_singleton _ _⟩⟩
  · rcases List.mem_cons.1 hr with rfl | hr
    · exact fown_of h1 (fun k e => gr.block k (h1.lt k e).2 (fun e2 => hne k e e2.symm))
    · rw [List.mem_singleton.1 hr]
      exact ho
  · rcases List.mem_cons.1 hr with rfl | hr
    · have := (h1.lt k e).2
      have := gr.size
      omega
    · rw [List.mem_singleton.1 hr] at e
      exact (ho.lt k e).2
  · rw [List.mem_singleton.1 hr] at e2
    rcases hw with hw | hw
    · exact hne k e (hw.symm.trans e2)
    · have e3 : some w.heap.size = some k := hw.symm.trans e2
      cases e3
      have := hi1 _ e
      omega

theorem Dx.pushIn {w0 w wr : World} {g : Nat} {a : Option Addr} {n cap r b : Nat} {D : DV} {a1 : Option Addr} {c1 : Nat} {a2 : Option Addr} {c2 : Nat} (h : Dx w0 g a n cap w r b D a1 c1 a2 c2 wr) (hl : D.xs.length ≤ 1048576) (y : Int) (ty : TypeId) : ∃ (f : Option Addr) (q : Nat) (wx : World), (Builtin.append_ #[22, 22] ty #[.slice a1 D.xs.length c1, .slice (some ⟨wr.heap.size, 0, none⟩) 1 1]).run Try.prog (wr.alloc (.cells #[.int .u8 y] 5)) = .ok (.slice f (D.xs.length + 1) q) wx ∧ wx.cell? ⟨b, 3, none⟩ = some (.slice a1 D.xs.length c1) ∧ wx.frozen? ⟨b, 3, none⟩ = false ∧
    Dx w0 g a n cap w r b ⟨D.t, D.cm, D.so, D.xs ++ [y], D.ys, D.ir⟩ f q a2 c2 (wx.setCell ⟨b, 3, none⟩ (.slice f (D.xs.length + 1) q)) := by
  have hb := blk h.c.row
  have FW : Fam (b + 1) wr.heap.size (wr.alloc (.cells #[.int .u8 y] 5)) (devF a1 D.xs.length c1 D.xs a2 D.ys.length c2 D.ys) := h.fam.below ((Below.refl _ _).alloc (Nat.le_refl _) _)
  have how := FW.own (bRow a1 D.xs.length c1 D.xs) (by simp [devF])
  obtain ⟨f, q, wx, hr, ho, gr, hw⟩ := push_run ty (b + 1) D.xs.length _ D.xs how hl ⟨wr.heap.size, 0, none⟩ 1 y (one_new8 wr y) (by rw [World.size_alloc]; omega)
  have FX := FW.pushIn (by rw [World.size_alloc]; omega) gr ho hw
  have kp : Keep (b + 1) wx.heap.size wr wx := by
    have hs := gr.size
    rw [World.size_alloc] at hs
    exact ⟨gr.os, gr.tape, gr.output, by omega, fun k hk hne => (gr.block k (by rw [World.size_alloc]; omega) (fun e => by have := (how.lt k e.symm).1; omega)).trans (Below.heap_alloc wr _ k hk)⟩
  have CX := h.c.on kp
  refine ⟨f, q, wx, hr, (cells6 CX.row).2.2.2.1, froz CX.row 3, ?_, ?_⟩
  · rw [← dvc_in D a1 c1 a2 c2 (D.xs ++ [y]) f (D.xs.length + 1) q (by simp)]
    exact CX.put 3 _
  · unfold dvF
    dsimp only
    rw [show (D.xs ++ [y]).length = D.xs.length + 1 by simp]
    exact (FX.set ⟨b, 3, none⟩ _ (.inl (by dsimp only; omega))).low (Nat.le_refl _) (by rw [size_set]; exact Nat.le_refl _)

theorem Dx.pushOut {w0 w wr : World} {g : Nat} {a : Option Addr} {n cap r b : Nat} {D : DV} {a1 : Option Addr} {c1 : Nat} {a2 : Option Addr} {c2 : Nat} (h : Dx w0 g a n cap w r b D a1 c1 a2 c2 wr) (hl : D.ys.length ≤ 1048576) (y : Int) (ty : TypeId) : ∃ (f : Option Addr) (q : Nat) (wx : World), (Builtin.append_ #[22, 22] ty #[.slice a2 D.ys.length c2, .slice (some ⟨wr.heap.size, 0, none⟩) 1 1]).run Try.prog (wr.alloc (.cells #[.int .u8 y] 5)) = .ok (.slice f (D.ys.length + 1) q) wx ∧ wx.cell? ⟨b, 4, none⟩ = some (.slice a2 D.ys.length c2) ∧ wx.frozen? ⟨b, 4, none⟩ = false ∧
    Dx w0 g a n cap w r b ⟨D.t, D.cm, D.so, D.xs, D.ys ++ [y], D.ir⟩ a1 c1 f q (wx.setCell ⟨b, 4, none⟩ (.slice f (D.ys.length + 1) q)) := by
  have hb := blk h.c.row
  have FW : Fam (b + 1) wr.heap.size (wr.alloc (.cells #[.int .u8 y] 5)) (devF a1 D.xs.length c1 D.xs a2 D.ys.length c2 D.ys) := h.fam.below ((Below.refl _ _).alloc (Nat.le_refl _) _)
  have how := FW.own (bRow a2 D.ys.length c2 D.ys) (by simp [devF])
  obtain ⟨f, q, wx, hr, ho, gr, hw⟩ := push_run ty (b + 1) D.ys.length _ D.ys how hl ⟨wr.heap.size, 0, none⟩ 1 y (one_new8 wr y) (by rw [World.size_alloc]; omega)
  have FX := FW.pushOut (by rw [World.size_alloc]; omega) gr ho hw
  have kp : Keep (b + 1) wx.heap.size wr wx := by
    have hs := gr.size
    rw [World.size_alloc] at hs
    exact ⟨gr.os, gr.tape, gr.output, by omega, fun k hk hne => (gr.block k (by rw [World.size_alloc]; omega) (fun e => by have := (how.lt k e.symm).1; omega)).trans (Below.heap_alloc wr _ k hk)⟩
  have CX := h.c.on kp
  refine ⟨f, q, wx, hr, (cells6 CX.row).2.2.2.2.1, froz CX.row 4, ?_, ?_⟩
  · rw [← dvc_out D a1 c1 a2 c2 (D.ys ++ [y]) f (D.ys.length + 1) q (by simp)]
    exact CX.put 4 _
  · unfold dvF
    dsimp only
    rw [show (D.ys ++ [y]).length = D.ys.length + 1 by simp]
    exact (FX.set ⟨b, 4, none⟩ _ (.inl (by dsimp only; omega))).low (Nat.le_refl _) (by rw [size_set]; exact Nat.le_refl _)

theorem Dx.newIn {w0 w wr wx : World} {g : Nat} {a : Option Addr} {n cap r b : Nat} {D : DV} {a1 : Option Addr} {c1 : Nat} {a2 : Option Addr} {c2 : Nat} (h : Dx w0 g a n cap w r b D a1 c1 a2 c2 wr) (f : Option Addr) (m q : Nat) (zs : List Int) (hz : zs.length = m) (ho : wx.ownsRow wr.heap.size 5 1 (.slice f m q) m (zs.map (Value.int .u8))) (hb : Below wr.heap.size wr wx) : wx.cell? ⟨b, 3, none⟩ = some (.slice a1 D.xs.length c1) ∧ wx.frozen? ⟨b, 3, none⟩ = false ∧ Dx w0 g a n cap w r b ⟨D.t, D.cm, D.so, zs, D.ys, D.ir⟩ f q a2 c2 (wx.setCell ⟨b, 3, none⟩ (.slice f m q)) := by
  have hbl := blk h.c.row
  have CX := h.c.on (Keep.of_below (E := wx.heap.size) hb)
  refine ⟨(cells6 CX.row).2.2.2.1, froz CX.row 3, ?_, ?_⟩
  · rw [← dvc_in D a1 c1 a2 c2 zs f m q hz]
    exact CX.put 3 _
  · unfold dvF
    dsimp only
    rw [hz]
    exact ((Fam.newIn (h.fam.below hb) f m q zs _ wx.heap.size ho (Nat.le_refl _) (by omega) (Nat.le_refl _) hb.size).set ⟨b, 3, none⟩ _ (.inl (by dsimp only; omega))).low (Nat.le_refl _) (by rw [size_set]; exact Nat.le_refl _)

theorem Dx.newOut {w0 w wr wx : World} {g : Nat} {a : Option Addr} {n cap r b : Nat} {D : DV} {a1 : Option Addr} {c1 : Nat} {a2 : Option Addr} {c2 : Nat} (h : Dx w0 g a n cap w r b D a1 c1 a2 c2 wr) (f : Option Addr) (m q : Nat) (zs : List Int) (hz : zs.length = m) (ho : wx.ownsRow wr.heap.size 5 1 (.slice f m q) m (zs.map (Value.int .u8))) (hb : Below wr.heap.size wr wx) : wx.cell? ⟨b, 4, none⟩ = some (.slice a2 D.ys.length c2) ∧ wx.frozen? ⟨b, 4, none⟩ = false ∧ Dx w0 g a n cap w r b ⟨D.t, D.cm, D.so, D.xs, zs, D.ir⟩ a1 c1 f q (wx.setCell ⟨b, 4, none⟩ (.slice f m q)) := by
  have hbl := blk h.c.row
  have CX := h.c.on (Keep.of_below (E := wx.heap.size) hb)
  refine ⟨(cells6 CX.row).2.2.2.2.1, froz CX.row 4, ?_, ?_⟩
  · rw [← dvc_out D a1 c1 a2 c2 zs f m q hz]
    exact CX.put 4 _
  · unfold dvF
    dsimp only
    rw [hz]
    exact ((Fam.newOut (h.fam.below hb) f m q zs _ wx.heap.size ho (Nat.le_refl _) (by omega) (Nat.le_refl _) hb.size).set ⟨b, 4, none⟩ _ (.inl (by dsimp only; omega))).low (Nat.le_refl _) (by rw [size_set]; exact Nat.le_refl _)

structure Fits (D : DV) (k1 k2 : Nat) : Prop where
  t : U D.t
  cm : U D.cm
  ir : D.ir = 0 ∨ D.ir = 1
  by_ : bytesOk D
  l1 : D.xs.length ≤ k1
  l2 : D.ys.length ≤ k2

theorem Cs.put6 {w0 w wr : World} {g : Nat} {a : Option Addr} {n cap : Nat} (h : Cs w0 g a n cap w wr) (k : Nat) (hk : w.heap.size ≤ k) (hg : g ≠ k) (hw0 : w0.heap.size ≤ k) (x0 x1 x2 x3 x4 x5 : Value) : Cs w0 g a n cap w (put6 wr k x0 x1 x2 x3 x4 x5) :=
  (((((h.setc k 0 x0 hk hg hw0).setc k 1 x1 hk hg hw0).setc k 2 x2 hk hg hw0).setc k 3 x3 hk hg hw0).setc k 4 x4 hk hg hw0).setc k 5 x5 hk hg hw0

theorem allReady_push {md : Region.Mode} {ops : Array Oper} {Q : Exit → Act → World → Prop} {fuel : Nat} {listed : Array Bool} {a : Act} {w w' : World} {i : Nat} {o : Oper} {rs : List Nat} (ho : ops[i]? = some o) (hw : Region.wanted o (yielded ops a.tmps) = true) (s x : Operand) (hop : o.op = .call { callee := .builtin .append, args := #[s, x], argTypes := #[22, 22] }) (v v2 v' : Value) (hs : a.eval s = v) (hx : a.eval x = v2) (hap : (Builtin.append_ #[22, 22] o.type #[v, v2]).run Try.prog w = .ok v' w')
    (h : wpAny Try.prog md ops Q fuel (listed.setIfInBounds i true) (a.put o.dst v') w') (hr : AllReady Try.prog md ops Q fuel listed a w rs) : AllReady Try.prog md ops Q fuel listed a w (i :: rs) := by
  refine AllReady.cons ho (fun K hK => ?_) hr
  rw [if_pos hw]
  unfold Oper.wp execOp
  simp only [hop, resolve, invoke, builtin, Sem.run_bind, Sem.run_pure, Result.andThen_ok, List.map_toArray, List.map_cons, List.map_nil, hs, hx, hap]
  exact hK _ _ h

theorem made8 {w w' : World} {m : Nat} (hown : w'.ownsRow w.heap.size 5 1 (.slice (some ⟨w.heap.size, 0, none⟩) m m) m (madeCells (Value.int .u8 0).cells (m * 1)).toList) : w'.ownsRow w.heap.size 5 1 (.slice (some ⟨w.heap.size, 0, none⟩) m m) m ((List.replicate m (0 : Int)).map (Value.int .u8)) := by
  rw [List.map_replicate, ← toList_madeCells_one]; simpa [Value.cells] using hown

theorem Dx.out {w0 w wr : World} {g : Nat} {a : Option Addr} {n cap b : Nat} {D : DV} {a1 : Option Addr} {c1 : Nat} {a2 : Option Addr} {c2 : Nat} (h : Dx w0 g a n cap w w.heap.size b D a1 c1 a2 c2 wr) (x0 x1 x2 x3 x4 x5 : Value) : Fam w.heap.size (put6 wr w.heap.size x0 x1 x2 x3 x4 x5).heap.size (put6 wr w.heap.size x0 x1 x2 x3 x4 x5) (dvF D a1 c1 a2 c2) ∧ Cs w0 g a n cap w (put6 wr w.heap.size x0 x1 x2 x3 x4 x5) := by
  have hr := h.c.rlt
  have hg := h.c.glt
  have h0 := h.c.cu.1.new
  exact ⟨(h.fam.put6 w.heap.size (.inl (by omega)) x0 x1 x2 x3 x4 x5).low (by omega) (by rw [size_put6]; exact Nat.le_refl _), h.c.cu.put6 _ (Nat.le_refl _) (by omega) (by omega) _ _ _ _ _ _⟩

theorem Fits.up {D : DV} {k1 k2 m1 m2 : Nat} (h : Fits D k1 k2) (h1 : k1 ≤ m1) (h2 : k2 ≤ m2) : Fits D m1 m2 := ⟨h.t, h.cm, h.ir, h.by_, Nat.le_trans h.l1 h1, Nat.le_trans h.l2 h2⟩

theorem Fits.pushIn {D : DV} {k1 k2 : Nat} (h : Fits D k1 k2) (y : Int) : Fits ⟨D.t, D.cm, D.so, D.xs ++ [IntKind.u8.wrap y], D.ys, D.ir⟩ (k1 + 1) k2 := by
  refine ⟨h.t, h.cm, h.ir, ⟨fun z hz => ?_, h.by_.2⟩, ?_, h.l2⟩
  · rcases List.mem_append.1 hz with hz | hz
    · exact h.by_.1 z hz
    · rw [List.mem_singleton.1 hz]
      exact wf8 (by rw [IntKind.wrap_u8]; omega) (by rw [IntKind.wrap_u8]; omega)
  · have := h.l1
    simp
    omega

theorem Fits.pushOut {D : DV} {k1 k2 : Nat} (h : Fits D k1 k2) (y : Int) : Fits ⟨D.t, D.cm, D.so, D.xs, D.ys ++ [IntKind.u8.wrap y], D.ir⟩ k1 (k2 + 1) := by
  refine ⟨h.t, h.cm, h.ir, ⟨h.by_.1, fun z hz => ?_⟩, h.l1, ?_⟩
  · rcases List.mem_append.1 hz with hz | hz
    · exact h.by_.2 z hz
    · rw [List.mem_singleton.1 hz]
      exact wf8 (by rw [IntKind.wrap_u8]; omega) (by rw [IntKind.wrap_u8]; omega)
  · have := h.l2
    simp
    omega

theorem Fits.newIn {D : DV} {k1 k2 : Nat} (h : Fits D k1 k2) (m : Nat) : Fits ⟨D.t, D.cm, D.so, List.replicate m 0, D.ys, D.ir⟩ m k2 := ⟨h.t, h.cm, h.ir, ⟨zeros_wf m, h.by_.2⟩, by simp, h.l2⟩

theorem Fits.newOut {D : DV} {k1 k2 : Nat} (h : Fits D k1 k2) (m : Nat) : Fits ⟨D.t, D.cm, D.so, D.xs, List.replicate m 0, D.ir⟩ k1 m := ⟨h.t, h.cm, h.ir, ⟨h.by_.1, zeros_wf m⟩, h.l1, by simp⟩

set_option maxRecDepth 100000 in
set_option maxHeartbeats 6400000 in
theorem l8Draw_c {w0 : World} {g : Nat} {a : Option Addr} {n cap : Nat} {zs : List Int} (hcd : Code w0 a n zs) (w : World) (hc : Cur w0 w g a n cap) :
    Calls Try.prog 45 #[.pointer (some ⟨g, 0, none⟩)] w fun e w' => ∃ (D : DV) (a1 : Option Addr) (c1 : Nat) (a2 : Option Addr) (c2 : Nat), e = .returned (.agg (dvc D a1 c1 a2 c2)) ∧ Hid (Fits D 16 4096) ∧ Hid (Fam w.heap.size w'.heap.size w' (dvF D a1 c1 a2 c2)) ∧ Hid (Cs w0 g a n cap w w') := by
  have HD : Hid (Code w0 a n zs) := hcd
  have HC : Hid (Cur w0 w g a n cap) := hc
  have hgl := dhid hc.lt
  clear hcd hc
  go_enter Try.func45, Try.ntmps45
  go_wp2_with fail
  refine (l1Below_c HD.out 50 (by omega) _ (Cs.alloc HC.out _).1).mono ?_
  rintro e w1 ⟨x1, rfl, hx1, hs1⟩
  have H1 := dhid hx1
  have C1 := dhid ((Cs.alloc HC.out _).trans hs1.out)
  clear hx1
  go_wp2_with fail
  refine (l1Below_c HD.out 50 (by omega) _ C1.out.1).mono ?_
  rintro e w2 ⟨x2, rfl, hx2, hs2⟩
  have H2 := dhid hx2
  clear hx2
  go_wp2_with fail
  refine (l1Once_c HD.out 4 (by omega) _ hs2.out.1).mono ?_
  rintro e w3 ⟨so, rfl, hs3⟩
  go_wp2_with fail
  refine (l1Below_c HD.out 2 (by omega) _ hs3.out.1).mono ?_
  rintro e w4 ⟨x4, rfl, hx4, hs4⟩
  have H4 := dhid hx4
  clear hx4
  go_wp2_with fail
  have Z4 := dhid (show w.heap.size < w4.heap.size by have h1 := hs1.out.2.size; have h2 := hs2.out.2.size; have h3 := hs3.out.2.size; have h4 := hs4.out.2.size; rw [World.size_alloc] at h1; omega)
  have RR := dhid (hs4.out.keep (hs3.out.keep (hs2.out.keep (hs1.out.keep (heap_alloc_new w _) (Nat.ne_of_gt hgl.out)) (Nat.ne_of_gt hgl.out)) (Nat.ne_of_gt hgl.out)) (Nat.ne_of_gt hgl.out))
  have C4 := dhid (C1.out.trans (hs2.out.trans (hs3.out.trans hs4.out)))
  have DX : Hid (Dx w0 g a n cap w w.heap.size w4.heap.size ⟨IntKind.u64.wrap x1, IntKind.u64.wrap x2, so, [], [], x4⟩ none 0 none 0 (w4.alloc (.cells #[.int .u64 (IntKind.u64.wrap x1), .int .u64 (IntKind.u64.wrap x2), .bool so, .slice none 0 0, .slice none 0 0, .int .i64 x4] 27))) :=
    ⟨⟨heap_alloc_new _ _, row_al8 RR.out _, C4.out.trans (Cs.alloc C4.out.1 _), hgl.out, Z4.out, Nat.le_refl _⟩, fam_zero _ _ _⟩
  have FT : Hid (Fits ⟨IntKind.u64.wrap x1, IntKind.u64.wrap x2, so, [], [], x4⟩ 0 0) := ⟨U_wrap _, U_wrap _, by have := H4.out; dsimp only; omega, ⟨fun y hy => (nomatch hy), fun y hy => (nomatch hy)⟩, Nat.le_refl _, Nat.le_refl _⟩
  clear hs1 hs2 hs3 hs4 C1 C4 RR H1 H2 H4
  refine (l1Once_c HD.out 6 (by omega) _ DX.out.cur).mono ?_
  rintro e w5 ⟨c5, rfl, hs5⟩
  have DX5 := dhid (DX.out.next hs5.out)
  clear DX hs5
  go_upto_if 18 with fail
  go_cut [] from 6 (fun wc => ∃ D : DV, Hid (Dx w0 g a n cap w w.heap.size w4.heap.size D none 0 none 0 wc) ∧ Hid (Fits D 0 0))
  case first =>
    have k1 := (cells6 DX5.out.c.row).2.1
    have z1 := froz DX5.out.c.row 1
    cases c5 with
    | true =>
      go_wp2_with fail
      go_meet
      exact ⟨_, DX5.out.cmp _, ⟨FT.out.t, (show U 18446744073709551615 from ⟨by decide, by decide⟩), FT.out.ir, FT.out.by_, FT.out.l1, FT.out.l2⟩⟩
    | false =>
      go_wp2_with fail
      go_meet
      exact ⟨_, DX5, FT⟩
  case rest =>
    obtain ⟨D, DX, FT⟩ := hcut
    go_wp2_with fail
    refine (l1Below_c HD.out 5 (by omega) _ DX.out.cur).mono ?_
    rintro e w6 ⟨x, rfl, hx, hs6⟩
    obtain ⟨q, rfl⟩ := Int.eq_ofNat_of_zero_le hx.1
    have DX6 := dhid (DX.out.next hs6.out)
    have hq : q ≤ 4 := by have := hx.2; omega
    have HBY : Hid (∀ w', Cur w0 w' g a n cap → Calls Try.prog 31 #[.pointer (some ⟨g, 0, none⟩)] w' fun e w'' => ∃ x : Int, e = .returned (.int .i64 x) ∧ (0 ≤ x ∧ x ≤ 255) ∧ Hid (Cs w0 g a n cap w' w'')) := fun w' hc => l1Byte_c HD.out w' hc
    clear DX hs6 hx DX5
    go_wp2_with fail
    go_loopw [4] (fun i wr => ∃ (q : Nat) (D : DV) (a1 : Option Addr) (c1 : Nat), i = .int .i64 q ∧ q ≤ 4 ∧ Hid (Dx w0 g a n cap w w.heap.size w4.heap.size D a1 c1 none 0 wr) ∧ Hid (Fits D (4 - q) 0)) (fun i _ => (intOf i).toNat)
    case atStart => exact ⟨q, D, none, 0, rfl, hq, DX6, FT.out.up (Nat.zero_le _) (Nat.le_refl _)⟩
    case round =>
      clear DX6 FT hq
      obtain ⟨q, D, a1, c1, rfl, hq, DX, FT⟩ := hrel
      rcases Nat.eq_zero_or_pos q with h0 | h0
      · subst h0
        have FT1 := dhid (FT.out.up (show 4 - 0 ≤ 4 by omega) (Nat.le_refl 0))
        clear FT hq
        go_wp2_with fail
        refine (l1Below_c HD.out 5 (by omega) _ DX.out.cur).mono ?_
        rintro e w7 ⟨x, rfl, hx, hs7⟩
        obtain ⟨q, rfl⟩ := Int.eq_ofNat_of_zero_le hx.1
        have DX7 := dhid (DX.out.next hs7.out)
        have hq : q ≤ 4 := by have := hx.2; omega
        clear DX hs7 hx
        go_wp2_with fail
        go_loopw [5] (fun i wr => ∃ (q : Nat) (D : DV) (a1 : Option Addr) (c1 : Nat) (a2 : Option Addr) (c2 : Nat), i = .int .i64 q ∧ q ≤ 4 ∧ Hid (Dx w0 g a n cap w w.heap.size w4.heap.size D a1 c1 a2 c2 wr) ∧ Hid (Fits D 4 (4 - q))) (fun i _ => (intOf i).toNat)
        case atStart => exact ⟨q, D, a1, c1, none, 0, rfl, hq, DX7, FT1.out.up (Nat.le_refl _) (Nat.zero_le _)⟩
        case round =>
          clear DX7 FT1 hq
          obtain ⟨q, D, a1, c1, a2, c2, rfl, hq, DX, FT⟩ := hrel
          rcases Nat.eq_zero_or_pos q with h0 | h0
          · subst h0
            have FT1 := dhid (FT.out.up (Nat.le_refl 4) (show 4 - 0 ≤ 4 by omega))
            clear FT hq
            obtain ⟨i0, hi, hz0, hz1, hz2⟩ := info_parts Try.info5
            have hb2 : i0.bytes * 16 ≤ 281474976710656 := by rw [hz2]; omega
            have hb3 : 16 ≤ maxLen := by unfold maxLen; omega
            have hc2 : i0.bytes * 4096 ≤ 281474976710656 := by rw [hz2]; omega
            have hc3 : 4096 ≤ maxLen := by unfold maxLen; omega
            go_wp2_with fail
            refine (l1Once_c HD.out 30 (by omega) _ DX.out.cur).mono ?_
            rintro e w8 ⟨c8, rfl, hs8⟩
            have DX8 := dhid (DX.out.next hs8.out)
            clear DX hs8
            go_upto_if 49 with fail
            go_cut [] from 6 (fun wc => ∃ (D : DV) (a1 : Option Addr) (c1 : Nat) (a2 : Option Addr) (c2 : Nat), Hid (Dx w0 g a n cap w w.heap.size w4.heap.size D a1 c1 a2 c2 wc) ∧ Hid (Fits D 16 4))
            case first =>
              cases c8 with
              | true =>
                go_wp2_with (first | (at_make; refine wpList_make_full _ rfl (.const (.int .i64 16)) (.const (.int .i64 16)) 22 rfl w8.heap.size 5 i0 (.int .u8 0) 1 Try.underlying22 hi hz0 hz1 .i64 .i64 _ _ 16 rfl rfl rfl rfl hb2 hb3 (Nat.le_refl _) ?_; intro wm hown hgrow; obtain ⟨k3, z3, dz⟩ := DX8.out.newIn (some ⟨w8.heap.size, 0, none⟩) 16 16 (List.replicate 16 0) (by simp) (made8 hown) ((Below.refl _ _).grown hgrow (Nat.le_refl _) (by intro k h; cases h)); have DZ := dhid dz; clear hown hgrow dz))
                go_meet
                exact ⟨_, _, _, _, _, DZ, (FT1.out.newIn 16).up (Nat.le_refl _) (Nat.le_refl _)⟩
              | false =>
                go_wp2_with fail
                go_meet
                exact ⟨_, _, _, _, _, DX8, FT1.out.up (by omega) (Nat.le_refl _)⟩
            case rest =>
              clear DX8 FT1
              obtain ⟨D, a1, c1, a2, c2, DX, FT⟩ := hcut
              go_wp2_with fail
              refine (l1Once_c HD.out 60 (by omega) _ DX.out.cur).mono ?_
              rintro e w9 ⟨c9, rfl, hs9⟩
              have DX9 := dhid (DX.out.next hs9.out)
              clear DX hs9
              go_upto_if 53 with fail
              go_cut [] from 6 (fun wc => ∃ (D : DV) (a1 : Option Addr) (c1 : Nat) (a2 : Option Addr) (c2 : Nat), Hid (Dx w0 g a n cap w w.heap.size w4.heap.size D a1 c1 a2 c2 wc) ∧ Hid (Fits D 16 4096))
              case first =>
                cases c9 with
                | true =>
                  go_wp2_with (first | (at_make; refine wpList_make_full _ rfl (.const (.int .i64 4096)) (.const (.int .i64 4096)) 22 rfl w9.heap.size 5 i0 (.int .u8 0) 1 Try.underlying22 hi hz0 hz1 .i64 .i64 _ _ 4096 rfl rfl rfl rfl hc2 hc3 (Nat.le_refl _) ?_; intro wm hown hgrow; obtain ⟨k3, z3, dz⟩ := DX9.out.newOut (some ⟨w9.heap.size, 0, none⟩) 4096 4096 (List.replicate 4096 0) (by rw [List.length_replicate]) (made8 hown) ((Below.refl _ _).grown hgrow (Nat.le_refl _) (by intro k h; cases h)); have DZ := dhid dz; clear hown hgrow dz))
                  go_meet
                  exact ⟨_, _, _, _, _, DZ, FT.out.newOut 4096⟩
                | false =>
                  go_wp2_with fail
                  go_meet
                  exact ⟨_, _, _, _, _, DX9, FT.out.up (Nat.le_refl _) (by omega)⟩
              case rest =>
                clear DX9 FT
                obtain ⟨D, a1, c1, a2, c2, DX, FT⟩ := hcut
                obtain ⟨p0, p1, p2, p3, p4, p5⟩ := cells6 DX.out.c.row
                obtain ⟨s0, s1, s2, s3, s4, s5⟩ := cells6 DX.out.c.res
                obtain ⟨y0, y1, y2, y3, y4, y5⟩ := froz6 DX.out.c.res
                have OUT := dhid (DX.out.out (.int .u64 D.t) (.int .u64 D.cm) (.bool D.so) (.slice a1 D.xs.length c1) (.slice a2 D.ys.length c2) (.int .i64 D.ir))
                have RES := dhid DX.out.c.res
                have nd1 : ¬ w4.heap.size = w.heap.size := by have := Z4.out; omega
                have nd2 : ¬ w.heap.size = w4.heap.size := by have := Z4.out; omega
                clear DX
                go_wp2_with fail
                exact bodyPost_ret (results_cell_row Try.results45 _ _ _ _ _ _ _ rfl (row_put6 RES.out _ _ _ _ _ _) Try.underlying27 rfl dev_size) rfl ⟨D, a1, c1, a2, c2, rfl, FT, OUT.out.1, OUT.out.2⟩
          · have dq : decide (0 < q) = true := by simp; omega
            obtain ⟨p, rfl⟩ : ∃ p, q = p + 1 := ⟨q - 1, by omega⟩
            have k3 := (cells6 DX.out.c.row).2.2.2.2.1
            have hl : D.ys.length ≤ 1048576 := by have := FT.out.l2; omega
            go_wp2_with fail
            refine wp_region_any (by kernel_rfl) ?_
            change wpAny _ _ _ _ _ _ _ (World.drew _)
            refine wpAny_take (i := 0) (v := .pointer (some ⟨w4.heap.size, 4, none⟩)) rfl (by kernel_rfl) (by kernel_rfl) (by kernel_rfl) (fun _ _ _ h => h) (Or.inl ⟨by rfl, ?_⟩) ?_
            · intro w'
              go_simp
            refine wpAny_take (i := 2) (v := .pointer (some ⟨g, 0, none⟩)) rfl (by kernel_rfl) (by kernel_rfl) (by kernel_rfl) (fun _ _ _ h => h) (Or.inl ⟨by rfl, ?_⟩) ?_
            · intro w'
              go_simp
            refine wpAny_ready (rs := [1, 3]) (by kernel_rfl) (by simp) ?_
            refine AllReady.cons rfl (fun K hK => ?_) (AllReady.cons rfl (fun K hK => ?_) AllReady.nil)
            · go_simp
              refine hK _ _ ?_
              clear hK
              refine wpAny_ready (rs := [3]) (by kernel_rfl) (by simp) ?_
              refine AllReady.cons rfl (fun K hK => ?_) AllReady.nil
              go_simp
              refine (HBY.out _ DX.out.drew.cur).mono ?_
              rintro e wy ⟨y, rfl, hy, hsy⟩
              have M := dhid (DX.out.drew.next hsy.out)
              clear hy hsy
              have k4 := (cells6 M.out.c.row).2.2.2.2.1
              have k4' := fun o => (cells6 (row_al8 M.out.c.row o)).2.2.2.2.1
              obtain ⟨f1, q1, wz, hap, k5, z5, dz⟩ := M.out.pushOut hl (IntKind.u8.wrap y) 22
              have DZ := dhid dz
              have HAP := dhid hap
              clear dz hap
              refine hK _ _ ?_
              clear hK
              refine wpAny_take (i := 4) (v := .int .u8 (IntKind.u8.wrap y)) rfl (by kernel_rfl) (by kernel_rfl) (by kernel_rfl) (fun _ _ _ h => h) (Or.inl ⟨by rfl, ?_⟩) ?_
              · intro w'
                go_simp
              refine wpAny_ready (rs := [5]) (by kernel_rfl) (by simp) ?_
              refine AllReady.cons rfl (fun K hK => ?_) AllReady.nil
              go_simp
              refine hK _ _ ?_
              clear hK
              refine wpAny_ready (rs := [6]) (by kernel_rfl) (by simp) ?_
              refine allReady_push rfl rfl (.tmp 41) (.tmp 45) rfl _ _ _ rfl rfl HAP.out ?_ AllReady.nil
              simp only [Act.put]
              refine wpAny_take (i := 7) (v := .pointer (some ⟨w4.heap.size, 4, none⟩)) rfl (by kernel_rfl) (by kernel_rfl) (by kernel_rfl) (fun _ _ _ h => h) (Or.inl ⟨by rfl, ?_⟩) ?_
              · intro w'
                go_simp
              refine wpAny_ready (rs := [8]) (by kernel_rfl) (by simp) ?_
              refine AllReady.cons rfl (fun K hK => ?_) AllReady.nil
              go_simp
              refine hK _ _ ?_
              clear hK
              refine wpAny_done (by kernel_rfl) ?_ _
              go_wp2_with fail
              go_roundw
              case rel => exact ⟨p, _, _, _, _, _, by go_num, by omega, DZ, (FT.out.pushOut y).up (Nat.le_refl _) (by omega)⟩
              case measure => simp [intOf]
            · go_simp
              refine (HBY.out _ DX.out.drew.cur).mono ?_
              rintro e wy ⟨y, rfl, hy, hsy⟩
              have M := dhid (DX.out.drew.next hsy.out)
              clear hy hsy
              have k4 := (cells6 M.out.c.row).2.2.2.2.1
              have k4' := fun o => (cells6 (row_al8 M.out.c.row o)).2.2.2.2.1
              obtain ⟨f1, q1, wz, hap, k5, z5, dz⟩ := M.out.pushOut hl (IntKind.u8.wrap y) 22
              have DZ := dhid dz
              have HAP := dhid hap
              clear dz hap
              refine hK _ _ ?_
              clear hK
              refine wpAny_take (i := 4) (v := .int .u8 (IntKind.u8.wrap y)) rfl (by kernel_rfl) (by kernel_rfl) (by kernel_rfl) (fun _ _ _ h => h) (Or.inl ⟨by rfl, ?_⟩) ?_
              · intro w'
                go_simp
              refine wpAny_ready (rs := [1, 5]) (by kernel_rfl) (by simp) ?_
              refine AllReady.cons rfl (fun K hK => ?_) (AllReady.cons rfl (fun K hK => ?_) AllReady.nil)
              · go_simp
                refine hK _ _ ?_
                clear hK
                refine wpAny_ready (rs := [5]) (by kernel_rfl) (by simp) ?_
                refine AllReady.cons rfl (fun K hK => ?_) AllReady.nil
                go_simp
                refine hK _ _ ?_
                clear hK
                refine wpAny_ready (rs := [6]) (by kernel_rfl) (by simp) ?_
                refine allReady_push rfl rfl (.tmp 41) (.tmp 45) rfl _ _ _ rfl rfl HAP.out ?_ AllReady.nil
                simp only [Act.put]
                refine wpAny_take (i := 7) (v := .pointer (some ⟨w4.heap.size, 4, none⟩)) rfl (by kernel_rfl) (by kernel_rfl) (by kernel_rfl) (fun _ _ _ h => h) (Or.inl ⟨by rfl, ?_⟩) ?_
                · intro w'
                  go_simp
                refine wpAny_ready (rs := [8]) (by kernel_rfl) (by simp) ?_
                refine AllReady.cons rfl (fun K hK => ?_) AllReady.nil
                go_simp
                refine hK _ _ ?_
                clear hK
                refine wpAny_done (by kernel_rfl) ?_ _
                go_wp2_with fail
                go_roundw
                case rel => exact ⟨p, _, _, _, _, _, by go_num, by omega, DZ, (FT.out.pushOut y).up (Nat.le_refl _) (by omega)⟩
                case measure => simp [intOf]
              · go_simp
                refine hK _ _ ?_
                clear hK
                refine wpAny_ready (rs := [1]) (by kernel_rfl) (by simp) ?_
                refine AllReady.cons rfl (fun K hK => ?_) AllReady.nil
                go_simp
                refine hK _ _ ?_
                clear hK
                refine wpAny_ready (rs := [6]) (by kernel_rfl) (by simp) ?_
                refine allReady_push rfl rfl (.tmp 41) (.tmp 45) rfl _ _ _ rfl rfl HAP.out ?_ AllReady.nil
                simp only [Act.put]
                refine wpAny_take (i := 7) (v := .pointer (some ⟨w4.heap.size, 4, none⟩)) rfl (by kernel_rfl) (by kernel_rfl) (by kernel_rfl) (fun _ _ _ h => h) (Or.inl ⟨by rfl, ?_⟩) ?_
                · intro w'
                  go_simp
                refine wpAny_ready (rs := [8]) (by kernel_rfl) (by simp) ?_
                refine AllReady.cons rfl (fun K hK => ?_) AllReady.nil
                go_simp
                refine hK _ _ ?_
                clear hK
                refine wpAny_done (by kernel_rfl) ?_ _
                go_wp2_with fail
                go_roundw
                case rel => exact ⟨p, _, _, _, _, _, by go_num, by omega, DZ, (FT.out.pushOut y).up (Nat.le_refl _) (by omega)⟩
                case measure => simp [intOf]
      · have dq : decide (0 < q) = true := by simp; omega
        obtain ⟨p, rfl⟩ : ∃ p, q = p + 1 := ⟨q - 1, by omega⟩
        have k3 := (cells6 DX.out.c.row).2.2.2.1
        have hl : D.xs.length ≤ 1048576 := by have := FT.out.l1; omega
        go_wp2_with fail
        refine wp_region_any (by kernel_rfl) ?_
        change wpAny _ _ _ _ _ _ _ (World.drew _)
        refine wpAny_take (i := 0) (v := .pointer (some ⟨w4.heap.size, 3, none⟩)) rfl (by kernel_rfl) (by kernel_rfl) (by kernel_rfl) (fun _ _ _ h => h) (Or.inl ⟨by rfl, ?_⟩) ?_
        · intro w'
          go_simp
        refine wpAny_take (i := 2) (v := .pointer (some ⟨g, 0, none⟩)) rfl (by kernel_rfl) (by kernel_rfl) (by kernel_rfl) (fun _ _ _ h => h) (Or.inl ⟨by rfl, ?_⟩) ?_
        · intro w'
          go_simp
        refine wpAny_ready (rs := [1, 3]) (by kernel_rfl) (by simp) ?_
        refine AllReady.cons rfl (fun K hK => ?_) (AllReady.cons rfl (fun K hK => ?_) AllReady.nil)
        · go_simp
          refine hK _ _ ?_
          clear hK
          refine wpAny_ready (rs := [3]) (by kernel_rfl) (by simp) ?_
          refine AllReady.cons rfl (fun K hK => ?_) AllReady.nil
          go_simp
          refine (HBY.out _ DX.out.drew.cur).mono ?_
          rintro e wy ⟨y, rfl, hy, hsy⟩
          have M := dhid (DX.out.drew.next hsy.out)
          clear hy hsy
          have k4 := (cells6 M.out.c.row).2.2.2.1
          have k4' := fun o => (cells6 (row_al8 M.out.c.row o)).2.2.2.1
          obtain ⟨f1, q1, wz, hap, k5, z5, dz⟩ := M.out.pushIn hl (IntKind.u8.wrap y) 22
          have DZ := dhid dz
          have HAP := dhid hap
          clear dz hap
          refine hK _ _ ?_
          clear hK
          refine wpAny_take (i := 4) (v := .int .u8 (IntKind.u8.wrap y)) rfl (by kernel_rfl) (by kernel_rfl) (by kernel_rfl) (fun _ _ _ h => h) (Or.inl ⟨by rfl, ?_⟩) ?_
          · intro w'
            go_simp
          refine wpAny_ready (rs := [5]) (by kernel_rfl) (by simp) ?_
          refine AllReady.cons rfl (fun K hK => ?_) AllReady.nil
          go_simp
          refine hK _ _ ?_
          clear hK
          refine wpAny_ready (rs := [6]) (by kernel_rfl) (by simp) ?_
          refine allReady_push rfl rfl (.tmp 27) (.tmp 31) rfl _ _ _ rfl rfl HAP.out ?_ AllReady.nil
          simp only [Act.put]
          refine wpAny_take (i := 7) (v := .pointer (some ⟨w4.heap.size, 3, none⟩)) rfl (by kernel_rfl) (by kernel_rfl) (by kernel_rfl) (fun _ _ _ h => h) (Or.inl ⟨by rfl, ?_⟩) ?_
          · intro w'
            go_simp
          refine wpAny_ready (rs := [8]) (by kernel_rfl) (by simp) ?_
          refine AllReady.cons rfl (fun K hK => ?_) AllReady.nil
          go_simp
          refine hK _ _ ?_
          clear hK
          refine wpAny_done (by kernel_rfl) ?_ _
          go_wp2_with fail
          go_roundw
          case rel => exact ⟨p, _, _, _, by go_num, by omega, DZ, (FT.out.pushIn y).up (by omega) (Nat.le_refl _)⟩
          case measure => simp [intOf]
        · go_simp
          refine (HBY.out _ DX.out.drew.cur).mono ?_
          rintro e wy ⟨y, rfl, hy, hsy⟩
          have M := dhid (DX.out.drew.next hsy.out)
          clear hy hsy
          have k4 := (cells6 M.out.c.row).2.2.2.1
          have k4' := fun o => (cells6 (row_al8 M.out.c.row o)).2.2.2.1
          obtain ⟨f1, q1, wz, hap, k5, z5, dz⟩ := M.out.pushIn hl (IntKind.u8.wrap y) 22
          have DZ := dhid dz
          have HAP := dhid hap
          clear dz hap
          refine hK _ _ ?_
          clear hK
          refine wpAny_take (i := 4) (v := .int .u8 (IntKind.u8.wrap y)) rfl (by kernel_rfl) (by kernel_rfl) (by kernel_rfl) (fun _ _ _ h => h) (Or.inl ⟨by rfl, ?_⟩) ?_
          · intro w'
            go_simp
          refine wpAny_ready (rs := [1, 5]) (by kernel_rfl) (by simp) ?_
          refine AllReady.cons rfl (fun K hK => ?_) (AllReady.cons rfl (fun K hK => ?_) AllReady.nil)
          · go_simp
            refine hK _ _ ?_
            clear hK
            refine wpAny_ready (rs := [5]) (by kernel_rfl) (by simp) ?_
            refine AllReady.cons rfl (fun K hK => ?_) AllReady.nil
            go_simp
            refine hK _ _ ?_
            clear hK
            refine wpAny_ready (rs := [6]) (by kernel_rfl) (by simp) ?_
            refine allReady_push rfl rfl (.tmp 27) (.tmp 31) rfl _ _ _ rfl rfl HAP.out ?_ AllReady.nil
            simp only [Act.put]
            refine wpAny_take (i := 7) (v := .pointer (some ⟨w4.heap.size, 3, none⟩)) rfl (by kernel_rfl) (by kernel_rfl) (by kernel_rfl) (fun _ _ _ h => h) (Or.inl ⟨by rfl, ?_⟩) ?_
            · intro w'
              go_simp
            refine wpAny_ready (rs := [8]) (by kernel_rfl) (by simp) ?_
            refine AllReady.cons rfl (fun K hK => ?_) AllReady.nil
            go_simp
            refine hK _ _ ?_
            clear hK
            refine wpAny_done (by kernel_rfl) ?_ _
            go_wp2_with fail
            go_roundw
            case rel => exact ⟨p, _, _, _, by go_num, by omega, DZ, (FT.out.pushIn y).up (by omega) (Nat.le_refl _)⟩
            case measure => simp [intOf]
          · go_simp
            refine hK _ _ ?_
            clear hK
            refine wpAny_ready (rs := [1]) (by kernel_rfl) (by simp) ?_
            refine AllReady.cons rfl (fun K hK => ?_) AllReady.nil
            go_simp
            refine hK _ _ ?_
            clear hK
            refine wpAny_ready (rs := [6]) (by kernel_rfl) (by simp) ?_
            refine allReady_push rfl rfl (.tmp 27) (.tmp 31) rfl _ _ _ rfl rfl HAP.out ?_ AllReady.nil
            simp only [Act.put]
            refine wpAny_take (i := 7) (v := .pointer (some ⟨w4.heap.size, 3, none⟩)) rfl (by kernel_rfl) (by kernel_rfl) (by kernel_rfl) (fun _ _ _ h => h) (Or.inl ⟨by rfl, ?_⟩) ?_
            · intro w'
              go_simp
            refine wpAny_ready (rs := [8]) (by kernel_rfl) (by simp) ?_
            refine AllReady.cons rfl (fun K hK => ?_) AllReady.nil
            go_simp
            refine hK _ _ ?_
            clear hK
            refine wpAny_done (by kernel_rfl) ?_ _
            go_wp2_with fail
            go_roundw
            case rel => exact ⟨p, _, _, _, by go_num, by omega, DZ, (FT.out.pushIn y).up (by omega) (Nat.le_refl _)⟩
            case measure => simp [intOf]

structure FitsA (D : DV) : Prop where
  t : U D.t
  cm : U D.cm
  ir : (Lit.int .i64 D.ir).wf = true
  by_ : bytesOk D
  l1 : D.xs.length ≤ 17
  l2 : D.ys.length ≤ 4097

theorem Fits.any {D : DV} (h : Fits D 16 4096) : FitsA D := ⟨h.t, h.cm, by rcases h.ir with e | e <;> rw [e] <;> decide, h.by_, Nat.le_trans h.l1 (by omega), Nat.le_trans h.l2 (by omega)⟩

end Go.Proofs.Ytmigfnlfjgkgkaa
