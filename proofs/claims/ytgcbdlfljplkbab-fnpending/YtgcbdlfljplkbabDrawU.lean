/- What Pending is drawn. -/
import Derived.Test.YtgcbdlfljplkbabDrawT
import Derived.Deep.Cut
namespace Go.Proofs.Ytgcbdlfljplkbab
open Go.RowKit
set_option linter.unusedVariables false

theorem Rg.drew {w0 : World} {g : Nat} {a : Option Addr} {n cap : Nat} {w wr : World} (h : Rg w0 g a n cap w wr) : Rg w0 g a n cap w wr.drew := h.next ⟨h.cur.dN 1, grown_dN _ 1 _⟩

theorem Rg.alloc {w0 : World} {g : Nat} {a : Option Addr} {n cap : Nat} {w wr : World} (h : Rg w0 g a n cap w wr) (o : Obj) : Rg w0 g a n cap w (wr.alloc o) := h.next (Cs.alloc h.cur o)

/-- A number below m is drawn while registers lie there. -/
theorem below_r {w0 : World} {g : Nat} {a : Option Addr} {n cap : Nat} {zs : List Int} (hcd : Code w0 a n zs) (m : Nat) (hm : 0 < m) (w W : World) (h : Rg w0 g a n cap w W) (j : Nat) (hj : j < 22) :
    Calls Try.prog 31 #[.pointer (some ⟨g, 0, none⟩), .int .i64 m] W fun e w' => ∃ k : Nat, e = .returned (.int .i64 k) ∧ k < m ∧ Hid (Rg w0 g a n cap w w') ∧ Hid (∀ b o, W.heap[b]? = some o → b ≠ g → w'.heap[b]? = some o) ∧
      ∃ v, w'.cell? ⟨w.heap.size, j, none⟩ = some (.int .u64 v) ∧ w'.frozen? ⟨w.heap.size, j, none⟩ = false ∧ (∀ o, (w'.alloc o).cell? ⟨w.heap.size, j, none⟩ = some (.int .u64 v)) ∧ (∀ o, (w'.alloc o).frozen? ⟨w.heap.size, j, none⟩ = false) := by
  refine (l1Below_c hcd m (by omega) W h.cur).mono ?_
  rintro e w' ⟨x, rfl, ⟨hx0, hx1⟩, hs⟩
  obtain ⟨k, rfl⟩ := Int.eq_ofNat_of_zero_le hx0
  have R := h.next hs.out
  obtain ⟨v, hv, hc, hf⟩ := R.cell j hj
  have hlt := World.block_lt_of_cell? _ _ hc
  have hA : ∀ o, Below w'.heap.size w' (w'.alloc o) := fun o => (Below.refl _ _).alloc (Nat.le_refl _) _
  exact ⟨k, rfl, by omega, R, fun b o hb hne => hs.out.keep hb hne, v, hc, hf, fun o => ((hA o).cell (by exact hlt)).trans hc, fun o => ((hA o).frozen (by exact hlt)).trans hf⟩

theorem few_at {w : World} {b k : Nat} (cs : List Int) (t : TypeId) (hr : w.heap[b]? = some (.cells (cs.map (Value.int .u64)).toArray t (0, 0))) (hk : k < cs.length) : ∃ v, w.cell? ⟨b, k, none⟩ = some (.int .u64 v) := by
  refine ⟨cs[k], ?_⟩
  rw [cell_of_row _ _ _ _ _ _ hr]
  simp [List.getElem?_eq_getElem hk]

theorem new7 {w : World} {k : Nat} (hk : k < 7) : ∃ v, (w.alloc (.cells #[.int .u64 128, .int .u64 8, .int .u64 2048, .int .u64 2, .int .u64 32, .int .u64 512, .int .u64 0] 24)).cell? ⟨w.heap.size, k, none⟩ = some (.int .u64 v) :=
  few_at [128, 8, 2048, 2, 32, 512, 0] 24 (heap_alloc_new _ _) hk

theorem old7 {W w : World} {g k : Nat} (K : ∀ b o, (W.alloc (.cells #[.int .u64 128, .int .u64 8, .int .u64 2048, .int .u64 2, .int .u64 32, .int .u64 512, .int .u64 0] 24)).drew.heap[b]? = some o → b ≠ g → w.heap[b]? = some o) (hg : g < W.heap.size) (hk : k < 7) : ∃ v, w.cell? ⟨W.heap.size, k, none⟩ = some (.int .u64 v) :=
  few_at [128, 8, 2048, 2, 32, 512, 0] 24 (K _ _ (heap_alloc_new _ _) (Nat.ne_of_gt hg)) hk

theorem new4 {w : World} {k : Nat} (hk : k < 4) : ∃ v, (w.alloc (.cells #[.int .u64 8, .int .u64 2, .int .u64 0, .int .u64 10] 24)).cell? ⟨w.heap.size, k, none⟩ = some (.int .u64 v) :=
  few_at [8, 2, 0, 10] 24 (heap_alloc_new _ _) hk

theorem old4 {W w : World} {g k : Nat} (K : ∀ b o, (W.alloc (.cells #[.int .u64 8, .int .u64 2, .int .u64 0, .int .u64 10] 24)).drew.heap[b]? = some o → b ≠ g → w.heap[b]? = some o) (hg : g < W.heap.size) (hk : k < 4) : ∃ v, w.cell? ⟨W.heap.size, k, none⟩ = some (.int .u64 v) :=
  few_at [8, 2, 0, 10] 24 (K _ _ (heap_alloc_new _ _) (Nat.ne_of_gt hg)) hk

set_option maxHeartbeats 6400000 in
theorem DrawPending_c {a : Option Addr} {n : Nat} (cap : Nat) {zs : List Int} (w : World) (hcd : Code w a n zs) :
    Calls Try.prog 27 #[.slice a n cap] w fun e w' => ∃ (b : Option Addr) (m c : Nat) (l : List Int) (p : Int), e = .returned (.tuple #[.slice b m c, .int .i64 p]) ∧ l.length = m ∧ m ≤ 22 ∧ Hid (∀ j, U (l.getD j 0)) ∧ Hid (Sl .u64 w' b l) ∧ Hid (Below w.heap.size w w') := by
  have HD : Hid (Code w a n zs) := hcd
  clear hcd
  go_enter Try.func27, Try.ntmps27
  go_wp2_with fail
  refine (l1New_c cap _ HD.out).mono ?_
  rintro e w1 ⟨g, rfl, hc⟩
  go_wp2_with fail
  refine (l4DrawAny_c HD.out _ hc.out).mono ?_
  rintro e w2 ⟨s, rfl, R2⟩
  cases s with
  | true =>
    have hv : anyV w1 true = .slice (some ⟨w1.heap.size, 1, none⟩) 21 21 := rfl
    rw [hv]
    go_wp2_with fail
    refine (l4DrawPriv_c HD.out _ R2.out.cur).mono ?_
    rintro e w3 ⟨p, rfl, h1, hs3⟩
    have R3 : Hid (Rg w g a n cap w1 w3) := R2.out.next hs3.out
    clear R2 hs3 h1
    obtain ⟨l, hl, hu, hsl⟩ := R3.out.sl.2
    have HU : Hid (∀ j, U (l.getD j 0)) := hu
    have HSL : Hid (Sl .u64 w3 (some ⟨w1.heap.size, 1, none⟩) l) := hsl
    clear hu hsl
    go_wp2_with fail
    go_ret2
    exact ⟨_, _, _, l, p, rfl, hl, by omega, HU, HSL, R3.out.cur.below⟩
  | false =>
    have hv : anyV w1 false = .slice (some ⟨w1.heap.size, 0, none⟩) 22 22 := rfl
    rw [hv]
    go_wp2_with fail
    refine (l1Once_c HD.out 3 (by omega) _ R2.out.cur).mono ?_
    rintro e w3 ⟨c, rfl, hs3⟩
    have R3 : Hid (Rg w g a n cap w1 w3) := R2.out.next hs3.out
    clear R2 hs3
    cases c with
    | true =>
      go_wp2_with fail
      refine (l4DrawPriv_c HD.out _ R3.out.cur).mono ?_
      rintro e w4 ⟨p, rfl, h1, hs4⟩
      have R4 : Hid (Rg w g a n cap w1 w4) := R3.out.next hs4.out
      clear R3 hs4 h1
      obtain ⟨l, hl, hu, hsl⟩ := R4.out.sl.1
      have HU : Hid (∀ j, U (l.getD j 0)) := hu
      have HSL : Hid (Sl .u64 w4 (some ⟨w1.heap.size, 0, none⟩) l) := hsl
      clear hu hsl
      go_wp2_with fail
      go_ret2
      exact ⟨_, _, _, l, p, rfl, hl, by omega, HU, HSL, R4.out.cur.below⟩
    | false =>
      go_wp2_with fail
      obtain ⟨v9, -, c9, f9⟩ := R3.out.cell 9 (by omega)
      have hlt := World.block_lt_of_cell? _ _ c9
      have hA : ∀ o, (w3.alloc o).cell? ⟨w1.heap.size, 9, none⟩ = some (.int .u64 v9) := fun o => (((Below.refl _ _).alloc (Nat.le_refl _) o).cell (by exact hlt)).trans c9
      have hF : ∀ o, (w3.alloc o).frozen? ⟨w1.heap.size, 9, none⟩ = false := fun o => (((Below.refl _ _).alloc (Nat.le_refl _) o).frozen (by exact hlt)).trans f9
      have HBA : Hid (Calls Try.prog 31 #[.pointer (some ⟨g, 0, none⟩), .int .i64 7] (w3.alloc (.cells #[.int .u64 128, .int .u64 8, .int .u64 2048, .int .u64 2, .int .u64 32, .int .u64 512, .int .u64 0] 24)).drew fun e w' => ∃ (k : Nat) (v u : Int), e = .returned (.int .i64 k) ∧ k < 7 ∧ Hid (Rg w g a n cap w1 w') ∧ w'.cell? ⟨w1.heap.size, 9, none⟩ = some (.int .u64 v) ∧ w'.frozen? ⟨w1.heap.size, 9, none⟩ = false ∧ w'.cell? ⟨w3.heap.size, k, none⟩ = some (.int .u64 u)) := by
        refine (below_r HD.out 7 (by omega) w1 _ (R3.out.alloc _).drew 9 (by omega)).mono ?_
        rintro e w' ⟨k, rfl, hk, R5, K5, v, h1, h2, h3, h4⟩
        obtain ⟨u, hu⟩ := old7 (W := w3) K5.out R3.out.cur.lt hk
        exact ⟨k, v, u, rfl, hk, R5, h1, h2, hu⟩
      have HBB : Hid (Calls Try.prog 31 #[.pointer (some ⟨g, 0, none⟩), .int .i64 7] w3.drew fun e w' => ∃ (k : Nat) (v u : Int), e = .returned (.int .i64 k) ∧ k < 7 ∧ Hid (Rg w g a n cap w1 w') ∧ w'.cell? ⟨w1.heap.size, 9, none⟩ = some (.int .u64 v) ∧ (∀ o, (w'.alloc o).cell? ⟨w1.heap.size, 9, none⟩ = some (.int .u64 v)) ∧ (∀ o, (w'.alloc o).frozen? ⟨w1.heap.size, 9, none⟩ = false) ∧ (w'.alloc (.cells #[.int .u64 128, .int .u64 8, .int .u64 2048, .int .u64 2, .int .u64 32, .int .u64 512, .int .u64 0] 24)).cell? ⟨w'.heap.size, k, none⟩ = some (.int .u64 u)) := by
        refine (below_r HD.out 7 (by omega) w1 _ R3.out.drew 9 (by omega)).mono ?_
        rintro e w' ⟨k, rfl, hk, R5, K5, v, h1, h2, h3, h4⟩
        obtain ⟨u, hu⟩ := new7 (w := w') hk
        exact ⟨k, v, u, rfl, hk, R5, h1, h3, h4, hu⟩
      go_cut [] from 18 (fun wc => Hid (Rg w g a n cap w1 wc))
      case first =>
        go_region_with (first | (go_at_call 31; with_reducible refine HBA.out.mono ?_; rintro e w5 ⟨k, v5, u, rfl, hk, R5, h1, h2, h3⟩; have hk0 : (0 : Int) ≤ (k : Int) := (by omega); have hk1 : (k : Int) < 7 := (by omega)) | (go_at_call 31; with_reducible refine HBB.out.mono ?_; rintro e w5 ⟨k, v5, u, rfl, hk, R5, h1, h2, h3, h4⟩; have hk0 : (0 : Int) ≤ (k : Int) := (by omega); have hk1 : (k : Int) < 7 := (by omega)))
        all_goals go_wp2_with fail
        all_goals go_meet
        all_goals (first | exact R5.out.put 9 _ (U_bits _ _ _) | exact (R5.out.alloc _).put 9 _ (U_bits _ _ _))
      case rest =>
        clear HBA HBB hA hF c9 f9 R3 v9 hv
        obtain ⟨v3, -, c3, f3⟩ := hcut.out.cell 3 (by omega)
        go_wp2_with fail
        have R6 : Hid (Rg w g a n cap w1 (wc.setCell ⟨w1.heap.size, 3, none⟩ (.int .u64 2730))) := hcut.out.put 3 _ ⟨by decide, by decide⟩
        clear hcut c3 f3 v3
        generalize wc.setCell ⟨w1.heap.size, 3, none⟩ (.int .u64 2730) = w6 at *
        obtain ⟨v0, -, c0, f0⟩ := R6.out.cell 0 (by omega)
        have hlt := World.block_lt_of_cell? _ _ c0
        have hA : ∀ o, (w6.alloc o).cell? ⟨w1.heap.size, 0, none⟩ = some (.int .u64 v0) := fun o => (((Below.refl _ _).alloc (Nat.le_refl _) o).cell (by exact hlt)).trans c0
        have hF : ∀ o, (w6.alloc o).frozen? ⟨w1.heap.size, 0, none⟩ = false := fun o => (((Below.refl _ _).alloc (Nat.le_refl _) o).frozen (by exact hlt)).trans f0
        clear hlt
        have HBA : Hid (Calls Try.prog 31 #[.pointer (some ⟨g, 0, none⟩), .int .i64 4] (w6.alloc (.cells #[.int .u64 8, .int .u64 2, .int .u64 0, .int .u64 10] 24)).drew fun e w' => ∃ (k : Nat) (v u : Int), e = .returned (.int .i64 k) ∧ k < 4 ∧ Hid (Rg w g a n cap w1 w') ∧ w'.cell? ⟨w1.heap.size, 0, none⟩ = some (.int .u64 v) ∧ w'.frozen? ⟨w1.heap.size, 0, none⟩ = false ∧ w'.cell? ⟨w6.heap.size, k, none⟩ = some (.int .u64 u)) := by
          refine (below_r HD.out 4 (by omega) w1 _ (R6.out.alloc _).drew 0 (by omega)).mono ?_
          rintro e w' ⟨k, rfl, hk, R5, K5, v, h1, h2, h3, h4⟩
          obtain ⟨u, hu⟩ := old4 (W := w6) K5.out R6.out.cur.lt hk
          exact ⟨k, v, u, rfl, hk, R5, h1, h2, hu⟩
        have HBB : Hid (Calls Try.prog 31 #[.pointer (some ⟨g, 0, none⟩), .int .i64 4] w6.drew fun e w' => ∃ (k : Nat) (v u : Int), e = .returned (.int .i64 k) ∧ k < 4 ∧ Hid (Rg w g a n cap w1 w') ∧ w'.cell? ⟨w1.heap.size, 0, none⟩ = some (.int .u64 v) ∧ (∀ o, (w'.alloc o).cell? ⟨w1.heap.size, 0, none⟩ = some (.int .u64 v)) ∧ (∀ o, (w'.alloc o).frozen? ⟨w1.heap.size, 0, none⟩ = false) ∧ (w'.alloc (.cells #[.int .u64 8, .int .u64 2, .int .u64 0, .int .u64 10] 24)).cell? ⟨w'.heap.size, k, none⟩ = some (.int .u64 u)) := by
          refine (below_r HD.out 4 (by omega) w1 _ R6.out.drew 0 (by omega)).mono ?_
          rintro e w' ⟨k, rfl, hk, R5, K5, v, h1, h2, h3, h4⟩
          obtain ⟨u, hu⟩ := new4 (w := w') hk
          exact ⟨k, v, u, rfl, hk, R5, h1, h3, h4, hu⟩
        go_cut [] from 18 (fun wc => Hid (Rg w g a n cap w1 wc))
        case first =>
          go_region_with (first | (go_at_call 31; with_reducible refine HBA.out.mono ?_; rintro e w5 ⟨k, v5, u, rfl, hk, R5, h1, h2, h3⟩; have hk0 : (0 : Int) ≤ (k : Int) := (by omega); have hk1 : (k : Int) < 4 := (by omega)) | (go_at_call 31; with_reducible refine HBB.out.mono ?_; rintro e w5 ⟨k, v5, u, rfl, hk, R5, h1, h2, h3, h4⟩; have hk0 : (0 : Int) ≤ (k : Int) := (by omega); have hk1 : (k : Int) < 4 := (by omega)))
          all_goals go_wp2_with fail
          all_goals go_meet
          all_goals (first | exact R5.out.put 0 _ (U_bits _ _ _) | exact (R5.out.alloc _).put 0 _ (U_bits _ _ _))
        case rest =>
          clear HBA HBB hA hF c0 f0 R6 v0
          go_wp2_with fail
          refine (l4DrawPriv_c HD.out _ hcut.out.cur).mono ?_
          rintro e w7 ⟨p, rfl, h1, hs7⟩
          have R7 : Hid (Rg w g a n cap w1 w7) := hcut.out.next hs7.out
          clear hcut hs7 h1
          obtain ⟨l, hl, hu, hsl⟩ := R7.out.sl.1
          have HU : Hid (∀ j, U (l.getD j 0)) := hu
          have HSL : Hid (Sl .u64 w7 (some ⟨w1.heap.size, 0, none⟩) l) := hsl
          clear hu hsl
          go_wp2_with fail
          go_ret2
          exact ⟨_, _, _, l, p, rfl, hl, by omega, HU, HSL, R7.out.cur.below⟩

end Go.Proofs.Ytgcbdlfljplkbab
