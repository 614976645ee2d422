/- What Leave and Enter are drawn. By tools/genDrawT.py. What Pending is drawn. -/
import Derived.Test.YtldjmphflgecjacDoorDrawS
import Derived.Deep.Cut
namespace Go.Proofs.YtldjmphflgecjacDoor
open Go.RowKit
set_option linter.unusedVariables false

theorem results_d3 {fn : Func} {t u v : Tmp} (h : fn.results = #[.tmp t, .tmp u, .tmp v]) (tmps : Array Value) (P : Program) (w : World) :
    (results fn tmps).run P w = .ok (.tuple #[tmps.getD t undef, tmps.getD u undef, tmps.getD v undef]) w := by
  simp only [results, h]
  simp

theorem results_d6 {fn : Func} {t u v x y z : Tmp} (h : fn.results = #[.tmp t, .tmp u, .tmp v, .tmp x, .tmp y, .tmp z]) (tmps : Array Value) (P : Program) (w : World) :
    (results fn tmps).run P w = .ok (.tuple #[tmps.getD t undef, tmps.getD u undef, tmps.getD v undef, tmps.getD x undef, tmps.getD y undef, tmps.getD z undef]) w := by
  simp only [results, h]
  simp

end Go.Proofs.YtldjmphflgecjacDoor

namespace Go.Proofs.YtldjmphflgecjacDoor
open Go.RowKit
set_option linter.unusedVariables false

theorem Rg.drew {w0 : World} {g : Nat} {a : Option Addr} {n cap : Nat} {w wr : World} (h : Rg w0 g a n cap w wr) : Rg w0 g a n cap w wr.drew := h.next ⟨h.cur.dN 1, grown_dN _ 1 _⟩

theorem Rg.alloc {w0 : World} {g : Nat} {a : Option Addr} {n cap : Nat} {w wr : World} (h : Rg w0 g a n cap w wr) (o : Obj) : Rg w0 g a n cap w (wr.alloc o) := h.next (Cs.alloc h.cur o)

/-- A number below m is drawn while registers lie there. -/
theorem below_r {w0 : World} {g : Nat} {a : Option Addr} {n cap : Nat} {zs : List Int} (hcd : Code w0 a n zs) (m : Nat) (hm : 0 < m) (w W : World) (h : Rg w0 g a n cap w W) (j : Nat) (hj : j < 22) :
    Calls Tryd.prog 42 #[.pointer (some ⟨g, 0, none⟩), .int .i64 m] W fun e w' => ∃ k : Nat, e = .returned (.int .i64 k) ∧ k < m ∧ Hid (Rg w0 g a n cap w w') ∧ Hid (∀ b o, W.heap[b]? = some o → b ≠ g → w'.heap[b]? = some o) ∧
      ∃ v, w'.cell? ⟨w.heap.size, j, none⟩ = some (.int .u64 v) ∧ w'.frozen? ⟨w.heap.size, j, none⟩ = false ∧ (∀ o, (w'.alloc o).cell? ⟨w.heap.size, j, none⟩ = some (.int .u64 v)) ∧ (∀ o, (w'.alloc o).frozen? ⟨w.heap.size, j, none⟩ = false) := by
  refine (l1Below_c hcd m (by omega) W h.cur).mono ?_
  rintro e w' ⟨x, rfl, ⟨hx0, hx1⟩, hs⟩
  obtain ⟨k, rfl⟩ := Int.eq_ofNat_of_zero_le hx0
  have R := h.next hs.out
  obtain ⟨v, hv, hc, hf⟩ := R.cell j hj
  have hlt := World.block_lt_of_cell? _ _ hc
  have hA : ∀ o, Below w'.heap.size w' (w'.alloc o) := fun o => (Below.refl _ _).alloc (Nat.le_refl _) _
  exact ⟨k, rfl, by omega, R, fun b o hb hne => hs.out.keep hb hne, v, hc, hf, fun o => ((hA o).cell (by exact hlt)).trans hc, fun o => ((hA o).frozen (by exact hlt)).trans hf⟩

theorem few_at {w : World} {b k : Nat} (cs : List Int) (t : TypeId) (hr : w.heap[b]? = some (.cells (cs.map (Value.int .u64)).toArray t (0, 0))) (hk : k < cs.length) : ∃ v, w.cell? ⟨b, k, none⟩ = some (.int .u64 v) := by
  refine ⟨cs[k], ?_⟩
  rw [cell_of_row _ _ _ _ _ _ hr]
  simp [List.getElem?_eq_getElem hk]

theorem new7 {w : World} {k : Nat} (hk : k < 7) : ∃ v, (w.alloc (.cells #[.int .u64 128, .int .u64 8, .int .u64 2048, .int .u64 2, .int .u64 32, .int .u64 512, .int .u64 0] 25)).cell? ⟨w.heap.size, k, none⟩ = some (.int .u64 v) :=
  few_at [128, 8, 2048, 2, 32, 512, 0] 25 (heap_alloc_new _ _) hk

theorem old7 {W w : World} {g k : Nat} (K : ∀ b o, (W.alloc (.cells #[.int .u64 128, .int .u64 8, .int .u64 2048, .int .u64 2, .int .u64 32, .int .u64 512, .int .u64 0] 25)).drew.heap[b]? = some o → b ≠ g → w.heap[b]? = some o) (hg : g < W.heap.size) (hk : k < 7) : ∃ v, w.cell? ⟨W.heap.size, k, none⟩ = some (.int .u64 v) :=
  few_at [128, 8, 2048, 2, 32, 512, 0] 25 (K _ _ (heap_alloc_new _ _) (Nat.ne_of_gt hg)) hk

theorem new4 {w : World} {k : Nat} (hk : k < 4) : ∃ v, (w.alloc (.cells #[.int .u64 8, .int .u64 2, .int .u64 0, .int .u64 10] 25)).cell? ⟨w.heap.size, k, none⟩ = some (.int .u64 v) :=
  few_at [8, 2, 0, 10] 25 (heap_alloc_new _ _) hk

theorem old4 {W w : World} {g k : Nat} (K : ∀ b o, (W.alloc (.cells #[.int .u64 8, .int .u64 2, .int .u64 0, .int .u64 10] 25)).drew.heap[b]? = some o → b ≠ g → w.heap[b]? = some o) (hg : g < W.heap.size) (hk : k < 4) : ∃ v, w.cell? ⟨W.heap.size, k, none⟩ = some (.int .u64 v) :=
  few_at [8, 2, 0, 10] 25 (K _ _ (heap_alloc_new _ _) (Nat.ne_of_gt hg)) hk

end Go.Proofs.YtldjmphflgecjacDoor
