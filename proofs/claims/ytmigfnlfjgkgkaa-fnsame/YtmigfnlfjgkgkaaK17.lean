/- Own lemmas. -/
import Derived.Test.YtmigfnlfjgkgkaaK01
import Derived.Test.YtmigfnlfjgkgkaaK02
import Derived.Laws.BytesArg
namespace Go.Proofs.Ytmigfnlfjgkgkaa
open Go.RowKit
set_option linter.unusedVariables false

theorem word_bd9 {zs : List Int} (h : ∀ y ∈ zs, (Lit.int .u64 y).wf = true) (k : Nat) : 0 ≤ zs.getD k 0 ∧ zs.getD k 0 < 18446744073709551616 := by
  by_cases hk : k < zs.length
  · have h1 := u64_bd (h (zs.getD k 0) (by simp [List.getD, List.getElem?_eq_getElem hk]))
    exact ⟨h1.1, by have := h1.2; omega⟩
  · simp [List.getD, List.getElem?_eq_none (Nat.le_of_not_lt hk)]

theorem conv_sl (a : Option Addr) (n c : Nat) (zs : List Int) (w : World) (hz : zs.length = n) (hs : Sl .u8 w a zs) :
    (convert 22 9 (.slice a n c)).run Try.prog w = .ok (.string (strOfNums zs)) w := by
  by_cases h0 : n = 0
  · subst h0
    have hz2 : zs = [] := List.eq_nil_of_length_eq_zero hz
    subst hz2
    rw [run_convert_bytes_string w 22 9 5 a 0 c Try.underlying22 Try.underlying5 Try.underlying9]
    cases a <;> simp [Conv.bytesToString, loadCells, strOfNums] <;> rfl
  · obtain ⟨b, off, rfl, _, _⟩ := hs 0 (by omega)
    refine run_convert_bytes_arg w 22 5 Try.underlying22 Try.underlying5 b off n c zs hz (fun i hi => ?_) 9 Try.underlying9
    obtain ⟨b', off', e, _, hc⟩ := hs i (by omega)
    simp only [Option.some.injEq, Addr.mk.injEq, and_true] at e
    obtain ⟨rfl, rfl⟩ := e
    exact hc

theorem str_inj {xs ys : List Int} (hx : ∀ y ∈ xs, (Lit.int .u8 y).wf = true) (hy : ∀ y ∈ ys, (Lit.int .u8 y).wf = true) (h : strOfNums xs = strOfNums ys) : xs = ys := by
  have h2 : xs.map (fun n => UInt8.ofNat n.toNat) = ys.map (fun n => UInt8.ofNat n.toNat) := by
    rw [← strOfNums_data, ← strOfNums_data, h]
  have bd : ∀ {l : List Int}, (∀ y ∈ l, (Lit.int .u8 y).wf = true) → l.map (fun n => ((UInt8.ofNat n.toNat).toNat : Int)) = l := by
    intro l hl
    conv => rhs; rw [← List.map_id l]
    refine List.map_congr_left fun y hy => ?_
    have := hl y hy
    have hb : 0 ≤ y ∧ y ≤ 255 := by simpa [Lit.wf, IntKind.min, IntKind.max, IntKind.signed, IntKind.bits] using this
    simp
    omega
  rw [← bd hx, ← bd hy]
  have h3 := congrArg (List.map (fun u : UInt8 => (u.toNat : Int))) h2
  rw [List.map_map, List.map_map] at h3
  exact h3

end Go.Proofs.Ytmigfnlfjgkgkaa
