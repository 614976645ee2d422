/- A machine as a law's argument: what is known of it. -/
import Derived.Test.YtdcihpbggknhgaaRMacC
namespace Go.Proofs.YtdcihpbggknhgaaR
open Go.RowKit
set_option linter.unusedVariables false

/-- A machine that came in: its lists lie in memory, and all its numbers fit their kinds. -/
structure MIn (w : World) (M : MV) (A : MA) : Prop where
  sl : MSl w M A
  wx : ∀ y ∈ M.x, (Lit.int .u64 y).wf = true
  wcs : ∀ y ∈ M.cs, (Lit.int .u64 y).wf = true
  wram : ∀ y ∈ M.ram, (Lit.int .u8 y).wf = true
  wxs : ∀ y ∈ M.d.xs, (Lit.int .u8 y).wf = true
  wys : ∀ y ∈ M.d.ys, (Lit.int .u8 y).wf = true
  lx : M.x.length ≤ 9223372036854775807
  lcs : M.cs.length ≤ 9223372036854775807
  lram : M.ram.length ≤ 9223372036854775807
  lxs : M.d.xs.length ≤ 9223372036854775807
  lys : M.d.ys.length ≤ 9223372036854775807
  pc : (Lit.int .u64 M.pc).wf = true
  pr : (Lit.int .i64 M.pr).wf = true
  t : (Lit.int .u64 M.d.t).wf = true
  cm : (Lit.int .u64 M.d.cm).wf = true
  ir : (Lit.int .i64 M.d.ir).wf = true
  hd : (Lit.int .u64 M.hd).wf = true

theorem word_bd9 {zs : List Int} (h : ∀ y ∈ zs, (Lit.int .u64 y).wf = true) (k : Nat) : 0 ≤ zs.getD k 0 ∧ zs.getD k 0 < 18446744073709551616 := by
  by_cases hk : k < zs.length
  · have h1 := u64_bd (h (zs.getD k 0) (by simp [List.getD, List.getElem?_eq_getElem hk]))
    exact ⟨h1.1, by have := h1.2; omega⟩
  · simp [List.getD, List.getElem?_eq_none (Nat.le_of_not_lt hk)]

theorem Fam.rsl {B E : Nat} {w : World} {A : MA} {nx nc nr ni no : Nat} {x cs ram xs ys : List Int} (h : Fam B E w (rowsM A nx nc nr ni no x cs ram xs ys)) : Sl .u64 w A.ax x ∧ Sl .u64 w A.ac cs ∧ Sl .u8 w A.ar ram ∧ Sl .u8 w A.ai xs ∧ Sl .u8 w A.ao ys :=
  ⟨own_sl' (h.own (wRow A.ax nx A.cx x) (by simp [rowsM])), own_sl' (h.own (wRow A.ac nc A.cc cs) (by simp [rowsM])), own_sl' (h.own (bRow A.ar nr A.cr ram) (by simp [rowsM])), own_sl' (h.own (bRow A.ai ni A.ci xs) (by simp [rowsM])), own_sl' (h.own (bRow A.ao no A.co ys) (by simp [rowsM]))⟩

end Go.Proofs.YtdcihpbggknhgaaR
