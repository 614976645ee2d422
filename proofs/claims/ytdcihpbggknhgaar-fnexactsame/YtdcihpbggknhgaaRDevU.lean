/- The model's DevLoad, whole. -/
import Derived.Test.YtdcihpbggknhgaaRDevT
namespace Go.Proofs.YtdcihpbggknhgaaR
open Go.RowKit
set_option linter.unusedVariables false

theorem fam_shape {B E : Nat} {w : World} {a1 : Option Addr} {n1 c1 : Nat} {xs : List Int} {a2 : Option Addr} {n2 c2 : Nat} {ys : List Int} (h : Fam B E w (devF a1 n1 c1 xs a2 n2 c2 ys)) (hn : 1 ≤ n1) : ∃ g, a1 = some ⟨g, 0, none⟩ ∧ n1 ≤ c1 ∧ c1 ≤ maxLen := by
  have ho := h.own (bRow a1 n1 c1 xs) (by simp [devF])
  rcases ho.2 with ⟨_, h3⟩ | ⟨g, cap, cur, hv, _, _, h4, h5, _⟩
  · have : n1 = 0 := h3
    omega
  · injection hv with e1 e2 e3
    subst e1 e3
    exact ⟨g, rfl, h4, h5⟩

theorem okD_bd {n1 n2 : Nat} {ir : Int} (h : okD n1 n2 ir = true) : n1 ≤ 16 ∧ n2 ≤ 4096 ∧ 0 ≤ ir ∧ ir ≤ 1 := by
  unfold okD at h
  simp only [Bool.and_eq_true, decide_eq_true_eq] at h
  exact ⟨h.1.1, h.1.2, h.2.1, h.2.2⟩

end Go.Proofs.YtdcihpbggknhgaaR
