/- Own lemmas. -/
import Derived.Test.YtbajeckeeekhnaaGreatK01
import Derived.WalkKit
namespace Go.Proofs.YtbajeckeeekhnaaGreat
open Go.RowKit
set_option linter.unusedVariables false

theorem one_cell (w:World) (u:Value) (e:TypeId) (j:Nat) (x:Value) (h:[u][j]?=some x):(w.alloc (.cells #[u] e (0,0))).cell? ((⟨w.heap.size,0,none⟩:Addr).add j)=some x:=by
 have hj:j=0:=by
  rcases Nat.eq_zero_or_pos j with h0 | h0
  ·exact h0
  ·rw [List.getElem?_eq_none (by simp;omega)] at h;cases h
 subst hj
 have hn:(w.alloc (.cells #[u] e (0,0))).heap[w.heap.size]?=some (.cells #[u] e (0,0)):=heap_alloc_new _ _
 simp at h
 subst h
 show (w.alloc (.cells #[u] e (0,0))).cell? ⟨w.heap.size,0,none⟩=some u
 simp only [World.cell?,hn]
 rfl

end Go.Proofs.YtbajeckeeekhnaaGreat
