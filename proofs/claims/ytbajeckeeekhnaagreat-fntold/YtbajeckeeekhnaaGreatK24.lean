/- Own lemmas. -/
import Derived.Test.YtbajeckeeekhnaaGreatK01
namespace Go.Proofs.YtbajeckeeekhnaaGreat
open Go.RowKit
set_option linter.unusedVariables false

theorem ldV_len (D:DV) (k:Nat):(ldV D k).2.1.xs.length≤D.xs.length∧(ldV D k).2.1.ys.length≤D.ys.length:=by
 unfold ldV
 split
 all_goals first
  | exact ⟨Nat.le_refl _,Nat.le_refl _⟩
  | (refine ⟨?_,Nat.le_refl _⟩;dsimp only;rw [List.length_drop];omega)
  | exact ⟨Nat.zero_le _,Nat.zero_le _⟩

theorem stV_len (D:DV) (x:Int) (h1:D.xs.length≤1048576) (h2:D.ys.length≤4096):∀ k:Nat,(stV D x k).1.xs.length≤1048576∧(stV D x k).1.ys.length≤1048576:=by
 intro k
 have hy:D.ys.length≤1048576:=by omega
 match k with
 | 0=>simp only [stV];exact ⟨h1,hy⟩
 | 1=>simp only [stV];exact ⟨h1,hy⟩
 | 2=>simp only [stV];exact ⟨h1,hy⟩
 | 3 =>
   simp only [stV]
   refine ⟨h1,?_⟩
   by_cases hl:D.ys.length < 4096
   ·rw [if_pos hl,List.length_append,List.length_singleton];omega
   ·rw [if_neg hl];exact hy
 | 4=>simp only [stV];exact ⟨h1,hy⟩
 | 5=>simp only [stV];exact ⟨h1,hy⟩
 | k+6=>simp only [stV,zeroD];exact ⟨Nat.zero_le _,Nat.zero_le _⟩

end Go.Proofs.YtbajeckeeekhnaaGreat
