/- Own lemmas. -/
import Derived.Test.YtbajeckeeekhnaaGreatK03
import Derived.Test.YtbajeckeeekhnaaGreatK14
import Derived.Test.YtbajeckeeekhnaaGreatK18
namespace Go.Proofs.YtbajeckeeekhnaaGreat
open Go.RowKit
set_option linter.unusedVariables false

theorem fam_zeroM (B E:Nat) (w:World):Fam B E w (mvF zeroM zeroA):=by
 refine ⟨fun r hr=>?_,fun r hr k e=>?_,?_⟩
 ·simp only [mvF,List.mem_cons,List.not_mem_nil,or_false] at hr
  rcases hr with rfl | rfl | rfl | rfl | rfl<;>exact ⟨rfl,.inl ⟨rfl,rfl⟩⟩
 ·simp only [mvF,List.mem_cons,List.not_mem_nil,or_false] at hr
  rcases hr with rfl | rfl | rfl | rfl | rfl<;>cases e
 ·simp only [mvF,List.pairwise_cons,List.mem_cons,List.not_mem_nil,or_false]
  refine ⟨fun s _ k e=>?_,fun s _ k e=>?_,fun s _ k e=>?_,fun s _ k e=>?_,fun s h=>h.elim,List.Pairwise.nil⟩<;>cases e

end Go.Proofs.YtbajeckeeekhnaaGreat
