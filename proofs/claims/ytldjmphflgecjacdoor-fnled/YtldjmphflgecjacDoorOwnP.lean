/- A store into registers of our own, the world behind it under a name of its own. -/
import Derived.Test.YtldjmphflgecjacDoorCsrX
namespace Go.Proofs.YtldjmphflgecjacDoor
open Go.RowKit
set_option linter.unusedVariables false

theorem run_put {w : World} {base g cap : Nat} {l : List Int} (h : Own w base g cap l) (j : Nat) (hj : j < 22) (x : Int) (o : Oper) (ev : Operand → Value) (p v : Operand) (ho : o.op = .store 25 p v) (hp : ev p = .pointer (some ⟨g, j, none⟩)) (hv : ev v = .int .u64 x) :
    (execOp ev o).run Tryd.prog w = .ok .skip (w.setCell ⟨g, j, none⟩ (.int .u64 x)) := by
  have c := h.cell j hj
  have f := h.froz j
  have hs : ∀ m, (store ⟨g, j, none⟩ (.int .u64 x) m).run Tryd.prog w = .ok () (w.setCell ⟨g, j, none⟩ (.int .u64 x)) := by
    intro m
    rw [run_store_int]
    simp [stored, c, f]
  simp [execOp, ho, hp, hv, go_sem]
  rw [c]
  simp [f]

theorem wpList_put {ops : Array Oper} {rest : List Oper} {o : Oper} {a : Act} {w : World} {Q : Exit → Act → World → Prop} (hg : o.guard = none) (p v : Operand) (ho : o.op = .store 25 p v) (hd : o.dst = none)
    {base g cap : Nat} {l : List Int} (h : Own w base g cap l) (j : Nat) (hj : j < 22) (x : Int) (hp : a.eval p = .pointer (some ⟨g, j, none⟩)) (hv : a.eval v = .int .u64 x)
    (hk : ∀ w', Own w' base g cap (l.set j x) → w.grownBy w' (some g) → wpList Tryd.prog ops Q rest a w') : wpList Tryd.prog ops Q (o :: rest) a w := by
  refine wpList_plain hg fun K hK => ?_
  unfold Oper.wp
  rw [run_put h j hj x o a.eval p v ho hp hv, Oper.upon_skip]
  rw [hd]
  exact hK _ _ (hk _ (h.put j x).1 (h.put j x).2)

end Go.Proofs.YtldjmphflgecjacDoor
