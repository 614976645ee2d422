/- An Inst compared; what Decode hands back, in its parts. -/
import Derived.Test.YtjjpklalihaanaaDoorEncR
namespace Go.Proofs.YtjjpklalihaanaaDoor
open Go.RowKit
set_option linter.unusedVariables false

/-- What Decode hands back, as its parts. -/
theorem decV_ins (x : Int) : ∃ (j : Ins) (t : Bool), decV x = .tuple #[.agg #[.int .i64 j.op, .int .i64 j.rd, .int .i64 j.a, .int .i64 j.b, .int .i64 j.imm], .bool t] ∧ (t = true → dec x = some j) ∧ (t = false → dec x = none) := by
  unfold decV
  cases h : dec x with
  | none => exact ⟨noIns, false, rfl, by simp, by simp⟩
  | some i => exact ⟨i, true, rfl, by simp, by simp⟩

theorem inst_stood : Tryd.prog.stoodInHeld 30 = false := by kernel_rfl

theorem inst_guard : Tryd.prog.eqGuardType Tryd.prog.depth 30 = false := by kernel_rfl

set_option maxHeartbeats 400000 in
theorem run_neqInst (a b c d e a' b' c' d' e' : Int) (w : World) :
    (binOp .neq 30 (.agg #[.int .i64 a, .int .i64 b, .int .i64 c, .int .i64 d, .int .i64 e]) (.agg #[.int .i64 a', .int .i64 b', .int .i64 c', .int .i64 d', .int .i64 e'])).run Tryd.prog w = .ok (.bool (!(a == a' && b == b' && c == c' && d == d' && e == e'))) w := by
  rw [run_neq_struct, run_equalIn_struct w 9999 _ _ _ (by rw [Program.fieldsOf, Tryd.underlying30]) inst_stood]
  simp only [Program.fieldsOf, Tryd.underlying30]
  have P : ∀ (k : Nat) (x1 x2 x3 x4 x5 v : Value), (#[x1, x2, x3, x4, x5] : Array Value)[k]? = some v → ∀ w, (part 2 #[x1, x2, x3, x4, x5] k).run Tryd.prog w = .ok v w := by
    intro k x1 x2 x3 x4 x5 v h w
    simp [part, isAgg, run_underlying Tryd.underlying2, h]
  have Q : ∀ (x y : Int) (w : World), (Op.equalIn 9999 2 (.int .i64 x) (.int .i64 y)).run Tryd.prog w = .ok (x == y) w := fun x y w => run_equalIn_int w 9998 2 .i64 .i64 x y Tryd.underlying2
  simp [Op.eqFields, Sem.run_bind, P 0 _ _ _ _ _ _ rfl, P 1 _ _ _ _ _ _ rfl, P 2 _ _ _ _ _ _ rfl, P 3 _ _ _ _ _ _ rfl, P 4 _ _ _ _ _ _ rfl, Q]
  by_cases h1 : a = a' <;> by_cases h2 : b = b' <;> by_cases h3 : c = c' <;> by_cases h4 : d = d' <;> by_cases h5 : e = e' <;> simp [h1, h2, h3, h4, h5]

theorem wp_neqInst {o : Oper} {A : Act} {w : World} {K : Act → World → Prop} {Q : Exit → Act → World → Prop} {a b c d e a' b' c' d' e' : Int} (x y : Operand) (t : TypeId) (ho : o.op = .binOp .neq 30 x y t)
    (hx : A.eval x = .agg #[.int .i64 a, .int .i64 b, .int .i64 c, .int .i64 d, .int .i64 e]) (hy : A.eval y = .agg #[.int .i64 a', .int .i64 b', .int .i64 c', .int .i64 d', .int .i64 e'])
    (nb : Bool) (hn : (!(a == a' && b == b' && c == c' && d == d' && e == e')) = nb) (h : K (A.put o.dst (.bool nb)) w) : o.wp Tryd.prog A w K Q := by
  subst hn
  unfold Oper.wp execOp
  simp only [ho, hx, hy, Sem.run_bind, run_eqGuard_agg w _ _ _ _ _ _ inst_guard, run_neqInst, Result.andThen_ok]
  exact h

theorem wpList_neqInst {ops : Array Oper} {rest : List Oper} {o : Oper} {A : Act} {w : World} {Q : Exit → Act → World → Prop} {a b c d e a' b' c' d' e' : Int} (hw : Region.wanted o (yielded ops A.tmps) = true) (x y : Operand) (t : TypeId) (ho : o.op = .binOp .neq 30 x y t)
    (hx : A.eval x = .agg #[.int .i64 a, .int .i64 b, .int .i64 c, .int .i64 d, .int .i64 e]) (hy : A.eval y = .agg #[.int .i64 a', .int .i64 b', .int .i64 c', .int .i64 d', .int .i64 e'])
    (nb : Bool) (hn : (!(a == a' && b == b' && c == c' && d == d' && e == e')) = nb) (h : wpList Tryd.prog ops Q rest (A.put o.dst (.bool nb)) w) : wpList Tryd.prog ops Q (o :: rest) A w := by
  unfold wpList
  rw [if_pos hw]
  exact Or.inl (wp_neqInst x y t ho hx hy nb hn h)

end Go.Proofs.YtjjpklalihaanaaDoor
