/- Contracts of the two tables: what the calls hand back. -/
import Derived.Test.YtaicnnkcdpdhaajDoorProg
import Derived.Test.YtaicnnkcdpdhaajDoorTable
import Derived.Test.YtaicnnkcdpdhaajDoorMem
namespace Go.Proofs.YtaicnnkcdpdhaajDoor
open Go.RowKit
set_option linter.unusedVariables false

def zeroI : Array Value := (List.replicate 98 [Value.string ⟨#[]⟩, .string ⟨#[]⟩, .int .u64 0, .int .u64 0, .int .u64 0]).flatten.toArray

theorem zeroI_size : zeroI.size = 490 := by kernel_rfl

theorem run_zero {P : Program} {t : TypeId} {z : Value} (h : (P.info? t).bind (·.zero) = some z) (w : World) : (zeroValue t).run P w = .ok z w := by
  cases hi : P.info? t with
  | none => rw [hi] at h; cases h
  | some i => rw [hi] at h; simp at h; simp [zeroValue, typeInfo, hi, h]

theorem wpList_allocZ {P : Program} {ops : Array Oper} {rest : List Oper} {o : Oper} {a : Act} {w : World} {Q : Exit → Act → World → Prop} (hg : o.guard = none) (t : TypeId) (ho : o.op = .alloc t) (d : Option Tmp) (hd : o.dst = d) (z : Value) (hz : (P.info? t).bind (·.zero) = some z)
    (h : wpList P ops Q rest (a.put d (.pointer (some ⟨w.heap.size, 0, none⟩))) (w.alloc (.cells z.cells t))) : wpList P ops Q (o :: rest) a w := by
  subst hd
  refine wpList_plain hg fun K hK => ?_
  have hrun : (execOp a.eval o).run P w = .ok (.value (.pointer (some ⟨w.heap.size, 0, none⟩))) (w.alloc (.cells z.cells t)) := by
    simp [execOp, ho, Instr.alloc, Sem.run_bind, run_zero hz, newVar, newRow]
  unfold Oper.wp
  rw [hrun, Oper.upon_value]
  exact hK _ _ h

theorem wpList_valTo {P : Program} {ops : Array Oper} {rest : List Oper} {o : Oper} {a : Act} {w : World} {Q : Exit → Act → World → Prop} (hg : o.guard = none) (d : Option Tmp) (hd : o.dst = d)
    (v : Value) (hrun : (execOp a.eval o).run P w = .ok (.value v) w)
    (h : wpList P ops Q rest (a.put d v) w) : wpList P ops Q (o :: rest) a w := by
  subst hd
  refine wpList_plain hg fun K hK => ?_
  unfold Oper.wp
  rw [hrun, Oper.upon_value]
  exact hK _ _ h

theorem below_setRow {B : Nat} {a w : World} (h : Below B a w) {g : Nat} (hg : B ≤ g) (cs : Array Value) : Below B a (w.setRow g cs) :=
  ⟨h.os, h.tape, h.output, by rw [setRow_size]; exact h.size, fun k hk => (setRow_other w g k cs (by omega)).trans (h.block k hk)⟩

theorem cellsI_one : cellsI.all (·.oneCell') = true := by kernel_rfl

/-- The parts of a literal of structs: n of them, out of the slots from 1 on. -/
def partsOf (rs : List (List Value)) : List (Nat × Value) := (rs.map fun c => Value.agg c.toArray).zipIdx.map fun (v, i) => (i, v)

theorem fillS : Instr.fill (fun i => some (i * 5, 5)) ((Array.range (98 * 5)).map ((Value.agg #[.string ⟨#[]⟩, .string ⟨#[]⟩, .int .u64 0, .int .i64 0, .int .u64 0]).cells[· % 5]!)) (partsOf (rows.map Row.cellsS)) = some cellsS := by kernel_rfl

theorem wpList_buildsSlice {P : Program} {ops : Array Oper} {Q : Exit → Act → World → Prop} {w : World} {l : List Oper} {a : Act} (n t e len : Nat) (d : Option Tmp) (ps : Array (Nat × Operand)) (vs : List (Nat × Value)) (cells : Array Value) (ie : TypeInfo) (z : Value)
    (h : (builds P (l.take n) a).map (fun a' => ((ps.map fun (i, x) => (i, a'.eval x)).toList, a'.tmps.size, a'.defers)) = some (vs, a.tmps.size, []))
    (hu : P.underlying t = some (.slice e)) (hie : P.info? e = some ie) (hz : ie.zero = some z) (hsmall : ¬ len * ie.size > 2 ^ 24) (hpos : ¬ len * ie.size = 0)
    (hf : Instr.fill (fun i => some (i * ie.size, ie.size)) ((Array.range (len * ie.size)).map (z.cells[· % z.cells.size]!)) vs = some cells)
    (ho : ((l.drop n)[0]?.map fun o => (o.guard, o.op, o.dst)) = some (none, .buildSlice t len ps, d))
    (hr : ∀ a' : Act, a'.tmps.size = a.tmps.size → a'.defers = [] → wpList P ops Q (l.drop (n + 1)) (a'.put d (.slice (some ⟨w.heap.size, 0, none⟩) len len)) (w.alloc (.cells cells e))) : wpList P ops Q l a w := by
  rw [← List.take_append_drop n l]
  cases hb : builds P (l.take n) a with
  | none => rw [hb] at h; cases h
  | some a' =>
    rw [hb] at h
    simp only [Option.map_some, Option.some.injEq, Prod.mk.injEq] at h
    refine wpList_builds _ _ _ _ hb ?_
    cases hd : l.drop n with
    | nil => rw [hd] at ho; cases ho
    | cons o rest =>
      rw [hd] at ho
      simp only [List.getElem?_cons_zero, Option.map_some, Option.some.injEq, Prod.mk.injEq] at ho
      have e1 : l.drop (n + 1) = rest := by rw [← List.drop_drop, hd]; rfl
      refine wpList_buildSlice ho.1 t e len ps ho.2.1 cells ie z hu hie hz hsmall hpos (by rw [h.1]; exact hf) ?_
      rw [ho.2.2, ← e1]
      exact hr a' h.2.1 h.2.2

end Go.Proofs.YtaicnnkcdpdhaajDoor
