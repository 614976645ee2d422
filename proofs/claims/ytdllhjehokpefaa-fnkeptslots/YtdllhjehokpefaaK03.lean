/- Own lemmas. -/
import Derived.Test.YtdllhjehokpefaaK01
import Derived.Test.YtdllhjehokpefaaProg
import Derived.WalkKit
import Derived.Great.BuildSlice
import Derived.BigQuiet
import Derived.OwnWalk
import Derived.Laws.BitsAllLaws
namespace Go.Proofs.Ytdllhjehokpefaa
set_option linter.unusedVariables false

inductive Fm where | r | i | h | w | s | b | u | j | a | c | x
deriving DecidableEq

def Fm.str : Fm → ByteArray
  | .r => ⟨#[82]⟩ | .i => ⟨#[73]⟩ | .h => ⟨#[72]⟩ | .w => ⟨#[87]⟩ | .s => ⟨#[83]⟩ | .b => ⟨#[66]⟩ | .u => ⟨#[85]⟩ | .j => ⟨#[74]⟩ | .a => ⟨#[65]⟩ | .c => ⟨#[67]⟩ | .x => ⟨#[88]⟩

structure Row where
  name : ByteArray
  fm : Fm
  op : Int
  f3 : Int
  more : Int

def rows : List Row := [
  ⟨⟨#[108, 117, 105]⟩, .u, 55, (-1), 0⟩,
  ⟨⟨#[97, 117, 105, 112, 99]⟩, .u, 23, (-1), 0⟩,
  ⟨⟨#[106, 97, 108]⟩, .j, 111, (-1), 0⟩,
  ⟨⟨#[106, 97, 108, 114]⟩, .i, 103, 0, 0⟩,
  ⟨⟨#[98, 101, 113]⟩, .b, 99, 0, 0⟩,
  ⟨⟨#[98, 110, 101]⟩, .b, 99, 1, 0⟩,
  ⟨⟨#[98, 108, 116]⟩, .b, 99, 4, 0⟩,
  ⟨⟨#[98, 103, 101]⟩, .b, 99, 5, 0⟩,
  ⟨⟨#[98, 108, 116, 117]⟩, .b, 99, 6, 0⟩,
  ⟨⟨#[98, 103, 101, 117]⟩, .b, 99, 7, 0⟩,
  ⟨⟨#[108, 98]⟩, .i, 3, 0, 0⟩,
  ⟨⟨#[108, 104]⟩, .i, 3, 1, 0⟩,
  ⟨⟨#[108, 119]⟩, .i, 3, 2, 0⟩,
  ⟨⟨#[108, 100]⟩, .i, 3, 3, 0⟩,
  ⟨⟨#[108, 98, 117]⟩, .i, 3, 4, 0⟩,
  ⟨⟨#[108, 104, 117]⟩, .i, 3, 5, 0⟩,
  ⟨⟨#[108, 119, 117]⟩, .i, 3, 6, 0⟩,
  ⟨⟨#[115, 98]⟩, .s, 35, 0, 0⟩,
  ⟨⟨#[115, 104]⟩, .s, 35, 1, 0⟩,
  ⟨⟨#[115, 119]⟩, .s, 35, 2, 0⟩,
  ⟨⟨#[115, 100]⟩, .s, 35, 3, 0⟩,
  ⟨⟨#[97, 100, 100, 105]⟩, .i, 19, 0, 0⟩,
  ⟨⟨#[115, 108, 116, 105]⟩, .i, 19, 2, 0⟩,
  ⟨⟨#[115, 108, 116, 105, 117]⟩, .i, 19, 3, 0⟩,
  ⟨⟨#[120, 111, 114, 105]⟩, .i, 19, 4, 0⟩,
  ⟨⟨#[111, 114, 105]⟩, .i, 19, 6, 0⟩,
  ⟨⟨#[97, 110, 100, 105]⟩, .i, 19, 7, 0⟩,
  ⟨⟨#[115, 108, 108, 105]⟩, .h, 19, 1, 0⟩,
  ⟨⟨#[115, 114, 108, 105]⟩, .h, 19, 5, 0⟩,
  ⟨⟨#[115, 114, 97, 105]⟩, .h, 19, 5, 16⟩,
  ⟨⟨#[97, 100, 100, 105, 119]⟩, .i, 27, 0, 0⟩,
  ⟨⟨#[115, 108, 108, 105, 119]⟩, .w, 27, 1, 0⟩,
  ⟨⟨#[115, 114, 108, 105, 119]⟩, .w, 27, 5, 0⟩,
  ⟨⟨#[115, 114, 97, 105, 119]⟩, .w, 27, 5, 32⟩,
  ⟨⟨#[97, 100, 100]⟩, .r, 51, 0, 0⟩,
  ⟨⟨#[115, 117, 98]⟩, .r, 51, 0, 32⟩,
  ⟨⟨#[115, 108, 108]⟩, .r, 51, 1, 0⟩,
  ⟨⟨#[115, 108, 116]⟩, .r, 51, 2, 0⟩,
  ⟨⟨#[115, 108, 116, 117]⟩, .r, 51, 3, 0⟩,
  ⟨⟨#[120, 111, 114]⟩, .r, 51, 4, 0⟩,
  ⟨⟨#[115, 114, 108]⟩, .r, 51, 5, 0⟩,
  ⟨⟨#[115, 114, 97]⟩, .r, 51, 5, 32⟩,
  ⟨⟨#[111, 114]⟩, .r, 51, 6, 0⟩,
  ⟨⟨#[97, 110, 100]⟩, .r, 51, 7, 0⟩,
  ⟨⟨#[97, 100, 100, 119]⟩, .r, 59, 0, 0⟩,
  ⟨⟨#[115, 117, 98, 119]⟩, .r, 59, 0, 32⟩,
  ⟨⟨#[115, 108, 108, 119]⟩, .r, 59, 1, 0⟩,
  ⟨⟨#[115, 114, 108, 119]⟩, .r, 59, 5, 0⟩,
  ⟨⟨#[115, 114, 97, 119]⟩, .r, 59, 5, 32⟩,
  ⟨⟨#[109, 117, 108]⟩, .r, 51, 0, 1⟩,
  ⟨⟨#[109, 117, 108, 104]⟩, .r, 51, 1, 1⟩,
  ⟨⟨#[109, 117, 108, 104, 115, 117]⟩, .r, 51, 2, 1⟩,
  ⟨⟨#[109, 117, 108, 104, 117]⟩, .r, 51, 3, 1⟩,
  ⟨⟨#[100, 105, 118]⟩, .r, 51, 4, 1⟩,
  ⟨⟨#[100, 105, 118, 117]⟩, .r, 51, 5, 1⟩,
  ⟨⟨#[114, 101, 109]⟩, .r, 51, 6, 1⟩,
  ⟨⟨#[114, 101, 109, 117]⟩, .r, 51, 7, 1⟩,
  ⟨⟨#[109, 117, 108, 119]⟩, .r, 59, 0, 1⟩,
  ⟨⟨#[100, 105, 118, 119]⟩, .r, 59, 4, 1⟩,
  ⟨⟨#[100, 105, 118, 117, 119]⟩, .r, 59, 5, 1⟩,
  ⟨⟨#[114, 101, 109, 119]⟩, .r, 59, 6, 1⟩,
  ⟨⟨#[114, 101, 109, 117, 119]⟩, .r, 59, 7, 1⟩,
  ⟨⟨#[108, 114, 46, 119]⟩, .a, 47, 2, 2⟩,
  ⟨⟨#[115, 99, 46, 119]⟩, .a, 47, 2, 3⟩,
  ⟨⟨#[97, 109, 111, 115, 119, 97, 112, 46, 119]⟩, .a, 47, 2, 1⟩,
  ⟨⟨#[97, 109, 111, 97, 100, 100, 46, 119]⟩, .a, 47, 2, 0⟩,
  ⟨⟨#[97, 109, 111, 120, 111, 114, 46, 119]⟩, .a, 47, 2, 4⟩,
  ⟨⟨#[97, 109, 111, 97, 110, 100, 46, 119]⟩, .a, 47, 2, 12⟩,
  ⟨⟨#[97, 109, 111, 111, 114, 46, 119]⟩, .a, 47, 2, 8⟩,
  ⟨⟨#[97, 109, 111, 109, 105, 110, 46, 119]⟩, .a, 47, 2, 16⟩,
  ⟨⟨#[97, 109, 111, 109, 97, 120, 46, 119]⟩, .a, 47, 2, 20⟩,
  ⟨⟨#[97, 109, 111, 109, 105, 110, 117, 46, 119]⟩, .a, 47, 2, 24⟩,
  ⟨⟨#[97, 109, 111, 109, 97, 120, 117, 46, 119]⟩, .a, 47, 2, 28⟩,
  ⟨⟨#[108, 114, 46, 100]⟩, .a, 47, 3, 2⟩,
  ⟨⟨#[115, 99, 46, 100]⟩, .a, 47, 3, 3⟩,
  ⟨⟨#[97, 109, 111, 115, 119, 97, 112, 46, 100]⟩, .a, 47, 3, 1⟩,
  ⟨⟨#[97, 109, 111, 97, 100, 100, 46, 100]⟩, .a, 47, 3, 0⟩,
  ⟨⟨#[97, 109, 111, 120, 111, 114, 46, 100]⟩, .a, 47, 3, 4⟩,
  ⟨⟨#[97, 109, 111, 97, 110, 100, 46, 100]⟩, .a, 47, 3, 12⟩,
  ⟨⟨#[97, 109, 111, 111, 114, 46, 100]⟩, .a, 47, 3, 8⟩,
  ⟨⟨#[97, 109, 111, 109, 105, 110, 46, 100]⟩, .a, 47, 3, 16⟩,
  ⟨⟨#[97, 109, 111, 109, 97, 120, 46, 100]⟩, .a, 47, 3, 20⟩,
  ⟨⟨#[97, 109, 111, 109, 105, 110, 117, 46, 100]⟩, .a, 47, 3, 24⟩,
  ⟨⟨#[97, 109, 111, 109, 97, 120, 117, 46, 100]⟩, .a, 47, 3, 28⟩,
  ⟨⟨#[102, 101, 110, 99, 101]⟩, .i, 15, 0, 0⟩,
  ⟨⟨#[102, 101, 110, 99, 101, 46, 105]⟩, .i, 15, 1, 0⟩,
  ⟨⟨#[99, 115, 114, 114, 119]⟩, .c, 115, 1, 0⟩,
  ⟨⟨#[99, 115, 114, 114, 115]⟩, .c, 115, 2, 0⟩,
  ⟨⟨#[99, 115, 114, 114, 99]⟩, .c, 115, 3, 0⟩,
  ⟨⟨#[99, 115, 114, 114, 119, 105]⟩, .c, 115, 5, 0⟩,
  ⟨⟨#[99, 115, 114, 114, 115, 105]⟩, .c, 115, 6, 0⟩,
  ⟨⟨#[99, 115, 114, 114, 99, 105]⟩, .c, 115, 7, 0⟩,
  ⟨⟨#[101, 99, 97, 108, 108]⟩, .x, 115, 0, 0⟩,
  ⟨⟨#[101, 98, 114, 101, 97, 107]⟩, .x, 115, 0, 1⟩,
  ⟨⟨#[115, 114, 101, 116]⟩, .x, 115, 0, 258⟩,
  ⟨⟨#[109, 114, 101, 116]⟩, .x, 115, 0, 770⟩,
  ⟨⟨#[119, 102, 105]⟩, .x, 115, 0, 261⟩,
  ⟨⟨#[115, 102, 101, 110, 99, 101, 46, 118, 109, 97]⟩, .r, 115, 0, 9⟩]

def Row.f3z (r : Row) : Int := if r.f3 < 0 then 0 else r.f3

def Row.cellsI (r : Row) : List Value := [.string r.name, .string r.fm.str, .int .u64 r.op, .int .u64 r.f3z, .int .u64 r.more]

def Row.cellsS (r : Row) : List Value := [.string r.name, .string r.fm.str, .int .u64 r.op, .int .i64 r.f3, .int .u64 r.more]

def cellsI : Array Value := (rows.flatMap Row.cellsI).toArray

def cellsS : Array Value := (rows.flatMap Row.cellsS).toArray

theorem rows_len : rows.length = 98 := by rfl

theorem flat_drop {α β : Type} (f : α → List β) (m : Nat) : ∀ (l : List α), (∀ x ∈ l, (f x).length = m) → ∀ k (h : k < l.length), ((l.flatMap f).drop (k * m)).take m = f l[k] := by
  intro l
  induction l with
  | nil => intro _ k h; simp at h
  | cons x l ih =>
    intro hl k h
    have hx : (f x).length = m := hl x (by simp)
    cases k with
    | zero => simp [← hx]
    | succ k =>
      have e : (k + 1) * m = (f x).length + k * m := by rw [hx, Nat.succ_mul]; omega
      rw [e, List.flatMap_cons, List.drop_append, List.drop_of_length_le (by omega), Nat.add_sub_cancel_left]
      exact ih (fun y hy => hl y (by simp [hy])) k (by simpa using h)

theorem flat_get {α β : Type} (f : α → List β) (m : Nat) (l : List α) (hl : ∀ x ∈ l, (f x).length = m) (k : Nat) (h : k < l.length) (j : Nat) (hj : j < m) : (l.flatMap f)[k * m + j]? = (f l[k])[j]? := by
  rw [← flat_drop f m l hl k h]
  simp [hj]

def rowAt (k : Nat) : Row := rows.getD k ⟨⟨#[]⟩, .x, 0, 0, 0⟩

theorem rowAt_get (k : Nat) (h : k < 98) : rows[k]'(by rw [rows_len]; exact h) = rowAt k := by
  simp [rowAt, List.getD, List.getElem?_eq_getElem (show k < rows.length by rw [rows_len]; exact h)]

theorem cellsI_part (k : Nat) (h : k < 98) : cellsI.extract (k * 5) (k * 5 + 5) = (rowAt k).cellsI.toArray := by
  have := flat_drop Row.cellsI 5 rows (by intro x _; rfl) k (by rw [rows_len]; exact h)
  rw [rowAt_get k h] at this
  rw [← this]
  simp [cellsI]

theorem cellsI_size : cellsI.size = 490 := by kernel_rfl

theorem cellsS_size : cellsS.size = 490 := by kernel_rfl

theorem cellsS_at (k : Nat) (h : k < 98) (j : Nat) (hj : j < 5) : cellsS[k * 5 + j]? = (rowAt k).cellsS[j]? := by
  have := flat_get Row.cellsS 5 rows (by intro x _; rfl) k (by rw [rows_len]; exact h) j hj
  rw [rowAt_get k h] at this
  rw [← this]
  simp [cellsS]

section
variable {P : Program}

def builds (P : Program) : List Oper → Act → Option Act
  | [], a => some a
  | o :: l, a =>
    match o.guard, o.op with
    | none, .build t parts =>
      match P.built t (parts.map fun (i, x) => (i, a.eval x)).toList with
      | some cells => builds P l (a.put o.dst (.agg cells))
      | none => none
    | _, _ => none

theorem wpList_builds {ops : Array Oper} {Q : Exit → Act → World → Prop} {w : World} : ∀ (l rest : List Oper) (a a' : Act), builds P l a = some a' → wpList P ops Q rest a' w → wpList P ops Q (l ++ rest) a w := by
  intro l
  induction l with
  | nil => intro rest a a' h hr; simp [builds] at h; subst h; exact hr
  | cons o l ih =>
    intro rest a a' h hr
    unfold builds at h
    split at h
    · rename_i t parts hg ho
      split at h
      · rename_i cells hc
        exact wpList_buildTo hg t parts ho o.dst rfl cells hc (ih _ _ _ h hr)
      · cases h
    · cases h

theorem wpList_buildsTo {ops : Array Oper} {Q : Exit → Act → World → Prop} {w : World} {l : List Oper} {a : Act} (n s t : Nat) (v x : Value)
    (h : (builds P (l.take n) a).map (fun a' => (a'.tmps.getD s undef, a'.tmps.getD t undef, a'.defers)) = some (v, x, []))
    (hr : ∀ a' : Act, a'.tmps.getD s undef = v → a'.tmps.getD t undef = x → a'.defers = [] → wpList P ops Q (l.drop n) a' w) : wpList P ops Q l a w := by
  rw [← List.take_append_drop n l]
  cases hb : builds P (l.take n) a with
  | none => rw [hb] at h; cases h
  | some a' =>
    rw [hb] at h
    simp only [Option.map_some, Option.some.injEq, Prod.mk.injEq] at h
    exact wpList_builds _ _ _ _ hb (hr a' h.1 h.2.1 h.2.2)
end

end Go.Proofs.Ytdllhjehokpefaa

namespace Go.Proofs.Ytdllhjehokpefaa
open Go.RowKit
set_option linter.unusedVariables false

def zeroI : Array Value := (List.replicate 98 [Value.string ⟨#[]⟩, .string ⟨#[]⟩, .int .u64 0, .int .u64 0, .int .u64 0]).flatten.toArray

theorem zeroI_size : zeroI.size = 490 := by kernel_rfl

theorem run_zero {P : Program} {t : TypeId} {z : Value} (h : (P.info? t).bind (·.zero) = some z) (w : World) : (zeroValue t).run P w = .ok z w := by
  cases hi : P.info? t with
  | none => rw [hi] at h; cases h
  | some i => rw [hi] at h; simp at h; simp [zeroValue, typeInfo, hi, h]

theorem wpList_allocZ {P : Program} {ops : Array Oper} {rest : List Oper} {o : Oper} {a : Act} {w : World} {Q : Exit → Act → World → Prop} (hg : o.guard = none) (t : TypeId) (ho : o.op = .alloc t) (d : Option Tmp) (hd : o.dst = d) (z : Value) (hz : (P.info? t).bind (·.zero) = some z)
    (h : wpList P ops Q rest (a.put d (.pointer (some ⟨w.heap.size, 0, none⟩))) (w.alloc (.cells z.cells t))) : wpList P ops Q (o :: rest) a w := by
  subst hd
  refine wpList_plain hg fun K hK => ?_
  have hrun : (execOp a.eval o).run P w = .ok (.value (.pointer (some ⟨w.heap.size, 0, none⟩))) (w.alloc (.cells z.cells t)) := by
    simp [execOp, ho, Instr.alloc, Sem.run_bind, run_zero hz, newVar, newRow]
  unfold Oper.wp
  rw [hrun, Oper.upon_value]
  exact hK _ _ h

theorem wpList_valTo {P : Program} {ops : Array Oper} {rest : List Oper} {o : Oper} {a : Act} {w : World} {Q : Exit → Act → World → Prop} (hg : o.guard = none) (d : Option Tmp) (hd : o.dst = d)
    (v : Value) (hrun : (execOp a.eval o).run P w = .ok (.value v) w)
    (h : wpList P ops Q rest (a.put d v) w) : wpList P ops Q (o :: rest) a w := by
  subst hd
  refine wpList_plain hg fun K hK => ?_
  unfold Oper.wp
  rw [hrun, Oper.upon_value]
  exact hK _ _ h

theorem below_setRow {B : Nat} {a w : World} (h : Below B a w) {g : Nat} (hg : B ≤ g) (cs : Array Value) : Below B a (w.setRow g cs) :=
  ⟨h.os, h.tape, h.output, by rw [setRow_size]; exact h.size, fun k hk => (setRow_other w g k cs (by omega)).trans (h.block k hk)⟩

theorem cellsI_one : cellsI.all (·.oneCell') = true := by kernel_rfl

def partsOf (rs : List (List Value)) : List (Nat × Value) := (rs.map fun c => Value.agg c.toArray).zipIdx.map fun (v, i) => (i, v)

theorem fillS : Instr.fill (fun i => some (i * 5, 5)) ((Array.range (98 * 5)).map ((Value.agg #[.string ⟨#[]⟩, .string ⟨#[]⟩, .int .u64 0, .int .i64 0, .int .u64 0]).cells[· % 5]!)) (partsOf (rows.map Row.cellsS)) = some cellsS := by kernel_rfl

theorem wpList_buildsSlice {P : Program} {ops : Array Oper} {Q : Exit → Act → World → Prop} {w : World} {l : List Oper} {a : Act} (n t e len : Nat) (d : Option Tmp) (ps : Array (Nat × Operand)) (vs : List (Nat × Value)) (cells : Array Value) (ie : TypeInfo) (z : Value)
    (h : (builds P (l.take n) a).map (fun a' => ((ps.map fun (i, x) => (i, a'.eval x)).toList, a'.tmps.size, a'.defers)) = some (vs, a.tmps.size, []))
    (hu : P.underlying t = some (.slice e)) (hie : P.info? e = some ie) (hz : ie.zero = some z) (hsmall : ¬ len * ie.size > 2 ^ 24) (hpos : ¬ len * ie.size = 0)
    (hf : Instr.fill (fun i => some (i * ie.size, ie.size)) ((Array.range (len * ie.size)).map (z.cells[· % z.cells.size]!)) vs = some cells)
    (ho : ((l.drop n)[0]?.map fun o => (o.guard, o.op, o.dst)) = some (none, .buildSlice t len ps, d))
    (hr : ∀ a' : Act, a'.tmps.size = a.tmps.size → a'.defers = [] → wpList P ops Q (l.drop (n + 1)) (a'.put d (.slice (some ⟨w.heap.size, 0, none⟩) len len)) (w.alloc (.cells cells e))) : wpList P ops Q l a w := by
  rw [← List.take_append_drop n l]
  cases hb : builds P (l.take n) a with
  | none => rw [hb] at h; cases h
  | some a' =>
    rw [hb] at h
    simp only [Option.map_some, Option.some.injEq, Prod.mk.injEq] at h
    refine wpList_builds _ _ _ _ hb ?_
    cases hd : l.drop n with
    | nil => rw [hd] at ho; cases ho
    | cons o rest =>
      rw [hd] at ho
      simp only [List.getElem?_cons_zero, Option.map_some, Option.some.injEq, Prod.mk.injEq] at ho
      have e1 : l.drop (n + 1) = rest := by rw [← List.drop_drop, hd]; rfl
      refine wpList_buildSlice ho.1 t e len ps ho.2.1 cells ie z hu hie hz hsmall hpos (by rw [h.1]; exact hf) ?_
      rw [ho.2.2, ← e1]
      exact hr a' h.2.1 h.2.2

end Go.Proofs.Ytdllhjehokpefaa

namespace Go.Proofs.Ytdllhjehokpefaa
open Go.RowKit
set_option linter.unusedVariables false

def opB (op : Int) : Bool := decide (1 ≤ op ∧ op ≤ 98)

def nameOf (op : Int) : ByteArray := if opB op then (rowAt (op - 1).toNat).name else ⟨#[]⟩

def formOf (op : Int) : ByteArray := if opB op then (rowAt (op - 1).toNat).fm.str else ⟨#[]⟩

def Row.val (r : Row) : Value := .agg #[.string r.name, .string r.fm.str, .int .u64 r.op, .int .u64 r.f3z, .int .u64 r.more]

def noRow : Value := .agg #[.string ⟨#[]⟩, .string ⟨#[]⟩, .int .u64 0, .int .u64 0, .int .u64 0]

def rowV (op : Int) : Value := if opB op then (rowAt (op - 1).toNat).val else noRow

theorem rowV_false {op : Int} (h : opB op = false) : rowV op = noRow := by simp [rowV, h]

theorem rowV_true {k : Nat} (h : opB ((k : Int) + 1) = true) : rowV ((k : Int) + 1) = (rowAt k).val := by simp [rowV, h]

theorem results_row2 {P : Program} {fn : Func} {p u : Tmp} {ty : TypeId} (h : fn.results = #[.cell p ty, .tmp u]) (tmps : Array Value) (w : World) (g : Nat) (t : TypeId) (cs : Array Value) (fr : Nat × Nat) (d : TypeDesc)
    (hp : tmps.getD p undef = .pointer (some ⟨g, 0, none⟩)) (hg : w.heap[g]? = some (.cells cs t fr))
    (hu : P.underlying ty = some d) (hd : (match d with | .struct _ | .array _ _ => true | _ => false) = true) (hi : (P.info? ty).map (·.size) = some cs.size) :
    (results fn tmps).run P w = .ok (.tuple #[.agg cs, tmps.getD u undef]) w := by
  rw [results_cell_tmp h, hp]
  simp [asAddr, run_loadVar_row w g t ty cs fr d hg hu hd hi]

theorem rowV_parts (op : Int) : ∃ r1 r2 r3 r4 r5, rowV op = .agg #[.string r1, .string r2, .int .u64 r3, .int .u64 r4, .int .u64 r5] ∧ Hid (r1 = nameOf op) ∧ Hid (r2 = formOf op) := by
  cases h : opB op with
  | true => exact ⟨_, _, _, _, _, by simp [rowV, h]; rfl, (by simp [nameOf, h] : (rowAt (op - 1).toNat).name = nameOf op), (by simp [formOf, h] : (rowAt (op - 1).toNat).fm.str = formOf op)⟩
  | false => exact ⟨_, _, _, _, _, by simp [rowV, h]; rfl, (by simp [nameOf, h] : (⟨#[]⟩ : ByteArray) = nameOf op), (by simp [formOf, h] : (⟨#[]⟩ : ByteArray) = formOf op)⟩

theorem row_one (r : Row) : (#[Value.string r.name, .string r.fm.str, .int .u64 r.op, .int .u64 r.f3z, .int .u64 r.more] : Array Value).all (·.oneCell') = true := by
  simp [Value.oneCell']

theorem l1In_any (x a b : Int) (w : World) : Calls Try.prog 36 #[.int .i64 x, .int .i64 a, .int .i64 b] w fun e w' => e = .returned (.bool (decide (a ≤ x ∧ x ≤ b))) ∧ w' = w := by
  by_cases h1 : a ≤ x
  · by_cases h2 : x ≤ b
    · have F : Hid (decide (a ≤ x ∧ x ≤ b) = true) := by show decide (a ≤ x ∧ x ≤ b) = true; simp [h1, h2]
      have d1 : decide (a ≤ x) = true := by simpa using h1
      have d2 : decide (x ≤ b) = true := by simpa using h2
      clear h1 h2
      go_enter Try.func36, Try.ntmps36
      go_wp2
      go_ret
      exact ⟨by rw [F.out]; rfl, rfl⟩
    · have F : Hid (decide (a ≤ x ∧ x ≤ b) = false) := by show decide (a ≤ x ∧ x ≤ b) = false; simp [h2]
      have d1 : decide (a ≤ x) = true := by simpa using h1
      have d2 : decide (x ≤ b) = false := by simpa using h2
      clear h1 h2
      go_enter Try.func36, Try.ntmps36
      go_wp2
      go_ret
      exact ⟨by rw [F.out]; rfl, rfl⟩
  · have F : Hid (decide (a ≤ x ∧ x ≤ b) = false) := by show decide (a ≤ x ∧ x ≤ b) = false; simp [h1]
    have d1 : decide (a ≤ x) = false := by simpa using h1
    clear h1
    go_enter Try.func36, Try.ntmps36
    go_wp2
    go_ret
    exact ⟨by rw [F.out]; rfl, rfl⟩

def TabS (w : World) (g : Nat) : Prop := g < w.heap.size ∧ ∀ k, k < 98 → ∀ r, r = rowAt k → w.cell? ⟨g, k * 5, none⟩ = some (.string r.name) ∧ w.cell? ⟨g, k * 5 + 1, none⟩ = some (.string r.fm.str) ∧
  w.cell? ⟨g, k * 5 + 2, none⟩ = some (.int .u64 r.op) ∧ w.cell? ⟨g, k * 5 + 3, none⟩ = some (.int .i64 r.f3) ∧ w.cell? ⟨g, k * 5 + 4, none⟩ = some (.int .u64 r.more)

theorem TabS.below {w w' : World} {g : Nat} (h : TabS w g) {B : Nat} (hg : g < B) (hb : Below B w w') : TabS w' g := by
  refine ⟨Nat.lt_of_lt_of_le h.1 hb.size, fun k hk r hr => ?_⟩
  have H := h.2 k hk r hr
  have e : ∀ o, w'.cell? ⟨g, o, none⟩ = w.cell? ⟨g, o, none⟩ := fun o => hb.cell (p := ⟨g, o, none⟩) hg
  rw [e, e, e, e, e]; exact H

def findName (s : ByteArray) : Nat → Nat → Int
  | 0, _ => 0
  | n + 1, k => if ((rowAt k).name.toList == s.toList) = true then (k : Int) + 1 else findName s n (k + 1)

theorem findName_hit (s : ByteArray) (k : Nat) (hk : k < 98) (h : ((rowAt k).name.toList == s.toList) = true) : findName s (98 - k) k = (k : Int) + 1 := by
  rw [show 98 - k = (98 - (k + 1)) + 1 from by omega, findName, if_pos h]

theorem findName_miss (s : ByteArray) (k : Nat) (hk : k < 98) (h : ((rowAt k).name.toList == s.toList) = false) : findName s (98 - k) k = findName s (98 - (k + 1)) (k + 1) := by
  rw [show 98 - k = (98 - (k + 1)) + 1 from by omega, findName, if_neg (by rw [h]; decide)]

end Go.Proofs.Ytdllhjehokpefaa

namespace Go.Proofs.Ytdllhjehokpefaa
open Go.RowKit
set_option linter.unusedVariables false

theorem and_i64 (z : Int) (m : Nat) (hm : m < 9223372036854775808) : 0 ≤ bits .and .i64 z (m : Int) ∧ bits .and .i64 z (m : Int) ≤ m := by
  have e : bits .and .i64 z (m : Int) = wrap64 (((BitVec.ofInt 64 z).toNat &&& m : Nat) : Int) := by
    show IntKind.i64.wrap ((BitVec.ofInt 64 z &&& BitVec.ofInt 64 (m : Int)).toNat : Int) = _
    rw [BitVec.toNat_and, BitVec.ofInt_natCast, BitVec.toNat_ofNat, Nat.mod_eq_of_lt (show m < 2 ^ 64 by omega)]
    rw [IntKind.wrap_i64]; unfold wrap64; rfl
  have h : (BitVec.ofInt 64 z).toNat &&& m ≤ m := Nat.and_le_right
  rw [e]
  unfold wrap64
  omega

structure Code (w0 : World) (a : Option Addr) (n : Nat) (zs : List Int) : Prop where
  len : zs.length = n
  few : n ≤ 4096
  sl : Sl .u8 w0 a zs
  bd : ∀ y ∈ zs, (Lit.int .u8 y).wf = true

structure Cur (w0 w : World) (g : Nat) (a : Option Addr) (n cap : Nat) : Prop where
  new : w0.heap.size ≤ g
  below : Below w0.heap.size w0 w
  row : ∃ (i : Nat) (h : Int), i ≤ n ∧ w.heap[g]? = some (.cells #[.slice a n cap, .int .i64 (i : Int), .int .i64 h] 75 (0, 0))

theorem grown_set (w : World) (g i : Nat) (v : Value) : w.grownBy (w.setCell ⟨g, i, none⟩ v) (some g) :=
  ⟨rfl, rfl, rfl, by simp, fun k _ hk => heap_setCell_other _ _ _ _ (by intro h; exact hk (by rw [h]))⟩

theorem grown_dN (w : World) (n : Nat) (row : Option Nat) : w.grownBy (w.drewN n) row := ⟨rfl, rfl, rfl, Nat.le_refl _, fun _ _ _ => rfl⟩

theorem grown_alloc (w : World) (o : Obj) (row : Option Nat) : w.grownBy (w.alloc o) row :=
  ⟨rfl, rfl, rfl, by simp, fun k hk _ => heap_alloc_old w o hk⟩

theorem Cur.grown {w0 w w' : World} {g : Nat} {a : Option Addr} {n cap : Nat} (hc : Cur w0 w g a n cap) (hw : w.grownBy w' none) : Cur w0 w' g a n cap := by
  obtain ⟨i, h, hi, hrow⟩ := hc.row
  have lt : ∀ k o, w.heap[k]? = some o → k < w.heap.size := by
    intro k o hk
    by_cases hl : k < w.heap.size
    · exact hl
    · rw [Array.getElem?_eq_none (by omega)] at hk; cases hk
  refine ⟨hc.new, ?_, i, h, hi, ?_⟩
  · exact ⟨hw.os.trans hc.below.os, hw.tape.trans hc.below.tape, hw.output.trans hc.below.output, Nat.le_trans hc.below.size hw.size, fun k hk => (hw.block k (Nat.lt_of_lt_of_le hk hc.below.size) (by simp)).trans (hc.below.block k hk)⟩
  · rw [hw.block g (lt _ _ hrow) (by simp)]; exact hrow

theorem Cur.set2 {w0 w : World} {g : Nat} {a : Option Addr} {n cap : Nat} (hc : Cur w0 w g a n cap) (v : Int) : Cur w0 (w.setCell ⟨g, 2, none⟩ (.int .i64 v)) g a n cap := by
  obtain ⟨i, h, hi, hrow⟩ := hc.row
  exact ⟨hc.new, hc.below.setCell hc.new _, i, v, hi, heap_setCell_same w g 2 _ _ _ hrow⟩

theorem Cur.set1 {w0 w : World} {g : Nat} {a : Option Addr} {n cap : Nat} (hc : Cur w0 w g a n cap) (j : Nat) (hj : j ≤ n) : Cur w0 (w.setCell ⟨g, 1, none⟩ (.int .i64 (j : Int))) g a n cap := by
  obtain ⟨i, h, hi, hrow⟩ := hc.row
  exact ⟨hc.new, hc.below.setCell hc.new _, j, h, hj, heap_setCell_same w g 1 _ _ _ hrow⟩

theorem Cur.dN {w0 w : World} {g : Nat} {a : Option Addr} {n cap : Nat} (hc : Cur w0 w g a n cap) (m : Nat) : Cur w0 (w.drewN m) g a n cap := hc.grown (grown_dN w m none)

set_option maxHeartbeats 1600000 in
theorem l1Byte_any {w0 : World} {g : Nat} {a : Option Addr} {n cap : Nat} {zs : List Int} (hcd : Code w0 a n zs) (w : World) (hc : Cur w0 w g a n cap) :
    Calls Try.prog 54 #[.pointer (some ⟨g, 0, none⟩)] w fun e w' => ∃ x : Int, e = .returned (.int .i64 x) ∧ 0 ≤ x ∧ x ≤ 255 ∧ Cur w0 w' g a n cap ∧ w.grownBy w' (some g) := by
  obtain ⟨i, h, hi, hrow⟩ := hc.row
  have c2 := cell_of_row w g 2 _ _ _ hrow
  have f2 := frozen_of_row w g 2 _ _ hrow
  simp at c2
  have R : ∀ v, (w.setCell ⟨g, 2, none⟩ v).heap[g]? = some (.cells #[.slice a n cap, .int .i64 (i : Int), v] 75 (0, 0)) := fun v => heap_setCell_same w g 2 _ _ v hrow
  have K0 : ∀ v, (w.setCell ⟨g, 2, none⟩ v).cell? ⟨g, 0, none⟩ = some (.slice a n cap) := fun v => cell_of_row _ _ _ _ _ _ (R v)
  have K1 : ∀ v, (w.setCell ⟨g, 2, none⟩ v).cell? ⟨g, 1, none⟩ = some (.int .i64 (i : Int)) := fun v => cell_of_row _ _ _ _ _ _ (R v)
  have K2 : ∀ v, (w.setCell ⟨g, 2, none⟩ v).cell? ⟨g, 2, none⟩ = some v := fun v => cell_of_row _ _ _ _ _ _ (R v)
  have F1 : ∀ v, (w.setCell ⟨g, 2, none⟩ v).frozen? ⟨g, 1, none⟩ = false := fun v => frozen_of_row _ _ _ _ _ (R v)
  have HR : Hid (∀ v, (w.setCell ⟨g, 2, none⟩ v).heap[g]? = some (.cells #[.slice a n cap, .int .i64 (i : Int), v] 75 (0, 0))) := R
  have HC : Hid (Cur w0 w g a n cap) := hc
  have HD : Hid (Code w0 a n zs) := hcd
  clear R hrow hc hcd
  by_cases hlt : i < n
  · obtain ⟨b, off, rfl, hb, hcl⟩ := HD.out.sl i (by rw [HD.out.len]; exact hlt)
    have KC : ∀ v, (w.setCell ⟨g, 2, none⟩ v).cell? ⟨b, off + i, none⟩ = some (.int .u8 (zs.getD i 0)) := fun v => ((HC.out.below.setCell HC.out.new v).cell (by exact hb)).trans hcl
    obtain ⟨y, hy⟩ : ∃ y, y = zs.getD i 0 := ⟨_, rfl⟩
    rw [← hy] at KC
    clear hcl hy
    go_enter Try.func54, Try.ntmps54
    go_wp2_with fail
    go_quiet (fail)
    go_wp2_with fail
    go_quiet (fail)
    go_wp2_with fail
    go_quiet (fail)
    go_wp2_with fail
    have hi1 : wrap64 ((i : Int) + 1) = ((i + 1 : Nat) : Int) := by
      have := HD.out.few
      unfold wrap64; omega
    rw [hi1]
    go_ret
    refine ⟨_, rfl, (and_i64 _ 255 (by omega)).1, (and_i64 _ 255 (by omega)).2, ?_, ?_⟩
    · exact ((HC.out.set2 _).dN _).set1 _ (by omega)
    · exact grown_trans (grown_trans (grown_set _ _ _ _) (grown_dN _ _ _)) (grown_set _ _ _ _)
  · go_enter Try.func54, Try.ntmps54
    go_wp2_with fail
    go_quiet (fail)
    go_wp2_with fail
    go_quiet (fail)
    go_wp2_with fail
    go_ret
    refine ⟨_, rfl, (and_i64 _ 255 (by omega)).1, (and_i64 _ 255 (by omega)).2, ?_, ?_⟩
    · exact ((HC.out.set2 _).dN _).dN _
    · exact grown_trans (grown_trans (grown_set _ _ _ _) (grown_dN _ _ _)) (grown_dN _ _ _)

def Cs (w0 : World) (g : Nat) (a : Option Addr) (n cap : Nat) (w w' : World) : Prop := Cur w0 w' g a n cap ∧ w.grownBy w' (some g)

theorem Cs.trans {w0 w1 w2 w3 : World} {g : Nat} {a : Option Addr} {n cap : Nat} (h : Cs w0 g a n cap w1 w2) (k : Cs w0 g a n cap w2 w3) : Cs w0 g a n cap w1 w3 := ⟨k.1, grown_trans h.2 k.2⟩

theorem Cs.refl {w0 w : World} {g : Nat} {a : Option Addr} {n cap : Nat} (h : Cur w0 w g a n cap) : Cs w0 g a n cap w w := ⟨h, grown_refl _ _⟩

theorem l1Byte_c {w0 : World} {g : Nat} {a : Option Addr} {n cap : Nat} {zs : List Int} (hcd : Code w0 a n zs) (w : World) (hc : Cur w0 w g a n cap) :
    Calls Try.prog 54 #[.pointer (some ⟨g, 0, none⟩)] w fun e w' => ∃ x : Int, e = .returned (.int .i64 x) ∧ (0 ≤ x ∧ x ≤ 255) ∧ Hid (Cs w0 g a n cap w w') :=
  (l1Byte_any hcd w hc).mono fun e w' ⟨x, h1, h2, h3, h4, h5⟩ => ⟨x, h1, ⟨h2, h3⟩, ⟨h4, h5⟩⟩

set_option maxHeartbeats 1600000 in
theorem l1Below_c {w0 : World} {g : Nat} {a : Option Addr} {n cap : Nat} {zs : List Int} (hcd : Code w0 a n zs) (m : Int) (hm : 0 < m) (w : World) (hc : Cur w0 w g a n cap) :
    Calls Try.prog 50 #[.pointer (some ⟨g, 0, none⟩), .int .i64 m] w fun e w' => ∃ x : Int, e = .returned (.int .i64 x) ∧ (0 ≤ x ∧ x < m) ∧ Hid (Cs w0 g a n cap w w') := by
  have HD : Hid (Code w0 a n zs) := hcd
  have HC : Hid (Cur w0 w g a n cap) := hc
  have d1 : decide (m ≤ 0) = false := by simp; omega
  have dz : ¬ m = 0 := by omega
  clear hcd hc
  by_cases hle : m ≤ 256
  · have d2 : decide (m ≤ 256) = true := by simpa using hle
    go_enter Try.func50, Try.ntmps50
    go_wp2_with fail
    refine (l1Byte_c HD.out _ HC.out).mono ?_
    rintro e w1 ⟨x, rfl, ⟨hx0, hx1⟩, hs⟩
    go_wp2_with fail
    go_ret
    refine ⟨_, rfl, ?_, hs⟩
    exact ⟨Int.emod_nonneg _ dz, Int.emod_lt_of_pos _ hm⟩
  · have d2 : decide (m ≤ 256) = false := by simpa using hle
    go_enter Try.func50, Try.ntmps50
    go_wp2_with fail
    refine (l1Byte_c HD.out _ HC.out).mono ?_
    rintro e w1 ⟨x, rfl, ⟨hx0, hx1⟩, hs1⟩
    go_wp2_with fail
    refine (l1Byte_c HD.out _ hs1.out.1).mono ?_
    rintro e w2 ⟨y, rfl, ⟨hy0, hy1⟩, hs2⟩
    go_wp2_with fail
    refine (l1Byte_c HD.out _ hs2.out.1).mono ?_
    rintro e w3 ⟨z, rfl, ⟨hz0, hz1⟩, hs3⟩
    go_wp2_with fail
    refine (l1Byte_c HD.out _ hs3.out.1).mono ?_
    rintro e w4 ⟨u, rfl, ⟨hu0, hu1⟩, hs4⟩
    go_wp2_with fail
    go_ret
    refine ⟨_, rfl, ?_, hs1.out.trans (hs2.out.trans (hs3.out.trans hs4.out))⟩
    exact ⟨Int.emod_nonneg _ dz, Int.emod_lt_of_pos _ hm⟩

theorem l1Once_c {w0 : World} {g : Nat} {a : Option Addr} {n cap : Nat} {zs : List Int} (hcd : Code w0 a n zs) (m : Int) (hm : 0 < m) (w : World) (hc : Cur w0 w g a n cap) :
    Calls Try.prog 49 #[.pointer (some ⟨g, 0, none⟩), .int .i64 m] w fun e w' => ∃ c : Bool, e = .returned (.bool c) ∧ Hid (Cs w0 g a n cap w w') := by
  have HD : Hid (Code w0 a n zs) := hcd
  have HC : Hid (Cur w0 w g a n cap) := hc
  clear hcd hc
  go_enter Try.func49, Try.ntmps49
  go_wp2_with fail
  refine (l1Below_c HD.out m hm _ HC.out).mono ?_
  rintro e w1 ⟨x, rfl, ⟨hx0, hx1⟩, hs⟩
  go_wp2_with fail
  go_ret
  exact ⟨_, rfl, hs⟩

set_option maxHeartbeats 1600000 in
theorem l1New_c {a : Option Addr} {n : Nat} (cap : Nat) {zs : List Int} (w : World) (hcd : Code w a n zs) :
    Calls Try.prog 27 #[.slice a n cap] w fun e w' => ∃ g, e = .returned (.pointer (some ⟨g, 0, none⟩)) ∧ Hid (Cur w w' g a n cap) := by
  have HD : Hid (Code w a n zs) := hcd
  have hn := hcd.few
  clear hcd
  go_enter Try.func27, Try.ntmps27
  go_wp2_with fail
  go_loopw [3, 4] (fun h i wr => ∃ (k : Nat) (x : Int), k ≤ n ∧ h = .int .i64 x ∧ i = .int .i64 k ∧ Hid (Below w.heap.size w wr))
    (fun _ i _ => n - (intOf i).toNat)
  case atStart => exact ⟨0, _, Nat.zero_le _, rfl, rfl, Below.refl _ _⟩
  case round =>
    obtain ⟨k, x, hk, rfl, rfl, hbel⟩ := hrel
    by_cases hlt : k < n
    · obtain ⟨b, off, rfl, hb, hcl⟩ := HD.out.sl k (by rw [HD.out.len]; exact hlt)
      have KC : wr.cell? ⟨b, off + k, none⟩ = some (.int .u8 (zs.getD k 0)) := (hbel.out.cell (by exact hb)).trans hcl
      clear hcl
      go_wp2_with fail
      go_roundw
      case rel => exact ⟨k + 1, _, by omega, rfl, by go_num, hbel⟩
      case measure => simp [intOf]; omega
    · go_wp2_with fail
      go_ret
      refine ⟨_, rfl, ?_⟩
      exact ⟨hbel.out.size, hbel.out.alloc hbel.out.size _, 0, x, Nat.zero_le _, heap_alloc_new _ _⟩

theorem Cs.keep {w0 w w' : World} {g : Nat} {a : Option Addr} {n cap : Nat} (h : Cs w0 g a n cap w w') {k : Nat} {o : Obj} (hk : w.heap[k]? = some o) (hne : k ≠ g) : w'.heap[k]? = some o := by
  by_cases hl : k < w.heap.size
  · rw [h.2.block k hl (by simp [hne])]; exact hk
  · rw [Array.getElem?_eq_none (by omega)] at hk; cases hk

theorem Cur.lt {w0 w : World} {g : Nat} {a : Option Addr} {n cap : Nat} (h : Cur w0 w g a n cap) : g < w.heap.size := by
  obtain ⟨i, x, _, hrow⟩ := h.row
  by_cases hl : g < w.heap.size
  · exact hl
  · rw [Array.getElem?_eq_none (by omega)] at hrow; cases hrow

set_option maxHeartbeats 3200000 in
theorem l1DrawWord_c {w0 : World} {g : Nat} {a : Option Addr} {n cap : Nat} {zs : List Int} (hcd : Code w0 a n zs) (w : World) (hc : Cur w0 w g a n cap) :
    Calls Try.prog 30 #[.pointer (some ⟨g, 0, none⟩)] w fun e w' => ∃ x : Int, e = .returned (.int .u64 x) ∧ (0 ≤ x ∧ x < 18446744073709551616) ∧ Hid (Cs w0 g a n cap w w') := by
  have HD : Hid (Code w0 a n zs) := hcd
  have HC : Hid (Cur w0 w g a n cap) := hc
  clear hcd hc
  go_enter Try.func30, Try.ntmps30
  go_wp2_with fail
  go_loopw [3, 4] (fun h i wr => ∃ (k : Nat) (x : Int), k ≤ 8 ∧ h = .int .u64 x ∧ i = .int .i64 k ∧ (0 ≤ x ∧ x < 18446744073709551616) ∧ Hid (Cs w0 g a n cap w wr))
    (fun _ i _ => 8 - (intOf i).toNat)
  case atStart => exact ⟨0, 0, Nat.zero_le _, rfl, rfl, by omega, Cs.refl HC.out⟩
  case round =>
    obtain ⟨k, x, hk, rfl, rfl, ⟨hx0, hx1⟩, hs⟩ := hrel
    by_cases hlt : k < 8
    · go_wp2_with fail
      refine (l1Byte_c HD.out _ hs.out.1).mono ?_
      rintro e w1 ⟨y, rfl, ⟨hy0, hy1⟩, hs1⟩
      obtain ⟨z, hz⟩ : ∃ z, z = IntKind.u64.wrap (IntKind.u64.wrap (x * 256) + y) := ⟨_, rfl⟩
      go_wp2_with fail
      go_roundw
      case rel =>
        refine ⟨k + 1, _, by omega, rfl, by go_num, ?_, hs.out.trans hs1.out⟩
        rw [IntKind.wrap_u64]; omega
      case measure => simp [intOf]; omega
    · go_wp2_with fail
      refine (l1Below_c HD.out 5 (by omega) _ hs.out.1).mono ?_
      rintro e w1 ⟨y, rfl, ⟨hy0, hy1⟩, hs1⟩
      have HS1 : Hid (Cs w0 g a n cap w w1) := hs.out.trans hs1.out
      have hm : 0 ≤ x % 100 ∧ x % 100 < 18446744073709551616 := by omega
      have hsh : 0 ≤ IntKind.u64.wrap (wrap64 x / 1099511627776) ∧ IntKind.u64.wrap (wrap64 x / 1099511627776) < 18446744073709551616 := by rw [IntKind.wrap_u64]; omega
      obtain ⟨k, rfl⟩ := Int.eq_ofNat_of_zero_le hy0
      match k, hy1 with
      | 0, _ =>
        go_wp2_with fail
        have HA : Hid (Cur w0 (w1.alloc (.cells #[.int .u64 0, .int .u64 1, .int .u64 18446744073709551615, .int .u64 9223372036854775808, .int .u64 9223372036854775807, .int .u64 2147483648, .int .u64 2147483647, .int .u64 18446744071562067968, .int .u64 4294967295, .int .u64 64] 27)) g a n cap) := hs1.out.1.grown (grown_alloc _ _ _)
        refine (l1Below_c HD.out 10 (by omega) _ HA.out).mono ?_
        rintro e w2 ⟨y, rfl, ⟨hx0, hx1⟩, hs2⟩
        obtain ⟨k, rfl⟩ := Int.eq_ofNat_of_zero_le hx0
        have hrow : w2.heap[w1.heap.size]? = some (.cells #[.int .u64 0, .int .u64 1, .int .u64 18446744073709551615, .int .u64 9223372036854775808, .int .u64 9223372036854775807, .int .u64 2147483648, .int .u64 2147483647, .int .u64 18446744071562067968, .int .u64 4294967295, .int .u64 64] 27 (0, 0)) := hs2.out.keep (heap_alloc_new _ _) (Nat.ne_of_gt hs1.out.1.lt)
        obtain ⟨v, hv, hcell⟩ : ∃ v : Int, (0 ≤ v ∧ v < 18446744073709551616) ∧ w2.cell? ⟨w1.heap.size, k, none⟩ = some (.int .u64 v) := by
          have ec := cell_of_row w2 w1.heap.size k _ _ _ hrow
          match k, hx1 with
          | 0, _ => exact ⟨_, by omega, ec⟩
          | 1, _ => exact ⟨_, by omega, ec⟩
          | 2, _ => exact ⟨_, by omega, ec⟩
          | 3, _ => exact ⟨_, by omega, ec⟩
          | 4, _ => exact ⟨_, by omega, ec⟩
          | 5, _ => exact ⟨_, by omega, ec⟩
          | 6, _ => exact ⟨_, by omega, ec⟩
          | 7, _ => exact ⟨_, by omega, ec⟩
          | 8, _ => exact ⟨_, by omega, ec⟩
          | 9, _ => exact ⟨_, by omega, ec⟩
          | k + 10, h => exact absurd h (by omega)
        have HV : Hid (0 ≤ v ∧ v < 18446744073709551616) := hv
        have HS : Hid (Cs w0 g a n cap w w2) := ⟨hs2.out.1, grown_trans HS1.out.2 (grown_trans (grown_alloc _ _ _) hs2.out.2)⟩
        clear hrow hv hs hs1 hs2 HA HC HS1
        go_wp2_with fail
        go_ret
        exact ⟨_, rfl, HV.out, HS⟩
      | 1, _ =>
        go_wp2_with fail
        go_ret
        exact ⟨_, rfl, hm, HS1⟩
      | 2, _ =>
        go_wp2_with fail
        go_ret
        exact ⟨_, rfl, hsh, HS1⟩
      | 3, _ =>
        go_wp2_with fail
        go_ret
        exact ⟨_, rfl, ⟨hx0, hx1⟩, HS1⟩
      | 4, _ =>
        go_wp2_with fail
        go_ret
        exact ⟨_, rfl, ⟨hx0, hx1⟩, HS1⟩
      | k + 5, h => exact absurd h (by omega)

theorem map_set_u64 (zs : List Int) (i : Nat) (y : Int) : (zs.map (Value.int .u64)).set i (.int .u64 y) = (zs.set i y).map (Value.int .u64) := by
  rw [List.map_set]

def mst (x : Int) : Int := if (bits .and .u64 (bits .and .u64 x 924074 / 2048) 3 == 2) = true then bits .andNot .u64 (bits .and .u64 x 924074) 6144 else bits .and .u64 x 924074

end Go.Proofs.Ytdllhjehokpefaa

namespace Go.Proofs.Ytdllhjehokpefaa
open Go.RowKit
set_option linter.unusedVariables false

end Go.Proofs.Ytdllhjehokpefaa

namespace Go.Proofs.Ytdllhjehokpefaa
set_option linter.unusedVariables false

def Fm.at : Fm → Nat
  | .r => 25 | .w => 25 | .h => 26 | .a => 27 | .x => 20 | .u => 0 | .j => 0 | .i => 0 | .s => 0 | .b => 0 | .c => 0

structure Ins where
  op : Int
  rd : Int
  a : Int
  b : Int
  imm : Int
deriving DecidableEq

def Ins.val (i : Ins) : Value := .agg #[.int .i64 i.op, .int .i64 i.rd, .int .i64 i.a, .int .i64 i.b, .int .i64 i.imm]

def fld (x : Int) (k n : Nat) : Int := x / 2 ^ k % 2 ^ n

theorem pow_le (m n : Nat) (h : m ≤ n) : (2 : Int) ^ m ≤ 2 ^ n := by
  obtain ⟨d, rfl⟩ := Nat.exists_eq_add_of_le h
  rw [Int.pow_add]
  have h1 : (0 : Int) < 2 ^ m := Int.pow_pos (by omega)
  have h2 : (0 : Int) < 2 ^ d := Int.pow_pos (by omega)
  have h3 : (2 : Int) ^ m * 1 ≤ 2 ^ m * 2 ^ d := Int.mul_le_mul_of_nonneg_left (by omega) (by omega)
  omega

theorem bitsAt_eq (x : Int) (k n : Nat) (h0 : 0 ≤ x) (h1 : x < 18446744073709551616) (hn : n < 64) :
    bits .and .u64 (x / 2 ^ k) (IntKind.u64.wrap (IntKind.u64.wrap (2 ^ n) - 1)) = fld x k n := by
  have hp : (0 : Int) < 2 ^ n := Int.pow_pos (by omega)
  have hk : (0 : Int) < 2 ^ k := Int.pow_pos (by omega)
  have hb : (2 : Int) ^ n ≤ 2 ^ 63 := pow_le n 63 (by omega)
  have e63 : (2 : Int) ^ 63 = 9223372036854775808 := by decide
  have e1 : IntKind.u64.wrap (2 ^ n) = 2 ^ n := by rw [IntKind.wrap_u64]; omega
  have e2 : IntKind.u64.wrap (2 ^ n - 1) = 2 ^ n - 1 := by rw [IntKind.wrap_u64]; omega
  have d0 : 0 ≤ x / 2 ^ k := Int.ediv_nonneg h0 (by omega)
  have d1 : x / 2 ^ k ≤ x := Int.ediv_le_self _ h0
  rw [e1, e2, u64_and _ _ d0 (by omega) (by omega) (by omega)]
  have e3 : (2 ^ n - 1 : Int).toNat = 2 ^ n - 1 := by
    have : (2 : Int) ^ n = ((2 ^ n : Nat) : Int) := by simp
    rw [this]; omega
  rw [e3, Nat.and_two_pow_sub_one_eq_mod]
  unfold fld
  have e4 : ((x / 2 ^ k).toNat : Int) = x / 2 ^ k := Int.toNat_of_nonneg d0
  rw [Int.natCast_emod, e4]
  simp

theorem or_field (a x k m : Nat) (h : a / 2 ^ k % 2 ^ m = 0) (hx : x < 2 ^ m) : a ||| x * 2 ^ k = a + x * 2 ^ k := by
  have hk : 0 < 2 ^ k := Nat.two_pow_pos k
  have hm : 0 < 2 ^ m := Nat.two_pow_pos m
  have e1 : a = a / 2 ^ k / 2 ^ m * 2 ^ (k + m) + a % 2 ^ k := by
    have h1 := Nat.div_add_mod a (2 ^ k)
    have h2 := Nat.div_add_mod (a / 2 ^ k) (2 ^ m)
    rw [h, Nat.add_zero] at h2
    rw [← h2] at h1
    rw [Nat.pow_add, ← Nat.mul_assoc, Nat.mul_right_comm, Nat.mul_comm _ (2 ^ k), Nat.mul_comm _ (2 ^ m)] 
    omega
  have hlo : a % 2 ^ k < 2 ^ k := Nat.mod_lt _ hk
  have j1 : a / 2 ^ k / 2 ^ m * 2 ^ (k + m) ||| a % 2 ^ k = a / 2 ^ k / 2 ^ m * 2 ^ (k + m) + a % 2 ^ k := by
    refine nat_join k _ _ ?_ hlo
    rw [Nat.pow_add, Nat.mul_comm (2 ^ k), ← Nat.mul_assoc]; exact Nat.mul_mod_left _ _
  have j2 : x * 2 ^ k ||| a % 2 ^ k = x * 2 ^ k + a % 2 ^ k := nat_join k _ _ (Nat.mul_mod_left _ _) hlo
  have hsm : x * 2 ^ k + a % 2 ^ k < 2 ^ (k + m) := by
    rw [Nat.pow_add, Nat.mul_comm (2 ^ k)]
    have : (x + 1) * 2 ^ k ≤ 2 ^ m * 2 ^ k := Nat.mul_le_mul_right _ hx
    rw [Nat.add_mul] at this
    omega
  have j3 : a / 2 ^ k / 2 ^ m * 2 ^ (k + m) ||| (x * 2 ^ k + a % 2 ^ k) = a / 2 ^ k / 2 ^ m * 2 ^ (k + m) + (x * 2 ^ k + a % 2 ^ k) := nat_join (k + m) _ _ (Nat.mul_mod_left _ _) hsm
  have e2 : a ||| x * 2 ^ k = a / 2 ^ k / 2 ^ m * 2 ^ (k + m) ||| (x * 2 ^ k ||| a % 2 ^ k) := by
    conv => lhs; rw [e1, ← j1]
    rw [Nat.or_assoc, Nat.or_comm (a % 2 ^ k)]
  rw [e2, j2, j3]
  omega

def matchP (i : Nat) (f : Fm) (o z m x : Int) : Prop := x % 128 = o ∧ (0 ≤ z → x / 4096 % 8 = z) ∧
  (match f with
  | .r => x / 33554432 = m ∧ (i = 97 → x / 128 % 32 = 0)
  | .h => x / 67108864 = m
  | .w => x / 33554432 = m
  | .a => x / 134217728 = m ∧ (i = 62 ∨ i = 73 → x / 1048576 % 32 = 0)
  | .x => x = m * 1048576 + o
  | _ => True)

instance (i : Nat) (f : Fm) (o z m x : Int) : Decidable (matchP i f o z m x) := by
  unfold matchP; cases f <;> infer_instance

theorem and_low (x : Int) (k : Nat) (h0 : 0 ≤ x) (h1 : x < 18446744073709551616) (hk : k < 64) : bits .and .u64 x (2 ^ k - 1) = x % 2 ^ k := by
  have h := bitsAt_eq x 0 k h0 h1 hk
  have hp : (0 : Int) < 2 ^ k := Int.pow_pos (by omega)
  have hb : (2 : Int) ^ k ≤ 2 ^ 63 := pow_le k 63 (by omega)
  have e63 : (2 : Int) ^ 63 = 9223372036854775808 := by decide
  have e1 : IntKind.u64.wrap (2 ^ k) = 2 ^ k := by rw [IntKind.wrap_u64]; omega
  have e2 : IntKind.u64.wrap (2 ^ k - 1) = 2 ^ k - 1 := by rw [IntKind.wrap_u64]; omega
  rw [e1, e2] at h
  simpa [fld] using h

theorem or64 (a x : Int) (k m : Nat) (h0 : 0 ≤ a) (h1 : a < 18446744073709551616) (hx : 0 ≤ x) (hx2 : x < 2 ^ m) (hkm : k + m ≤ 64) (h : a / 2 ^ k % 2 ^ m = 0) : bits .or .u64 a (x * 2 ^ k) = a + x * 2 ^ k := by
  obtain ⟨A, rfl⟩ := Int.eq_ofNat_of_zero_le h0
  obtain ⟨X, rfl⟩ := Int.eq_ofNat_of_zero_le hx
  have hX : X < 2 ^ m := by
    have : ((X : Nat) : Int) < ((2 ^ m : Nat) : Int) := by simpa using hx2
    omega
  have hA : A / 2 ^ k % 2 ^ m = 0 := by
    have : (((A / 2 ^ k % 2 ^ m : Nat)) : Int) = 0 := by simpa using h
    omega
  have e : ((X : Int) * 2 ^ k) = ((X * 2 ^ k : Nat) : Int) := by simp
  have hb : X * 2 ^ k < 18446744073709551616 := by
    have h2 : X * 2 ^ k < 2 ^ m * 2 ^ k := Nat.mul_lt_mul_of_pos_right hX (Nat.two_pow_pos k)
    rw [← Nat.pow_add] at h2
    have h3 : 2 ^ (m + k) ≤ 2 ^ 64 := Nat.pow_le_pow_right (by omega) (by omega)
    have e64 : 2 ^ 64 = 18446744073709551616 := by decide
    omega
  rw [e, u64_or_nat A (X * 2 ^ k) (by omega) hb, or_field A X k m hA hX]
  simp

end Go.Proofs.Ytdllhjehokpefaa

namespace Go.Proofs.Ytdllhjehokpefaa
open Go.RowKit
set_option linter.unusedVariables false

def U (x : Int) : Prop := 0 ≤ x ∧ x < 18446744073709551616

theorem U_wrap (x : Int) : U (IntKind.u64.wrap x) := by
  rw [IntKind.wrap_u64]; exact ⟨Int.emod_nonneg _ (by omega), Int.emod_lt_of_pos _ (by omega)⟩

theorem U_bits (o : BinOp) (x y : Int) : U (bits o .u64 x y) := U_wrap _

theorem Cs.alloc {w0 : World} {g : Nat} {a : Option Addr} {n cap : Nat} {w : World} (h : Cur w0 w g a n cap) (o : Obj) : Cs w0 g a n cap w (w.alloc o) := ⟨h.grown (grown_alloc _ _ _), grown_alloc _ _ _⟩

theorem few_words {w : World} {b k : Nat} (cs : List Int) (t : TypeId) (hr : w.heap[b]? = some (.cells (cs.map (Value.int .u64)).toArray t (0, 0))) (hu : ∀ x ∈ cs, U x) (hk : k < cs.length) : ∃ v, U v ∧ w.cell? ⟨b, k, none⟩ = some (.int .u64 v) := by
  refine ⟨cs[k], hu _ (List.getElem_mem hk), ?_⟩
  rw [cell_of_row _ _ _ _ _ _ hr]
  simp [List.getElem?_eq_getElem hk]

theorem few_ints {w : World} {b k : Nat} (cs : List Int) (t : TypeId) (hr : w.heap[b]? = some (.cells (cs.map (Value.int .i64)).toArray t (0, 0))) (hu : ∀ x ∈ cs, (Lit.int .i64 x).wf = true) (hk : k < cs.length) : ∃ v, (Lit.int .i64 v).wf = true ∧ w.cell? ⟨b, k, none⟩ = some (.int .i64 v) := by
  refine ⟨cs[k], hu _ (List.getElem_mem hk), ?_⟩
  rw [cell_of_row _ _ _ _ _ _ hr]
  simp [List.getElem?_eq_getElem hk]

theorem Cs.of_below {w0 : World} {g : Nat} {a : Option Addr} {n cap : Nat} {w wx : World} (hc : Cur w0 w g a n cap) (hb : Below w.heap.size w wx) : Cs w0 g a n cap w wx := by
  have hg := hc.lt
  obtain ⟨i, x, hi, hrow⟩ := hc.row
  exact ⟨⟨hc.new, below_trans hc.below hb, i, x, hi, by rw [hb.block g hg]; exact hrow⟩, ⟨hb.os, hb.tape, hb.output, hb.size, fun k hk _ => hb.block k hk⟩⟩

end Go.Proofs.Ytdllhjehokpefaa
