/- Own lemmas. -/
import Derived.Test.YtilhcfhcdplicaaGreatDoorK01
import Derived.Test.YtilhcfhcdplicaaGreatDoorK05
import Derived.Test.YtilhcfhcdplicaaGreatDoorK06
import Derived.Test.YtilhcfhcdplicaaGreatDoorProg
import Derived.WalkKit
import Derived.Great.BuildSlice
import Derived.Laws.BitsAllLaws
import Derived.BigQuiet
namespace Go.Proofs.YtilhcfhcdplicaaGreatDoor
set_option linter.unusedVariables false

inductive Fm where | r | i | h | w | s | b | u | j | a | c | x
deriving DecidableEq

def Fm.str : Fm → ByteArray
  | .r => ⟨#[82]⟩ | .i => ⟨#[73]⟩ | .h => ⟨#[72]⟩ | .w => ⟨#[87]⟩ | .s => ⟨#[83]⟩ | .b => ⟨#[66]⟩ | .u => ⟨#[85]⟩ | .j => ⟨#[74]⟩ | .a => ⟨#[65]⟩ | .c => ⟨#[67]⟩ | .x => ⟨#[88]⟩

structure Row where
  name : ByteArray
  fm : Fm
  op : Int
  f3 : Int
  more : Int

def rows : List Row := [
  ⟨⟨#[108, 117, 105]⟩, .u, 55, (-1), 0⟩,
  ⟨⟨#[97, 117, 105, 112, 99]⟩, .u, 23, (-1), 0⟩,
  ⟨⟨#[106, 97, 108]⟩, .j, 111, (-1), 0⟩,
  ⟨⟨#[106, 97, 108, 114]⟩, .i, 103, 0, 0⟩,
  ⟨⟨#[98, 101, 113]⟩, .b, 99, 0, 0⟩,
  ⟨⟨#[98, 110, 101]⟩, .b, 99, 1, 0⟩,
  ⟨⟨#[98, 108, 116]⟩, .b, 99, 4, 0⟩,
  ⟨⟨#[98, 103, 101]⟩, .b, 99, 5, 0⟩,
  ⟨⟨#[98, 108, 116, 117]⟩, .b, 99, 6, 0⟩,
  ⟨⟨#[98, 103, 101, 117]⟩, .b, 99, 7, 0⟩,
  ⟨⟨#[108, 98]⟩, .i, 3, 0, 0⟩,
  ⟨⟨#[108, 104]⟩, .i, 3, 1, 0⟩,
  ⟨⟨#[108, 119]⟩, .i, 3, 2, 0⟩,
  ⟨⟨#[108, 100]⟩, .i, 3, 3, 0⟩,
  ⟨⟨#[108, 98, 117]⟩, .i, 3, 4, 0⟩,
  ⟨⟨#[108, 104, 117]⟩, .i, 3, 5, 0⟩,
  ⟨⟨#[108, 119, 117]⟩, .i, 3, 6, 0⟩,
  ⟨⟨#[115, 98]⟩, .s, 35, 0, 0⟩,
  ⟨⟨#[115, 104]⟩, .s, 35, 1, 0⟩,
  ⟨⟨#[115, 119]⟩, .s, 35, 2, 0⟩,
  ⟨⟨#[115, 100]⟩, .s, 35, 3, 0⟩,
  ⟨⟨#[97, 100, 100, 105]⟩, .i, 19, 0, 0⟩,
  ⟨⟨#[115, 108, 116, 105]⟩, .i, 19, 2, 0⟩,
  ⟨⟨#[115, 108, 116, 105, 117]⟩, .i, 19, 3, 0⟩,
  ⟨⟨#[120, 111, 114, 105]⟩, .i, 19, 4, 0⟩,
  ⟨⟨#[111, 114, 105]⟩, .i, 19, 6, 0⟩,
  ⟨⟨#[97, 110, 100, 105]⟩, .i, 19, 7, 0⟩,
  ⟨⟨#[115, 108, 108, 105]⟩, .h, 19, 1, 0⟩,
  ⟨⟨#[115, 114, 108, 105]⟩, .h, 19, 5, 0⟩,
  ⟨⟨#[115, 114, 97, 105]⟩, .h, 19, 5, 16⟩,
  ⟨⟨#[97, 100, 100, 105, 119]⟩, .i, 27, 0, 0⟩,
  ⟨⟨#[115, 108, 108, 105, 119]⟩, .w, 27, 1, 0⟩,
  ⟨⟨#[115, 114, 108, 105, 119]⟩, .w, 27, 5, 0⟩,
  ⟨⟨#[115, 114, 97, 105, 119]⟩, .w, 27, 5, 32⟩,
  ⟨⟨#[97, 100, 100]⟩, .r, 51, 0, 0⟩,
  ⟨⟨#[115, 117, 98]⟩, .r, 51, 0, 32⟩,
  ⟨⟨#[115, 108, 108]⟩, .r, 51, 1, 0⟩,
  ⟨⟨#[115, 108, 116]⟩, .r, 51, 2, 0⟩,
  ⟨⟨#[115, 108, 116, 117]⟩, .r, 51, 3, 0⟩,
  ⟨⟨#[120, 111, 114]⟩, .r, 51, 4, 0⟩,
  ⟨⟨#[115, 114, 108]⟩, .r, 51, 5, 0⟩,
  ⟨⟨#[115, 114, 97]⟩, .r, 51, 5, 32⟩,
  ⟨⟨#[111, 114]⟩, .r, 51, 6, 0⟩,
  ⟨⟨#[97, 110, 100]⟩, .r, 51, 7, 0⟩,
  ⟨⟨#[97, 100, 100, 119]⟩, .r, 59, 0, 0⟩,
  ⟨⟨#[115, 117, 98, 119]⟩, .r, 59, 0, 32⟩,
  ⟨⟨#[115, 108, 108, 119]⟩, .r, 59, 1, 0⟩,
  ⟨⟨#[115, 114, 108, 119]⟩, .r, 59, 5, 0⟩,
  ⟨⟨#[115, 114, 97, 119]⟩, .r, 59, 5, 32⟩,
  ⟨⟨#[109, 117, 108]⟩, .r, 51, 0, 1⟩,
  ⟨⟨#[109, 117, 108, 104]⟩, .r, 51, 1, 1⟩,
  ⟨⟨#[109, 117, 108, 104, 115, 117]⟩, .r, 51, 2, 1⟩,
  ⟨⟨#[109, 117, 108, 104, 117]⟩, .r, 51, 3, 1⟩,
  ⟨⟨#[100, 105, 118]⟩, .r, 51, 4, 1⟩,
  ⟨⟨#[100, 105, 118, 117]⟩, .r, 51, 5, 1⟩,
  ⟨⟨#[114, 101, 109]⟩, .r, 51, 6, 1⟩,
  ⟨⟨#[114, 101, 109, 117]⟩, .r, 51, 7, 1⟩,
  ⟨⟨#[109, 117, 108, 119]⟩, .r, 59, 0, 1⟩,
  ⟨⟨#[100, 105, 118, 119]⟩, .r, 59, 4, 1⟩,
  ⟨⟨#[100, 105, 118, 117, 119]⟩, .r, 59, 5, 1⟩,
  ⟨⟨#[114, 101, 109, 119]⟩, .r, 59, 6, 1⟩,
  ⟨⟨#[114, 101, 109, 117, 119]⟩, .r, 59, 7, 1⟩,
  ⟨⟨#[108, 114, 46, 119]⟩, .a, 47, 2, 2⟩,
  ⟨⟨#[115, 99, 46, 119]⟩, .a, 47, 2, 3⟩,
  ⟨⟨#[97, 109, 111, 115, 119, 97, 112, 46, 119]⟩, .a, 47, 2, 1⟩,
  ⟨⟨#[97, 109, 111, 97, 100, 100, 46, 119]⟩, .a, 47, 2, 0⟩,
  ⟨⟨#[97, 109, 111, 120, 111, 114, 46, 119]⟩, .a, 47, 2, 4⟩,
  ⟨⟨#[97, 109, 111, 97, 110, 100, 46, 119]⟩, .a, 47, 2, 12⟩,
  ⟨⟨#[97, 109, 111, 111, 114, 46, 119]⟩, .a, 47, 2, 8⟩,
  ⟨⟨#[97, 109, 111, 109, 105, 110, 46, 119]⟩, .a, 47, 2, 16⟩,
  ⟨⟨#[97, 109, 111, 109, 97, 120, 46, 119]⟩, .a, 47, 2, 20⟩,
  ⟨⟨#[97, 109, 111, 109, 105, 110, 117, 46, 119]⟩, .a, 47, 2, 24⟩,
  ⟨⟨#[97, 109, 111, 109, 97, 120, 117, 46, 119]⟩, .a, 47, 2, 28⟩,
  ⟨⟨#[108, 114, 46, 100]⟩, .a, 47, 3, 2⟩,
  ⟨⟨#[115, 99, 46, 100]⟩, .a, 47, 3, 3⟩,
  ⟨⟨#[97, 109, 111, 115, 119, 97, 112, 46, 100]⟩, .a, 47, 3, 1⟩,
  ⟨⟨#[97, 109, 111, 97, 100, 100, 46, 100]⟩, .a, 47, 3, 0⟩,
  ⟨⟨#[97, 109, 111, 120, 111, 114, 46, 100]⟩, .a, 47, 3, 4⟩,
  ⟨⟨#[97, 109, 111, 97, 110, 100, 46, 100]⟩, .a, 47, 3, 12⟩,
  ⟨⟨#[97, 109, 111, 111, 114, 46, 100]⟩, .a, 47, 3, 8⟩,
  ⟨⟨#[97, 109, 111, 109, 105, 110, 46, 100]⟩, .a, 47, 3, 16⟩,
  ⟨⟨#[97, 109, 111, 109, 97, 120, 46, 100]⟩, .a, 47, 3, 20⟩,
  ⟨⟨#[97, 109, 111, 109, 105, 110, 117, 46, 100]⟩, .a, 47, 3, 24⟩,
  ⟨⟨#[97, 109, 111, 109, 97, 120, 117, 46, 100]⟩, .a, 47, 3, 28⟩,
  ⟨⟨#[102, 101, 110, 99, 101]⟩, .i, 15, 0, 0⟩,
  ⟨⟨#[102, 101, 110, 99, 101, 46, 105]⟩, .i, 15, 1, 0⟩,
  ⟨⟨#[99, 115, 114, 114, 119]⟩, .c, 115, 1, 0⟩,
  ⟨⟨#[99, 115, 114, 114, 115]⟩, .c, 115, 2, 0⟩,
  ⟨⟨#[99, 115, 114, 114, 99]⟩, .c, 115, 3, 0⟩,
  ⟨⟨#[99, 115, 114, 114, 119, 105]⟩, .c, 115, 5, 0⟩,
  ⟨⟨#[99, 115, 114, 114, 115, 105]⟩, .c, 115, 6, 0⟩,
  ⟨⟨#[99, 115, 114, 114, 99, 105]⟩, .c, 115, 7, 0⟩,
  ⟨⟨#[101, 99, 97, 108, 108]⟩, .x, 115, 0, 0⟩,
  ⟨⟨#[101, 98, 114, 101, 97, 107]⟩, .x, 115, 0, 1⟩,
  ⟨⟨#[115, 114, 101, 116]⟩, .x, 115, 0, 258⟩,
  ⟨⟨#[109, 114, 101, 116]⟩, .x, 115, 0, 770⟩,
  ⟨⟨#[119, 102, 105]⟩, .x, 115, 0, 261⟩,
  ⟨⟨#[115, 102, 101, 110, 99, 101, 46, 118, 109, 97]⟩, .r, 115, 0, 9⟩]

def Row.f3z (r : Row) : Int := if r.f3 < 0 then 0 else r.f3

def Row.cellsI (r : Row) : List Value := [.string r.name, .string r.fm.str, .int .u64 r.op, .int .u64 r.f3z, .int .u64 r.more]

def Row.cellsS (r : Row) : List Value := [.string r.name, .string r.fm.str, .int .u64 r.op, .int .i64 r.f3, .int .u64 r.more]

def cellsI : Array Value := (rows.flatMap Row.cellsI).toArray

def cellsS : Array Value := (rows.flatMap Row.cellsS).toArray

theorem rows_len : rows.length = 98 := by rfl

theorem flat_drop {α β : Type} (f : α → List β) (m : Nat) : ∀ (l : List α), (∀ x ∈ l, (f x).length = m) → ∀ k (h : k < l.length), ((l.flatMap f).drop (k * m)).take m = f l[k] := by
  intro l
  induction l with
  | nil => intro _ k h; simp at h
  | cons x l ih =>
    intro hl k h
    have hx : (f x).length = m := hl x (by simp)
    cases k with
    | zero => simp [← hx]
    | succ k =>
      have e : (k + 1) * m = (f x).length + k * m := by rw [hx, Nat.succ_mul]; omega
      rw [e, List.flatMap_cons, List.drop_append, List.drop_of_length_le (by omega), Nat.add_sub_cancel_left]
      exact ih (fun y hy => hl y (by simp [hy])) k (by simpa using h)

theorem flat_get {α β : Type} (f : α → List β) (m : Nat) (l : List α) (hl : ∀ x ∈ l, (f x).length = m) (k : Nat) (h : k < l.length) (j : Nat) (hj : j < m) : (l.flatMap f)[k * m + j]? = (f l[k])[j]? := by
  rw [← flat_drop f m l hl k h]
  simp [hj]

def rowAt (k : Nat) : Row := rows.getD k ⟨⟨#[]⟩, .x, 0, 0, 0⟩

theorem rowAt_get (k : Nat) (h : k < 98) : rows[k]'(by rw [rows_len]; exact h) = rowAt k := by
  simp [rowAt, List.getD, List.getElem?_eq_getElem (show k < rows.length by rw [rows_len]; exact h)]

theorem cellsI_part (k : Nat) (h : k < 98) : cellsI.extract (k * 5) (k * 5 + 5) = (rowAt k).cellsI.toArray := by
  have := flat_drop Row.cellsI 5 rows (by intro x _; rfl) k (by rw [rows_len]; exact h)
  rw [rowAt_get k h] at this
  rw [← this]
  simp [cellsI]

theorem cellsI_size : cellsI.size = 490 := by kernel_rfl

theorem cellsS_size : cellsS.size = 490 := by kernel_rfl

theorem cellsS_at (k : Nat) (h : k < 98) (j : Nat) (hj : j < 5) : cellsS[k * 5 + j]? = (rowAt k).cellsS[j]? := by
  have := flat_get Row.cellsS 5 rows (by intro x _; rfl) k (by rw [rows_len]; exact h) j hj
  rw [rowAt_get k h] at this
  rw [← this]
  simp [cellsS]

section
variable {P : Program}

def builds (P : Program) : List Oper → Act → Option Act
  | [], a => some a
  | o :: l, a =>
    match o.guard, o.op with
    | none, .build t parts =>
      match P.built t (parts.map fun (i, x) => (i, a.eval x)).toList with
      | some cells => builds P l (a.put o.dst (.agg cells))
      | none => none
    | _, _ => none

theorem wpList_builds {ops : Array Oper} {Q : Exit → Act → World → Prop} {w : World} : ∀ (l rest : List Oper) (a a' : Act), builds P l a = some a' → wpList P ops Q rest a' w → wpList P ops Q (l ++ rest) a w := by
  intro l
  induction l with
  | nil => intro rest a a' h hr; simp [builds] at h; subst h; exact hr
  | cons o l ih =>
    intro rest a a' h hr
    unfold builds at h
    split at h
    · rename_i t parts hg ho
      split at h
      · rename_i cells hc
        exact wpList_buildTo hg t parts ho o.dst rfl cells hc (ih _ _ _ h hr)
      · cases h
    · cases h

theorem wpList_buildsTo {ops : Array Oper} {Q : Exit → Act → World → Prop} {w : World} {l : List Oper} {a : Act} (n s t : Nat) (v x : Value)
    (h : (builds P (l.take n) a).map (fun a' => (a'.tmps.getD s undef, a'.tmps.getD t undef, a'.defers)) = some (v, x, []))
    (hr : ∀ a' : Act, a'.tmps.getD s undef = v → a'.tmps.getD t undef = x → a'.defers = [] → wpList P ops Q (l.drop n) a' w) : wpList P ops Q l a w := by
  rw [← List.take_append_drop n l]
  cases hb : builds P (l.take n) a with
  | none => rw [hb] at h; cases h
  | some a' =>
    rw [hb] at h
    simp only [Option.map_some, Option.some.injEq, Prod.mk.injEq] at h
    exact wpList_builds _ _ _ _ hb (hr a' h.1 h.2.1 h.2.2)
end

end Go.Proofs.YtilhcfhcdplicaaGreatDoor

namespace Go.Proofs.YtilhcfhcdplicaaGreatDoor
open Go.RowKit
set_option linter.unusedVariables false

def zeroI : Array Value := (List.replicate 98 [Value.string ⟨#[]⟩, .string ⟨#[]⟩, .int .u64 0, .int .u64 0, .int .u64 0]).flatten.toArray

theorem zeroI_size : zeroI.size = 490 := by kernel_rfl

theorem zeroI_info : (Tryz.prog.info? 253).bind (·.zero) = some (.agg zeroI) := by kernel_rfl

theorem run_zero {P : Program} {t : TypeId} {z : Value} (h : (P.info? t).bind (·.zero) = some z) (w : World) : (zeroValue t).run P w = .ok z w := by
  cases hi : P.info? t with
  | none => rw [hi] at h; cases h
  | some i => rw [hi] at h; simp at h; simp [zeroValue, typeInfo, hi, h]

theorem wpList_allocZ {P : Program} {ops : Array Oper} {rest : List Oper} {o : Oper} {a : Act} {w : World} {Q : Exit → Act → World → Prop} (hg : o.guard = none) (t : TypeId) (ho : o.op = .alloc t) (d : Option Tmp) (hd : o.dst = d) (z : Value) (hz : (P.info? t).bind (·.zero) = some z)
    (h : wpList P ops Q rest (a.put d (.pointer (some ⟨w.heap.size, 0, none⟩))) (w.alloc (.cells z.cells t))) : wpList P ops Q (o :: rest) a w := by
  subst hd
  refine wpList_plain hg fun K hK => ?_
  have hrun : (execOp a.eval o).run P w = .ok (.value (.pointer (some ⟨w.heap.size, 0, none⟩))) (w.alloc (.cells z.cells t)) := by
    simp [execOp, ho, Instr.alloc, Sem.run_bind, run_zero hz, newVar, newRow]
  unfold Oper.wp
  rw [hrun, Oper.upon_value]
  exact hK _ _ h

theorem wpList_valTo {P : Program} {ops : Array Oper} {rest : List Oper} {o : Oper} {a : Act} {w : World} {Q : Exit → Act → World → Prop} (hg : o.guard = none) (d : Option Tmp) (hd : o.dst = d)
    (v : Value) (hrun : (execOp a.eval o).run P w = .ok (.value v) w)
    (h : wpList P ops Q rest (a.put d v) w) : wpList P ops Q (o :: rest) a w := by
  subst hd
  refine wpList_plain hg fun K hK => ?_
  unfold Oper.wp
  rw [hrun, Oper.upon_value]
  exact hK _ _ h

theorem below_setRow {B : Nat} {a w : World} (h : Below B a w) {g : Nat} (hg : B ≤ g) (cs : Array Value) : Below B a (w.setRow g cs) :=
  ⟨h.os, h.tape, h.output, by rw [setRow_size]; exact h.size, fun k hk => (setRow_other w g k cs (by omega)).trans (h.block k hk)⟩

theorem cellsI_one : cellsI.all (·.oneCell') = true := by kernel_rfl

theorem opRow_size : (Tryz.prog.info? 253).map (·.size) = some 490 := by kernel_rfl

set_option maxRecDepth 100000 in
set_option maxHeartbeats 4000000 in
theorem opRows_any (w : World) : Calls Tryz.prog 230 #[] w fun e w' => e = .returned (.agg cellsI) ∧ Below w.heap.size w w' := by
  go_enter Tryz.func230, Tryz.ntmps230
  apply wp_seq_k; intro K0 hK0
  apply wp_region_list
  refine wpList_allocZ rfl 253 rfl (some 0) rfl _ zeroI_info ?_
  apply wpList_nil
  refine hK0 _ _ ?_
  clear hK0 K0
  apply wp_seq_k; intro K0 hK0
  apply wp_region_lit
  refine wpList_buildsTo 99 0 99 (.pointer (some ⟨w.heap.size, 0, none⟩)) (.agg cellsI) (by kernel_rfl) ?_
  intro a' h0 h99 hd
  have hg : (w.alloc (.cells (Value.agg zeroI).cells 253)).heap[w.heap.size]? = some (.cells zeroI 253 (0, 0)) := heap_alloc_new _ _
  refine wpList_store_rowTo rfl 253 (.tmp 0) (.tmp 99) rfl rfl w.heap.size cellsI h0 h99 253 zeroI hg (by rw [opRow_size, cellsI_size]) (by rw [zeroI_size, cellsI_size]) cellsI_one ?_
  apply wpList_nil
  refine hK0 _ _ ?_
  clear hK0 K0
  apply wp_ret
  refine bodyPost_ret (results_cell_row Tryz.results230 _ _ _ _ _ _ _ h0 (setRow_heap _ _ _ _ _ _ hg) Tryz.underlying253 rfl (by rw [opRow_size, cellsI_size])) hd ⟨rfl, ?_⟩
  exact below_setRow ((Below.refl _ _).alloc (Nat.le_refl _) _) (Nat.le_refl _) _

theorem l2Row_info : (Tryz.prog.info? 223).map (fun i => (i.zero, i.size, i.bytes)) = some (some (.agg #[.string ⟨#[]⟩, .string ⟨#[]⟩, .int .u64 0, .int .i64 0, .int .u64 0]), 5, 56) := by kernel_rfl

def partsOf (rs : List (List Value)) : List (Nat × Value) := (rs.map fun c => Value.agg c.toArray).zipIdx.map fun (v, i) => (i, v)

theorem fillS : Instr.fill (fun i => some (i * 5, 5)) ((Array.range (98 * 5)).map ((Value.agg #[.string ⟨#[]⟩, .string ⟨#[]⟩, .int .u64 0, .int .i64 0, .int .u64 0]).cells[· % 5]!)) (partsOf (rows.map Row.cellsS)) = some cellsS := by kernel_rfl

theorem wpList_buildsSlice {P : Program} {ops : Array Oper} {Q : Exit → Act → World → Prop} {w : World} {l : List Oper} {a : Act} (n t e len : Nat) (d : Option Tmp) (ps : Array (Nat × Operand)) (vs : List (Nat × Value)) (cells : Array Value) (ie : TypeInfo) (z : Value)
    (h : (builds P (l.take n) a).map (fun a' => ((ps.map fun (i, x) => (i, a'.eval x)).toList, a'.tmps.size, a'.defers)) = some (vs, a.tmps.size, []))
    (hu : P.underlying t = some (.slice e)) (hie : P.info? e = some ie) (hz : ie.zero = some z) (hsmall : ¬ len * ie.size > 2 ^ 24) (hpos : ¬ len * ie.size = 0)
    (hf : Instr.fill (fun i => some (i * ie.size, ie.size)) ((Array.range (len * ie.size)).map (z.cells[· % z.cells.size]!)) vs = some cells)
    (ho : ((l.drop n)[0]?.map fun o => (o.guard, o.op, o.dst)) = some (none, .buildSlice t len ps, d))
    (hr : ∀ a' : Act, a'.tmps.size = a.tmps.size → a'.defers = [] → wpList P ops Q (l.drop (n + 1)) (a'.put d (.slice (some ⟨w.heap.size, 0, none⟩) len len)) (w.alloc (.cells cells e))) : wpList P ops Q l a w := by
  rw [← List.take_append_drop n l]
  cases hb : builds P (l.take n) a with
  | none => rw [hb] at h; cases h
  | some a' =>
    rw [hb] at h
    simp only [Option.map_some, Option.some.injEq, Prod.mk.injEq] at h
    refine wpList_builds _ _ _ _ hb ?_
    cases hd : l.drop n with
    | nil => rw [hd] at ho; cases ho
    | cons o rest =>
      rw [hd] at ho
      simp only [List.getElem?_cons_zero, Option.map_some, Option.some.injEq, Prod.mk.injEq] at ho
      have e1 : l.drop (n + 1) = rest := by rw [← List.drop_drop, hd]; rfl
      refine wpList_buildSlice ho.1 t e len ps ho.2.1 cells ie z hu hie hz hsmall hpos (by rw [h.1]; exact hf) ?_
      rw [ho.2.2, ← e1]
      exact hr a' h.2.1 h.2.2

set_option maxRecDepth 100000 in
set_option maxHeartbeats 4000000 in
theorem l2Rows_any (w : World) : Calls Tryz.prog 190 #[] w fun e w' => e = .returned (.slice (some ⟨w.heap.size, 0, none⟩) 98 98) ∧ w' = w.alloc (.cells cellsS 223) := by
  obtain ⟨i0, hi, hz0, hz1, hz2⟩ := info_parts l2Row_info
  go_enter Tryz.func190, Tryz.ntmps190
  apply wp_seq_k; intro K0 hK0
  apply wp_region_list
  refine wpList_valTo rfl (some 0) rfl (.slice none 0 0) (by kernel_rfl) ?_
  apply wpList_nil
  refine hK0 _ _ ?_
  clear hK0 K0
  apply wp_seq_k; intro K0 hK0
  apply wp_region_lit
  refine wpList_buildsSlice 98 220 223 98 (some 99) ((List.range 98).map fun i => (i, Operand.tmp (i + 1))).toArray (partsOf (rows.map Row.cellsS)) cellsS i0 _ (by kernel_rfl) Tryz.underlying220 hi hz0 (by rw [hz1]; decide) (by rw [hz1]; decide) (by rw [hz1]; exact fillS) (by kernel_rfl) ?_
  intro a' hs hd
  have hs2 : a'.tmps.size = 100 := hs
  clear hs
  refine wpList_valTo rfl (some 0) rfl (.slice (some ⟨w.heap.size, 0, none⟩) 98 98) ?_ ?_
  · have e : (a'.put (some 99) (.slice (some ⟨w.heap.size, 0, none⟩) 98 98)).eval (.tmp 99) = .slice (some ⟨w.heap.size, 0, none⟩) 98 98 := by
      simp [Act.put, Act.eval, hs2]
    simp [execOp, e]
  apply wpList_nil
  refine hK0 _ _ ?_
  clear hK0 K0
  apply wp_ret
  refine bodyPost_ret (results_tmp Tryz.results190 _ _ _) hd ⟨?_, rfl⟩
  simp [Act.put, hs2]

end Go.Proofs.YtilhcfhcdplicaaGreatDoor

namespace Go.Proofs.YtilhcfhcdplicaaGreatDoor
open Go.RowKit
set_option linter.unusedVariables false

def opB (op : Int) : Bool := decide (1 ≤ op ∧ op ≤ 98)

def nameOf (op : Int) : ByteArray := if opB op then (rowAt (op - 1).toNat).name else ⟨#[]⟩

def formOf (op : Int) : ByteArray := if opB op then (rowAt (op - 1).toNat).fm.str else ⟨#[]⟩

def Row.val (r : Row) : Value := .agg #[.string r.name, .string r.fm.str, .int .u64 r.op, .int .u64 r.f3z, .int .u64 r.more]

def noRow : Value := .agg #[.string ⟨#[]⟩, .string ⟨#[]⟩, .int .u64 0, .int .u64 0, .int .u64 0]

def rowV (op : Int) : Value := if opB op then (rowAt (op - 1).toNat).val else noRow

theorem rowV_false {op : Int} (h : opB op = false) : rowV op = noRow := by simp [rowV, h]

theorem rowV_true {k : Nat} (h : opB ((k : Int) + 1) = true) : rowV ((k : Int) + 1) = (rowAt k).val := by simp [rowV, h]

theorem results_row2 {P : Program} {fn : Func} {p u : Tmp} {ty : TypeId} (h : fn.results = #[.cell p ty, .tmp u]) (tmps : Array Value) (w : World) (g : Nat) (t : TypeId) (cs : Array Value) (fr : Nat × Nat) (d : TypeDesc)
    (hp : tmps.getD p undef = .pointer (some ⟨g, 0, none⟩)) (hg : w.heap[g]? = some (.cells cs t fr))
    (hu : P.underlying ty = some d) (hd : (match d with | .struct _ | .array _ _ => true | _ => false) = true) (hi : (P.info? ty).map (·.size) = some cs.size) :
    (results fn tmps).run P w = .ok (.tuple #[.agg cs, tmps.getD u undef]) w := by
  rw [results_cell_tmp h, hp]
  simp [asAddr, run_loadVar_row w g t ty cs fr d hg hu hd hi]

theorem rowV_parts (op : Int) : ∃ r1 r2 r3 r4 r5, rowV op = .agg #[.string r1, .string r2, .int .u64 r3, .int .u64 r4, .int .u64 r5] ∧ Hid (r1 = nameOf op) ∧ Hid (r2 = formOf op) := by
  cases h : opB op with
  | true => exact ⟨_, _, _, _, _, by simp [rowV, h]; rfl, (by simp [nameOf, h] : (rowAt (op - 1).toNat).name = nameOf op), (by simp [formOf, h] : (rowAt (op - 1).toNat).fm.str = formOf op)⟩
  | false => exact ⟨_, _, _, _, _, by simp [rowV, h]; rfl, (by simp [nameOf, h] : (⟨#[]⟩ : ByteArray) = nameOf op), (by simp [formOf, h] : (⟨#[]⟩ : ByteArray) = formOf op)⟩

theorem row_size : (Tryz.prog.info? 252).map (·.size) = some 5 := by kernel_rfl

theorem row_one (r : Row) : (#[Value.string r.name, .string r.fm.str, .int .u64 r.op, .int .u64 r.f3z, .int .u64 r.more] : Array Value).all (·.oneCell') = true := by
  simp [Value.oneCell']

theorem run_index (w : World) (kk : IntKind) (k : Nat) (hk : k < 98) : (Instr.index 253 (.agg cellsI) (.int kk (k : Int))).run Tryz.prog w = .ok (rowAt k).val w := by
  have hs : (sizeOf 252).run Tryz.prog w = .ok 5 w := by
    obtain ⟨i0, hi, hz1⟩ : ∃ i, Tryz.prog.info? 252 = some i ∧ i.size = 5 := by
      have h : (Tryz.prog.info? 252).map (·.size) = some 5 := by kernel_rfl
      cases hq : Tryz.prog.info? 252 with
      | none => rw [hq] at h; cases h
      | some i => rw [hq] at h; exact ⟨i, rfl, by simpa using h⟩
    simp [sizeOf, typeInfo, hi, hz1]
  have ha : (isAgg 252).run Tryz.prog w = .ok true w := by
    simp [isAgg, run_underlying Tryz.underlying252]
  have hb : (0 : Int) ≤ (k : Int) ∧ (k : Int) < ((98 : Nat) : Int) := by omega
  unfold Instr.index
  simp only [asIntOf, Sem.run_bind, Sem.run_pure, Result.andThen_ok, run_underlying Tryz.underlying253]
  rw [if_pos hb]
  simp only [Sem.run_bind, hs, Result.andThen_ok, part, ha, Int.toNat_natCast, if_true, Sem.run_pure]
  rw [cellsI_part k hk]
  rfl

theorem run_index_T {T : Value} (hT : Hid (T = .agg cellsI)) (kk : IntKind) (k : Nat) (hk : k < 98) (r : Row) (hr : Hid (r = rowAt k)) (w : World) :
    (Instr.index 253 T (.int kk (k : Int))).run Tryz.prog w = .ok (.agg #[.string r.name, .string r.fm.str, .int .u64 r.op, .int .u64 r.f3z, .int .u64 r.more]) w := by
  rw [hT.out, hr.out]; exact run_index w kk k hk

theorem wpList_indexT {ops : Array Oper} {rest : List Oper} {o : Oper} {a : Act} {w : World} {Q : Exit → Act → World → Prop} {T : Value} (hT : Hid (T = .agg cellsI)) (kk : IntKind) (k : Nat) (hk : k < 98) (r : Row) (hr : Hid (r = rowAt k)) (hg : o.guard = none) (x i : Operand) (ho : o.op = .index 253 x i)
    (hx : a.eval x = T) (hi : a.eval i = .int kk (k : Int))
    (h : wpList Tryz.prog ops Q rest (a.put o.dst (.agg #[.string r.name, .string r.fm.str, .int .u64 r.op, .int .u64 r.f3z, .int .u64 r.more])) w) : wpList Tryz.prog ops Q (o :: rest) a w := by
  refine wpList_plain hg fun K hK => ?_
  have hrun : (execOp a.eval o).run Tryz.prog w = .ok (.value (.agg #[.string r.name, .string r.fm.str, .int .u64 r.op, .int .u64 r.f3z, .int .u64 r.more])) w := by
    simp [execOp, ho, hx, hi, run_index_T hT kk k hk r hr]
  unfold Oper.wp
  rw [hrun, Oper.upon_value]
  exact hK _ _ h

theorem opRows_T (w : World) : Calls Tryz.prog 230 #[] w fun e w' => ∃ T, e = .returned T ∧ Hid (T = .agg cellsI) ∧ Below w.heap.size w w' :=
  (opRows_any w).mono fun e w' h => ⟨.agg cellsI, h.1, (rfl : Value.agg cellsI = .agg cellsI), h.2⟩

theorem l1In_any (x a b : Int) (w : World) : Calls Tryz.prog 63 #[.int .i64 x, .int .i64 a, .int .i64 b] w fun e w' => e = .returned (.bool (decide (a ≤ x ∧ x ≤ b))) ∧ w' = w := by
  by_cases h1 : a ≤ x
  · by_cases h2 : x ≤ b
    · have F : Hid (decide (a ≤ x ∧ x ≤ b) = true) := by show decide (a ≤ x ∧ x ≤ b) = true; simp [h1, h2]
      have d1 : decide (a ≤ x) = true := by simpa using h1
      have d2 : decide (x ≤ b) = true := by simpa using h2
      clear h1 h2
      go_enter Tryz.func63, Tryz.ntmps63
      go_wp2
      go_ret
      exact ⟨by rw [F.out]; rfl, rfl⟩
    · have F : Hid (decide (a ≤ x ∧ x ≤ b) = false) := by show decide (a ≤ x ∧ x ≤ b) = false; simp [h2]
      have d1 : decide (a ≤ x) = true := by simpa using h1
      have d2 : decide (x ≤ b) = false := by simpa using h2
      clear h1 h2
      go_enter Tryz.func63, Tryz.ntmps63
      go_wp2
      go_ret
      exact ⟨by rw [F.out]; rfl, rfl⟩
  · have F : Hid (decide (a ≤ x ∧ x ≤ b) = false) := by show decide (a ≤ x ∧ x ≤ b) = false; simp [h1]
    have d1 : decide (a ≤ x) = false := by simpa using h1
    clear h1
    go_enter Tryz.func63, Tryz.ntmps63
    go_wp2
    go_ret
    exact ⟨by rw [F.out]; rfl, rfl⟩

set_option maxHeartbeats 400000 in
theorem rowOf_any (op : Int) (hw : (Lit.int .i64 op).wf = true) (w : World) : Calls Tryz.prog 258 #[.int .i64 op] w fun e w' => e = .returned (.tuple #[rowV op, .bool (opB op)]) ∧ Below w.heap.size w w' := by
  by_cases h1 : op < 1
  · have F : Hid (opB op = false) := by show opB op = false; simp [opB]; omega
    have d1 : decide (op < 1) = true := by simpa using h1
    clear h1
    go_enter Tryz.func258, Tryz.ntmps258
    go_wp2
    refine bodyPost_ret (v := .tuple #[noRow, .bool false]) (by simp [results, Tryz.results258, go_sem]; rfl) rfl ⟨by rw [rowV_false F.out, F.out], ?_⟩
    exact (Below.refl _ _).alloc (Nat.le_refl _) _
  · by_cases h2 : 98 < op
    · have F : Hid (opB op = false) := by show opB op = false; simp [opB]; omega
      have d1 : decide (op < 1) = false := by simpa using h1
      have d2 : decide (98 < op) = true := by simpa using h2
      clear h1 h2
      go_enter Tryz.func258, Tryz.ntmps258
      go_wp2
      refine bodyPost_ret (v := .tuple #[noRow, .bool false]) (by simp [results, Tryz.results258, go_sem]; rfl) rfl ⟨by rw [rowV_false F.out, F.out], ?_⟩
      exact (Below.refl _ _).alloc (Nat.le_refl _) _
    · have F0 : opB op = true := by show opB op = true; simp [opB]; omega
      have d1 : decide (op < 1) = false := by simpa using h1
      have d2 : decide (98 < op) = false := by simpa using h2
      obtain ⟨k, hk⟩ : ∃ k : Nat, op = (k : Int) + 1 := ⟨(op - 1).toNat, by omega⟩
      have hk2 : k < 98 := by omega
      subst hk
      have F : Hid (opB ((k : Int) + 1) = true) := F0
      clear h1 h2 F0
      go_enter Tryz.func258, Tryz.ntmps258
      go_wp2_with fail
      refine (opRows_T _).mono ?_
      rintro e w1 ⟨T, rfl, HT, hb⟩
      obtain ⟨r, hr0⟩ : ∃ r, r = rowAt k := ⟨_, rfl⟩
      have hr : Hid (r = rowAt k) := hr0
      clear hr0
      have hg : w1.heap[w.heap.size]? = some (.cells #[.string ⟨#[]⟩, .string ⟨#[]⟩, .int .u64 0, .int .u64 0, .int .u64 0] 252 (0, 0)) := by
        rw [hb.block _ (by simp)]; exact heap_alloc_new _ _
      go_wp2_with (first | refine wpList_indexT HT .i64 k hk2 r hr rfl _ _ rfl rfl rfl ?_ | refine wpList_store_rowTo rfl 252 _ _ rfl rfl w.heap.size #[.string r.name, .string r.fm.str, .int .u64 r.op, .int .u64 r.f3z, .int .u64 r.more] rfl rfl 252 _ hg row_size rfl (row_one r) ?_)
      refine bodyPost_ret (results_row2 Tryz.results258 _ _ _ _ _ _ _ rfl (setRow_heap _ _ _ _ _ _ hg) Tryz.underlying252 rfl row_size) rfl ⟨?_, ?_⟩
      · rw [rowV_true F.out, F.out, ← hr.out]; rfl
      · exact below_setRow (((Below.refl _ _).alloc (Nat.le_refl _) _).trans (hb.mono (by simp))) (Nat.le_refl _) _

set_option maxHeartbeats 400000 in
theorem implForm_any (op : Int) (hw : (Lit.int .i64 op).wf = true) (w : World) : Calls Tryz.prog 235 #[.int .i64 op] w fun e w' => e = .returned (.string (formOf op)) ∧ Below w.heap.size w w' := by
  go_enter Tryz.func235, Tryz.ntmps235
  go_wp2_with fail
  refine (rowOf_any op hw _).mono ?_
  rintro e w1 ⟨rfl, hb⟩
  obtain ⟨r1, r2, r3, r4, r5, hr, hn, hf⟩ := rowV_parts op
  rw [hr]
  go_wp2_with fail
  go_ret
  exact ⟨by rw [← hf.out]; rfl, hb.alloc hb.size _⟩

def TabS (w : World) (g : Nat) : Prop := g < w.heap.size ∧ ∀ k, k < 98 → ∀ r, r = rowAt k → w.cell? ⟨g, k * 5, none⟩ = some (.string r.name) ∧ w.cell? ⟨g, k * 5 + 1, none⟩ = some (.string r.fm.str) ∧
  w.cell? ⟨g, k * 5 + 2, none⟩ = some (.int .u64 r.op) ∧ w.cell? ⟨g, k * 5 + 3, none⟩ = some (.int .i64 r.f3) ∧ w.cell? ⟨g, k * 5 + 4, none⟩ = some (.int .u64 r.more)

theorem TabS.below {w w' : World} {g : Nat} (h : TabS w g) {B : Nat} (hg : g < B) (hb : Below B w w') : TabS w' g := by
  refine ⟨Nat.lt_of_lt_of_le h.1 hb.size, fun k hk r hr => ?_⟩
  have H := h.2 k hk r hr
  have e : ∀ o, w'.cell? ⟨g, o, none⟩ = w.cell? ⟨g, o, none⟩ := fun o => hb.cell (p := ⟨g, o, none⟩) hg
  rw [e, e, e, e, e]; exact H

theorem l2Rows_T (w : World) : Calls Tryz.prog 190 #[] w fun e w' => e = .returned (.slice (some ⟨w.heap.size, 0, none⟩) 98 98) ∧ Hid (TabS w' w.heap.size) ∧ Below w.heap.size w w' :=
  (l2Rows_any w).mono fun e w' h => by
    obtain ⟨h1, rfl⟩ := h
    refine ⟨h1, ?_, (Below.refl _ _).alloc (Nat.le_refl _) _⟩
    show TabS _ _
    refine ⟨by simp, fun k hk r hr => ?_⟩
    subst hr
    have hg : (w.alloc (.cells cellsS 223)).heap[w.heap.size]? = some (.cells cellsS 223 (0, 0)) := heap_alloc_new _ _
    have e : ∀ j, j < 5 → (w.alloc (.cells cellsS 223)).cell? ⟨w.heap.size, k * 5 + j, none⟩ = (rowAt k).cellsS[j]? := by
      intro j hj
      rw [cell_of_row _ _ _ _ _ _ hg]
      exact cellsS_at k hk j hj
    exact ⟨e 0 (by decide), e 1 (by decide), e 2 (by decide), e 3 (by decide), e 4 (by decide)⟩

set_option maxHeartbeats 400000 in
theorem specName_any (op : Int) (hw : (Lit.int .i64 op).wf = true) (w : World) : Calls Tryz.prog 196 #[.int .i64 op] w fun e w' => e = .returned (.string (nameOf op)) ∧ Below w.heap.size w w' := by
  cases h : opB op with
  | false =>
    have F : Hid (opB op = false) := h
    have F2 : decide (1 ≤ op ∧ op ≤ 98) = false := h
    clear h
    go_enter Tryz.func196, Tryz.ntmps196
    go_wp2_with fail
    refine (l1In_any op 1 98 _).mono ?_
    rintro e w1 ⟨rfl, rfl⟩
    rw [F2]
    clear F2
    go_wp2_with fail
    go_ret
    exact ⟨by simp [nameOf, F.out], Below.refl _ _⟩
  | true =>
    have F2 : decide (1 ≤ op ∧ op ≤ 98) = true := h
    have F3 : 1 ≤ op ∧ op ≤ 98 := of_decide_eq_true F2
    obtain ⟨k, hk⟩ : ∃ k : Nat, op = (k : Int) + 1 := ⟨(op - 1).toNat, by omega⟩
    have hk2 : k < 98 := by omega
    subst hk
    have F : Hid (opB ((k : Int) + 1) = true) := h
    clear h F3
    go_enter Tryz.func196, Tryz.ntmps196
    go_wp2_with fail
    refine (l1In_any _ 1 98 _).mono ?_
    rintro e w1 ⟨rfl, hw'⟩
    have hw2 := hw'.symm
    subst hw2
    rw [F2]
    clear F2 hw'
    go_wp2_with fail
    refine (l2Rows_T _).mono ?_
    rintro e w2 ⟨rfl, hT, hb⟩
    obtain ⟨r, hr0⟩ : ∃ r, r = rowAt k := ⟨_, rfl⟩
    have hr : Hid (r = rowAt k) := hr0
    clear hr0
    obtain ⟨c0, c1, c2, c3, c4⟩ := hT.out.2 k hk2 r hr.out
    go_wp2_with fail
    go_ret
    exact ⟨by simp [nameOf, F.out, hr.out], hb⟩

set_option maxHeartbeats 400000 in
theorem specForm_any (op : Int) (hw : (Lit.int .i64 op).wf = true) (w : World) : Calls Tryz.prog 131 #[.int .i64 op] w fun e w' => e = .returned (.string (formOf op)) ∧ Below w.heap.size w w' := by
  cases h : opB op with
  | false =>
    have F : Hid (opB op = false) := h
    have F2 : decide (1 ≤ op ∧ op ≤ 98) = false := h
    clear h
    go_enter Tryz.func131, Tryz.ntmps131
    go_wp2_with fail
    refine (l1In_any op 1 98 _).mono ?_
    rintro e w1 ⟨rfl, rfl⟩
    rw [F2]
    clear F2
    go_wp2_with fail
    go_ret
    exact ⟨by simp [formOf, F.out], Below.refl _ _⟩
  | true =>
    have F2 : decide (1 ≤ op ∧ op ≤ 98) = true := h
    have F3 : 1 ≤ op ∧ op ≤ 98 := of_decide_eq_true F2
    obtain ⟨k, hk⟩ : ∃ k : Nat, op = (k : Int) + 1 := ⟨(op - 1).toNat, by omega⟩
    have hk2 : k < 98 := by omega
    subst hk
    have F : Hid (opB ((k : Int) + 1) = true) := h
    clear h F3
    go_enter Tryz.func131, Tryz.ntmps131
    go_wp2_with fail
    refine (l1In_any _ 1 98 _).mono ?_
    rintro e w1 ⟨rfl, hw'⟩
    have hw2 := hw'.symm
    subst hw2
    rw [F2]
    clear F2 hw'
    go_wp2_with fail
    refine (l2Rows_T _).mono ?_
    rintro e w2 ⟨rfl, hT, hb⟩
    obtain ⟨r, hr0⟩ : ∃ r, r = rowAt k := ⟨_, rfl⟩
    have hr : Hid (r = rowAt k) := hr0
    clear hr0
    obtain ⟨c0, c1, c2, c3, c4⟩ := hT.out.2 k hk2 r hr.out
    go_wp2_with fail
    go_ret
    exact ⟨by simp [formOf, F.out, hr.out], hb⟩

def findName (s : ByteArray) : Nat → Nat → Int
  | 0, _ => 0
  | n + 1, k => if ((rowAt k).name.toList == s.toList) = true then (k : Int) + 1 else findName s n (k + 1)

theorem findName_hit (s : ByteArray) (k : Nat) (hk : k < 98) (h : ((rowAt k).name.toList == s.toList) = true) : findName s (98 - k) k = (k : Int) + 1 := by
  rw [show 98 - k = (98 - (k + 1)) + 1 from by omega, findName, if_pos h]

theorem findName_miss (s : ByteArray) (k : Nat) (hk : k < 98) (h : ((rowAt k).name.toList == s.toList) = false) : findName s (98 - k) k = findName s (98 - (k + 1)) (k + 1) := by
  rw [show 98 - k = (98 - (k + 1)) + 1 from by omega, findName, if_neg (by rw [h]; decide)]

def Fm.at : Fm → Nat
  | .r => 25 | .w => 25 | .h => 26 | .a => 27 | .x => 20 | .u => 0 | .j => 0 | .i => 0 | .s => 0 | .b => 0 | .c => 0

structure Ins where
  op : Int
  rd : Int
  a : Int
  b : Int
  imm : Int
deriving DecidableEq

def Ins.val (i : Ins) : Value := .agg #[.int .i64 i.op, .int .i64 i.rd, .int .i64 i.a, .int .i64 i.b, .int .i64 i.imm]

def fld (x : Int) (k n : Nat) : Int := x / 2 ^ k % 2 ^ n

theorem fld_bd (x : Int) (k n : Nat) : 0 ≤ fld x k n ∧ fld x k n < 2 ^ n := by
  have hp : (0 : Int) < 2 ^ n := Int.pow_pos (by omega)
  exact ⟨Int.emod_nonneg _ (by omega), Int.emod_lt_of_pos _ hp⟩

theorem pow_le (m n : Nat) (h : m ≤ n) : (2 : Int) ^ m ≤ 2 ^ n := by
  obtain ⟨d, rfl⟩ := Nat.exists_eq_add_of_le h
  rw [Int.pow_add]
  have h1 : (0 : Int) < 2 ^ m := Int.pow_pos (by omega)
  have h2 : (0 : Int) < 2 ^ d := Int.pow_pos (by omega)
  have h3 : (2 : Int) ^ m * 1 ≤ 2 ^ m * 2 ^ d := Int.mul_le_mul_of_nonneg_left (by omega) (by omega)
  omega

theorem bitsAt_eq (x : Int) (k n : Nat) (h0 : 0 ≤ x) (h1 : x < 18446744073709551616) (hn : n < 64) :
    bits .and .u64 (x / 2 ^ k) (IntKind.u64.wrap (IntKind.u64.wrap (2 ^ n) - 1)) = fld x k n := by
  have hp : (0 : Int) < 2 ^ n := Int.pow_pos (by omega)
  have hk : (0 : Int) < 2 ^ k := Int.pow_pos (by omega)
  have hb : (2 : Int) ^ n ≤ 2 ^ 63 := pow_le n 63 (by omega)
  have e63 : (2 : Int) ^ 63 = 9223372036854775808 := by decide
  have e1 : IntKind.u64.wrap (2 ^ n) = 2 ^ n := by rw [IntKind.wrap_u64]; omega
  have e2 : IntKind.u64.wrap (2 ^ n - 1) = 2 ^ n - 1 := by rw [IntKind.wrap_u64]; omega
  have d0 : 0 ≤ x / 2 ^ k := Int.ediv_nonneg h0 (by omega)
  have d1 : x / 2 ^ k ≤ x := Int.ediv_le_self _ h0
  rw [e1, e2, u64_and _ _ d0 (by omega) (by omega) (by omega)]
  have e3 : (2 ^ n - 1 : Int).toNat = 2 ^ n - 1 := by
    have : (2 : Int) ^ n = ((2 ^ n : Nat) : Int) := by simp
    rw [this]; omega
  rw [e3, Nat.and_two_pow_sub_one_eq_mod]
  unfold fld
  have e4 : ((x / 2 ^ k).toNat : Int) = x / 2 ^ k := Int.toNat_of_nonneg d0
  rw [Int.natCast_emod, e4]
  simp

def matchP (i : Nat) (f : Fm) (o z m x : Int) : Prop := x % 128 = o ∧ (0 ≤ z → x / 4096 % 8 = z) ∧
  (match f with
  | .r => x / 33554432 = m ∧ (i = 97 → x / 128 % 32 = 0)
  | .h => x / 67108864 = m
  | .w => x / 33554432 = m
  | .a => x / 134217728 = m ∧ (i = 62 ∨ i = 73 → x / 1048576 % 32 = 0)
  | .x => x = m * 1048576 + o
  | _ => True)

instance (i : Nat) (f : Fm) (o z m x : Int) : Decidable (matchP i f o z m x) := by
  unfold matchP; cases f <;> infer_instance

theorem and_low (x : Int) (k : Nat) (h0 : 0 ≤ x) (h1 : x < 18446744073709551616) (hk : k < 64) : bits .and .u64 x (2 ^ k - 1) = x % 2 ^ k := by
  have h := bitsAt_eq x 0 k h0 h1 hk
  have hp : (0 : Int) < 2 ^ k := Int.pow_pos (by omega)
  have hb : (2 : Int) ^ k ≤ 2 ^ 63 := pow_le k 63 (by omega)
  have e63 : (2 : Int) ^ 63 = 9223372036854775808 := by decide
  have e1 : IntKind.u64.wrap (2 ^ k) = 2 ^ k := by rw [IntKind.wrap_u64]; omega
  have e2 : IntKind.u64.wrap (2 ^ k - 1) = 2 ^ k - 1 := by rw [IntKind.wrap_u64]; omega
  rw [e1, e2] at h
  simpa [fld] using h

def widen (n : Nat) (x : Int) : Int := IntKind.u64.wrap (RowKit.wrap64 (IntKind.u64.wrap (x * 2 ^ (64 - n))) / 2 ^ (64 - n))

end Go.Proofs.YtilhcfhcdplicaaGreatDoor

namespace Go.Proofs.YtilhcfhcdplicaaGreatDoor
open Go.RowKit
set_option linter.unusedVariables false

def bitAt (x : Int) (i : Nat) : Int := bits .and .u64 (x / 2 ^ i) 1

structure Fd where
  addr : Int
  code : Int
  marked : Bool
  at_ : Int
  entry : Int

def Fd.cells (f : Fd) : Array Value := #[.int .u64 f.addr, .int .i64 f.code, .bool f.marked, .int .u64 f.at_, .int .u64 f.entry]

def pageC (k : Int) : Int := if k = 1 then 12 else if k = 2 then 13 else 15

def faultC (k : Int) : Int := if k = 1 then 1 else if k = 2 then 5 else 7

def pageF (k : Int) : Fd := ⟨0, pageC k, false, 0, 0⟩

def faultF (k : Int) : Fd := ⟨0, faultC k, false, 0, 0⟩

def pteAt (T va : Int) (lv : Nat) : Int := IntKind.u64.wrap (T + IntKind.u64.wrap (8 * bits .and .u64 (va / 2 ^ (12 + 9 * lv)) 511))

def pteV (zs : List Int) (x : Int) : Int := le zs (x - 2147483648).toNat 8

def badB (e : Int) : Bool := (bits .and .u64 e 1 == 0) || ((bitAt e 1 == 0) && (bitAt e 2 == 1)) || (e / 18014398509481984 != 0)

def frameV (e : Int) : Int := bits .and .u64 (e / 1024) 17592186044415

def ptrB (e : Int) : Bool := (bitAt e 1 == 0) && (bitAt e 3 == 0)

def stopB (e : Int) (lv : Nat) : Bool := ((lv : Int) == 0) || (bits .and .u64 (e / 16) 1 == 1) || (bits .and .u64 (e / 64) 3 != 0)

def lowM (m : Nat) : Int := IntKind.u64.wrap (IntKind.u64.wrap (2 ^ m) - 1)

def offB (e : Int) (lv : Nat) : Bool := bits .and .u64 (frameV e) (lowM (9 * lv)) != 0

def noKind (l : List Int) (kind e : Int) : Bool :=
  ((kind == 1) && (bitAt e 3 == 0)) || ((kind == 2) && (bitAt e 1 == 0) && ((bitAt e 3 == 0) || (bitAt (l.getD 0 0) 19 == 0))) || ((kind == 3) && (bitAt e 2 == 0))

def noPriv (l : List Int) (p kind e : Int) : Bool :=
  ((p == 0) && (bitAt e 4 == 0)) || ((p == 1) && (bitAt e 4 == 1) && ((kind == 1) || (bitAt (l.getD 0 0) 18 == 0)))

def leadV (e va : Int) (lv : Nat) : Int := bits .or .u64 (bits .andNot .u64 (IntKind.u64.wrap (frameV e * 4096)) (lowM (12 + 9 * lv))) (bits .and .u64 va (lowM (12 + 9 * lv)))

def wantV (e kind : Int) : Int := if (kind == 3) = true then bits .or .u64 (bits .or .u64 e 64) 128 else bits .or .u64 e 64

def leafV (l : List Int) (p va kind e x : Int) (lv : Nat) : Fd :=
  if offB e lv = true then pageF kind else if noKind l kind e = true then pageF kind else if noPriv l p kind e = true then pageF kind
  else if (wantV e kind != e) = true then (if permRest l 1 x (lastOf x 8) 3 4 0 = true then ⟨leadV e va lv, 0, true, x, wantV e kind⟩ else faultF kind) else ⟨leadV e va lv, 0, false, 0, 0⟩

def walkL (zs : List Int) (n : Nat) (l : List Int) (p va kind : Int) : Nat → Int → Fd
  | 0, T => if okB n (pteAt T va 0) 8 = true then (if permRest l 1 (pteAt T va 0) (lastOf (pteAt T va 0) 8) 2 4 0 = true then
      (if badB (pteV zs (pteAt T va 0)) = true then pageF kind else if ptrB (pteV zs (pteAt T va 0)) = true then pageF kind else leafV l p va kind (pteV zs (pteAt T va 0)) (pteAt T va 0) 0) else faultF kind) else faultF kind
  | lv + 1, T => if okB n (pteAt T va (lv + 1)) 8 = true then (if permRest l 1 (pteAt T va (lv + 1)) (lastOf (pteAt T va (lv + 1)) 8) 2 4 0 = true then
      (if badB (pteV zs (pteAt T va (lv + 1))) = true then pageF kind else if ptrB (pteV zs (pteAt T va (lv + 1))) = true then (if stopB (pteV zs (pteAt T va (lv + 1))) (lv + 1) = true then pageF kind else walkL zs n l p va kind lv (IntKind.u64.wrap (frameV (pteV zs (pteAt T va (lv + 1))) * 4096))) else leafV l p va kind (pteV zs (pteAt T va (lv + 1))) (pteAt T va (lv + 1)) (lv + 1)) else faultF kind) else faultF kind

def topT (l : List Int) : Int := IntKind.u64.wrap (bits .and .u64 (l.getD 15 0) 17592186044415 * 4096)

def walkV (zs : List Int) (n : Nat) (l : List Int) (p va kind : Int) : Fd :=
  if ((p == 3) || (l.getD 15 0 / 1152921504606846976 == 0)) = true then ⟨va, 0, false, 0, 0⟩ else if (widen 39 va != va) = true then pageF kind else walkL zs n l p va kind 2 (topT l)

theorem walkL_step (zs : List Int) (n : Nat) (l : List Int) (p va kind : Int) (lv : Nat) (T : Int) : walkL zs n l p va kind lv T =
    (if okB n (pteAt T va lv) 8 = true then (if permRest l 1 (pteAt T va lv) (lastOf (pteAt T va lv) 8) 2 4 0 = true then
      (if badB (pteV zs (pteAt T va lv)) = true then pageF kind else if ptrB (pteV zs (pteAt T va lv)) = true then (if stopB (pteV zs (pteAt T va lv)) lv = true then pageF kind else walkL zs n l p va kind (lv - 1) (IntKind.u64.wrap (frameV (pteV zs (pteAt T va lv)) * 4096))) else leafV l p va kind (pteV zs (pteAt T va lv)) (pteAt T va lv) lv) else faultF kind) else faultF kind) := by
  cases lv with
  | zero =>
    rw [walkL]
    have : stopB (pteV zs (pteAt T va 0)) 0 = true := rfl
    rw [this, if_pos rfl]
  | succ lv => rw [walkL]; rfl

def Own (w : World) (base g cap : Nat) (l : List Int) : Prop := w.ownsRow base 24 1 (.slice (some ⟨g, 0, none⟩) 22 cap) 22 (l.map (Value.int .u64))

theorem Own.len {w : World} {base g cap : Nat} {l : List Int} (h : Own w base g cap l) : l.length = 22 := by
  have := h.1; simpa using this

theorem Own.cell {w : World} {base g cap : Nat} {l : List Int} (h : Own w base g cap l) (j : Nat) (hj : j < 22) : w.cell? ⟨g, j, none⟩ = some (.int .u64 (l.getD j 0)) := by
  have hl := h.len
  have e := World.ownsRow.cellAt h j hj
  rw [e]
  simp [List.getD, List.getElem?_eq_getElem (show j < l.length by omega)]

theorem Own.put {w : World} {base g cap : Nat} {l : List Int} (h : Own w base g cap l) (j : Nat) (v : Int) : Own (w.setCell ⟨g, j, none⟩ (.int .u64 v)) base g cap (l.set j v) ∧ w.grownBy (w.setCell ⟨g, j, none⟩ (.int .u64 v)) (some g) := by
  have e := World.ownsRow.stored h j (.int .u64 v)
  rw [map_set_u64] at e
  exact e

theorem Own.below {w w' : World} {base g cap : Nat} {l : List Int} (h : Own w base g cap l) (hb : Below w.heap.size w w') : Own w' base g cap l := ownsRow_below h hb

theorem l5Bit_any (x : Int) (i : Nat) (hi : i < 64) (w : World) : Calls Tryz.prog 163 #[.int .u64 x, .int .u64 i] w fun e w' => e = .returned (.int .u64 (bitAt x i)) ∧ w' = w := by
  go_enter Tryz.func163, Tryz.ntmps163
  go_wp2_with fail
  go_ret
  exact ⟨rfl, rfl⟩

theorem found_size : (Tryz.prog.info? 183).map (·.size) = some 5 := by kernel_rfl

theorem old_row (w : World) (o p : Obj) : ((w.alloc o).alloc p).heap[w.heap.size]? = some o := (Below.heap_alloc _ _ _ (by simp)).trans (heap_alloc_new _ _)

theorem l7Page_any (k : Int) (h1 : 1 ≤ k) (h3 : k ≤ 3) (w : World) : Calls Tryz.prog 221 #[.int .i64 k] w fun e w' => e = .returned (.agg (pageF k).cells) ∧ Below w.heap.size w w' := by
  have hk : k = 1 ∨ k = 2 ∨ k = 3 := by omega
  rcases hk with rfl | rfl | rfl
  · have F : (pageF 1).cells = #[.int .u64 0, .int .i64 12, .bool false, .int .u64 0, .int .u64 0] := rfl
    rw [F]
    go_enter Tryz.func221, Tryz.ntmps221
    go_wp2_with fail
    exact bodyPost_ret (results_cell_row Tryz.results221 _ _ _ _ _ _ _ rfl (old_row _ _ _) Tryz.underlying183 rfl found_size) rfl ⟨rfl, ((Below.refl _ _).alloc (Nat.le_refl _) _).alloc (by simp) _⟩
  · have F : (pageF 2).cells = #[.int .u64 0, .int .i64 13, .bool false, .int .u64 0, .int .u64 0] := rfl
    rw [F]
    go_enter Tryz.func221, Tryz.ntmps221
    go_wp2_with fail
    exact bodyPost_ret (results_cell_row Tryz.results221 _ _ _ _ _ _ _ rfl (old_row _ _ _) Tryz.underlying183 rfl found_size) rfl ⟨rfl, ((Below.refl _ _).alloc (Nat.le_refl _) _).alloc (by simp) _⟩
  · have F : (pageF 3).cells = #[.int .u64 0, .int .i64 15, .bool false, .int .u64 0, .int .u64 0] := rfl
    rw [F]
    go_enter Tryz.func221, Tryz.ntmps221
    go_wp2_with fail
    exact bodyPost_ret (results_cell_row Tryz.results221 _ _ _ _ _ _ _ rfl (old_row _ _ _) Tryz.underlying183 rfl found_size) rfl ⟨rfl, ((Below.refl _ _).alloc (Nat.le_refl _) _).alloc (by simp) _⟩

theorem l7Fault_any (k : Int) (h1 : 1 ≤ k) (h3 : k ≤ 3) (w : World) : Calls Tryz.prog 222 #[.int .i64 k] w fun e w' => e = .returned (.agg (faultF k).cells) ∧ Below w.heap.size w w' := by
  have hk : k = 1 ∨ k = 2 ∨ k = 3 := by omega
  rcases hk with rfl | rfl | rfl
  · have F : (faultF 1).cells = #[.int .u64 0, .int .i64 1, .bool false, .int .u64 0, .int .u64 0] := rfl
    rw [F]
    go_enter Tryz.func222, Tryz.ntmps222
    go_wp2_with fail
    exact bodyPost_ret (results_cell_row Tryz.results222 _ _ _ _ _ _ _ rfl (old_row _ _ _) Tryz.underlying183 rfl found_size) rfl ⟨rfl, ((Below.refl _ _).alloc (Nat.le_refl _) _).alloc (by simp) _⟩
  · have F : (faultF 2).cells = #[.int .u64 0, .int .i64 5, .bool false, .int .u64 0, .int .u64 0] := rfl
    rw [F]
    go_enter Tryz.func222, Tryz.ntmps222
    go_wp2_with fail
    exact bodyPost_ret (results_cell_row Tryz.results222 _ _ _ _ _ _ _ rfl (old_row _ _ _) Tryz.underlying183 rfl found_size) rfl ⟨rfl, ((Below.refl _ _).alloc (Nat.le_refl _) _).alloc (by simp) _⟩
  · have F : (faultF 3).cells = #[.int .u64 0, .int .i64 7, .bool false, .int .u64 0, .int .u64 0] := rfl
    rw [F]
    go_enter Tryz.func222, Tryz.ntmps222
    go_wp2_with fail
    exact bodyPost_ret (results_cell_row Tryz.results222 _ _ _ _ _ _ _ rfl (old_row _ _ _) Tryz.underlying183 rfl found_size) rfl ⟨rfl, ((Below.refl _ _).alloc (Nat.le_refl _) _).alloc (by simp) _⟩

def effV (l : List Int) (p kind : Int) : Int := if ((kind != 1) && (bitAt (l.getD 0 0) 17 == 1)) = true then wrap64 (bits .and .u64 (l.getD 0 0 / 2048) 3) else p

def effB (n : Nat) (l : List Int) (p kind : Int) : Int := if (legalB n l p && decide (1 ≤ kind ∧ kind ≤ 3)) = true then effV l p kind else -1

theorem l7Effective_any (b off cap : Nat) (l : List Int) (p kind : Int) (w : World) (c0 : w.cell? ⟨b, off, none⟩ = some (.int .u64 (l.getD 0 0))) :
    Calls Tryz.prog 99 #[.slice (some ⟨b, off, none⟩) 22 cap, .int .i64 p, .int .i64 kind] w fun e w' => e = .returned (.int .i64 (effV l p kind)) ∧ w' = w := by
  have HB : Hid (∀ w, Calls Tryz.prog 163 #[.int .u64 (l.getD 0 0), .int .u64 17] w fun e w' => e = .returned (.int .u64 (bitAt (l.getD 0 0) 17)) ∧ w' = w) := fun w => l5Bit_any _ 17 (by omega) w
  have F : Hid (effV l p kind = if ((kind != 1) && (bitAt (l.getD 0 0) 17 == 1)) = true then wrap64 (bits .and .u64 (l.getD 0 0 / 2048) 3) else p) := (rfl : effV l p kind = _)
  generalize effV l p kind = v at *
  generalize bitAt (l.getD 0 0) 17 = y at *
  generalize l.getD 0 0 = x at *
  cases d1 : (kind != 1) with
  | false =>
    have F2 : Hid (v = p) := by show v = p; rw [F.out, d1, Bool.false_and]; exact if_neg (by decide)
    clear F
    go_enter Tryz.func99, Tryz.ntmps99
    go_wp2_with fail
    go_ret
    exact ⟨by rw [F2.out]; rfl, rfl⟩
  | true =>
    cases d2 : (y == 1) with
    | false =>
      have F2 : Hid (v = p) := by show v = p; rw [F.out, d1, d2]; exact if_neg (by decide)
      clear F
      go_enter Tryz.func99, Tryz.ntmps99
      go_wp2_with fail
      refine (HB.out _).mono ?_
      rintro e wx ⟨rfl, hwx⟩
      have hwy := hwx.symm
      subst hwy
      go_wp2_with fail
      go_ret
      exact ⟨by rw [F2.out]; rfl, rfl⟩
    | true =>
      have F2 : Hid (v = wrap64 (bits .and .u64 (x / 2048) 3)) := by show v = _; rw [F.out, d1, d2]; exact if_pos rfl
      clear F
      go_enter Tryz.func99, Tryz.ntmps99
      go_wp2_with fail
      refine (HB.out _).mono ?_
      rintro e wx ⟨rfl, hwx⟩
      have hwy := hwx.symm
      subst hwy
      go_wp2_with fail
      go_ret
      exact ⟨by rw [F2.out]; rfl, rfl⟩

theorem bitsAt_any (x : Int) (k n : Nat) (h0 : 0 ≤ x) (h1 : x < 18446744073709551616) (hk : k < 64) (hn : n < 64) (w : World) :
    Calls Tryz.prog 47 #[.int .u64 x, .int .i64 k, .int .i64 n] w fun e w' => e = .returned (.int .u64 (fld x k n)) ∧ w' = w.drew := by
  have F : Hid (bits .and .u64 (x / 2 ^ k) (IntKind.u64.wrap (IntKind.u64.wrap (2 ^ n) - 1)) = fld x k n) := bitsAt_eq x k n h0 h1 hn
  go_enter Tryz.func47, Tryz.ntmps47
  go_wp2_with fail
  go_region
  all_goals go_wp2_with fail
  all_goals go_ret
  all_goals exact ⟨by rw [← F.out]; rfl, rfl⟩

theorem implWiden_any (x : Int) (n : Nat) (h1 : 1 ≤ n) (h2 : n ≤ 64) (w : World) :
    Calls Tryz.prog 16 #[.int .u64 x, .int .i64 n] w fun e w' => e = .returned (.int .u64 (widen n x)) ∧ w' = w := by
  have d1 : decide ((n : Int) < 1) = false := by simp; omega
  have d2 : decide ((64 : Int) < (n : Int)) = false := by simp; omega
  obtain ⟨m, hm, hm0⟩ : ∃ m : Nat, (64 : Int) - (n : Int) = (m : Int) ∧ m = 64 - n := ⟨64 - n, by omega, rfl⟩
  have F : Hid (IntKind.u64.wrap (wrap64 (IntKind.u64.wrap (x * 2 ^ m)) / 2 ^ m) = widen n x) := by
    show _ = _
    rw [hm0]; rfl
  clear hm0
  go_enter Tryz.func16, Tryz.ntmps16
  go_wp2_with fail
  go_ret
  exact ⟨by rw [← F.out]; rfl, rfl⟩

theorem l1Widen_any (x : Int) (n : Nat) (h1 : 1 ≤ n) (h2 : n ≤ 64) (w : World) :
    Calls Tryz.prog 194 #[.int .u64 x, .int .u64 n] w fun e w' => e = .returned (.int .u64 (widen n x)) ∧ w' = w := by
  obtain ⟨m, hm, hm0⟩ : ∃ m : Nat, (64 : Int) - (n : Int) = (m : Int) ∧ m = 64 - n := ⟨64 - n, by omega, rfl⟩
  have F : Hid (IntKind.u64.wrap (wrap64 (IntKind.u64.wrap (x * 2 ^ m)) / 2 ^ m) = widen n x) := by
    show _ = _
    rw [hm0]; rfl
  clear hm0
  have hm2 : IntKind.u64.wrap (m : Int) = m := by rw [IntKind.wrap_u64]; omega
  go_enter Tryz.func194, Tryz.ntmps194
  go_wp2_with fail
  go_ret
  exact ⟨by rw [← F.out]; rfl, rfl⟩

def U (x : Int) : Prop := 0 ≤ x ∧ x < 18446744073709551616

def bt (x : Int) (i : Nat) : Bool := (BitVec.ofInt 64 x).getLsbD i

theorem U_wrap (x : Int) : U (IntKind.u64.wrap x) := by
  rw [IntKind.wrap_u64]; exact ⟨Int.emod_nonneg _ (by omega), Int.emod_lt_of_pos _ (by omega)⟩

theorem U_bits (o : BinOp) (x y : Int) : U (bits o .u64 x y) := U_wrap _

theorem ofInt_wrap (x : Int) : BitVec.ofInt 64 (IntKind.u64.wrap x) = BitVec.ofInt 64 x := by
  rw [IntKind.wrap_u64]
  apply BitVec.eq_of_toInt_eq
  rw [BitVec.toInt_ofInt, BitVec.toInt_ofInt]
  exact Int.emod_bmod x (2 ^ 64)

theorem ofInt_bv (v : BitVec 64) : BitVec.ofInt 64 (IntKind.u64.wrap (v.toNat : Int)) = v := by
  rw [ofInt_wrap]
  simp

theorem bt_and (x y : Int) (i : Nat) : bt (bits .and .u64 x y) i = (bt x i && bt y i) := by
  show (BitVec.ofInt 64 (IntKind.u64.wrap ((BitVec.ofInt 64 x &&& BitVec.ofInt 64 y).toNat : Int))).getLsbD i = _
  rw [ofInt_bv]; simp [bt]

theorem bt_or (x y : Int) (i : Nat) : bt (bits .or .u64 x y) i = (bt x i || bt y i) := by
  show (BitVec.ofInt 64 (IntKind.u64.wrap ((BitVec.ofInt 64 x ||| BitVec.ofInt 64 y).toNat : Int))).getLsbD i = _
  rw [ofInt_bv]; simp [bt]

theorem bt_andNot (x y : Int) (i : Nat) (hi : i < 64) : bt (bits .andNot .u64 x y) i = (bt x i && !bt y i) := by
  show (BitVec.ofInt 64 (IntKind.u64.wrap ((BitVec.ofInt 64 x &&& ~~~BitVec.ofInt 64 y).toNat : Int))).getLsbD i = _
  rw [ofInt_bv]; simp [bt, hi]

theorem bt_nat (x : Int) (h : U x) (i : Nat) : bt x i = x.toNat.testBit i := by
  obtain ⟨h0, h1⟩ := h
  obtain ⟨n, rfl⟩ := Int.eq_ofNat_of_zero_le h0
  have hn : n < 2 ^ 64 := by omega
  unfold bt
  rw [← BitVec.testBit_toNat, ofInt_u64 n (by omega), Int.toNat_natCast]

theorem bt_ext (x y : Int) (hx : U x) (hy : U y) (h : ∀ i, i < 64 → bt x i = bt y i) : x = y := by
  have e : BitVec.ofInt 64 x = BitVec.ofInt 64 y := BitVec.eq_of_getLsbD_eq (fun i hi => h i hi)
  have e2 := congrArg BitVec.toNat e
  obtain ⟨h0, h1⟩ := hx
  obtain ⟨h2, h3⟩ := hy
  obtain ⟨n, rfl⟩ := Int.eq_ofNat_of_zero_le h0
  obtain ⟨m, rfl⟩ := Int.eq_ofNat_of_zero_le h2
  rw [ofInt_u64 n (by omega), ofInt_u64 m (by omega)] at e2
  rw [e2]

theorem U_div (x : Int) (h : U x) (k : Nat) : U (x / 2 ^ k) := by
  have hk : (0 : Int) < 2 ^ k := Int.pow_pos (by omega)
  exact ⟨Int.ediv_nonneg h.1 (by omega), Int.lt_of_le_of_lt (Int.ediv_le_self _ h.1) h.2⟩

theorem toNat_div (x : Int) (h : 0 ≤ x) (k : Nat) : (x / 2 ^ k).toNat = x.toNat / 2 ^ k := by
  obtain ⟨n, rfl⟩ := Int.eq_ofNat_of_zero_le h
  have : ((n : Int) / 2 ^ k) = ((n / 2 ^ k : Nat) : Int) := by simp
  rw [this, Int.toNat_natCast, Int.toNat_natCast]

theorem bt_div (x : Int) (h : U x) (k i : Nat) : bt (x / 2 ^ k) i = bt x (i + k) := by
  rw [bt_nat _ (U_div x h k), bt_nat _ h, toNat_div _ h.1, Nat.testBit_div_two_pow]

theorem bt_high (x : Int) (i : Nat) (hi : 64 ≤ i) : bt x i = false := by
  unfold bt
  exact BitVec.getLsbD_of_ge _ _ hi

theorem U_fld (x : Int) (k n : Nat) (hn : n < 64) : U (fld x k n) := by
  have := fld_bd x k n
  have h2 := pow_le n 63 (by omega)
  have e63 : (2 : Int) ^ 63 = 9223372036854775808 := by decide
  exact ⟨this.1, by omega⟩

theorem bt_fld (x : Int) (h : U x) (k n i : Nat) (hn : n < 64) : bt (fld x k n) i = (decide (i < n) && bt x (i + k)) := by
  rw [bt_nat _ (U_fld x k n hn), ← bt_div x h, bt_nat _ (U_div x h k)]
  unfold fld
  have hd := (U_div x h k).1
  obtain ⟨m, hm⟩ := Int.eq_ofNat_of_zero_le hd
  rw [hm]
  have : ((m : Int) % 2 ^ n) = ((m % 2 ^ n : Nat) : Int) := by simp
  rw [this, Int.toNat_natCast, Int.toNat_natCast, Nat.testBit_mod_two_pow]

theorem bt_shl (y : Int) (h : U y) (k i : Nat) : bt (IntKind.u64.wrap (y * 2 ^ k)) i = (decide (k ≤ i) && decide (i < 64) && bt y (i - k)) := by
  rw [bt_nat _ (U_wrap _), bt_nat _ h]
  obtain ⟨n, rfl⟩ := Int.eq_ofNat_of_zero_le h.1
  rw [IntKind.wrap_u64]
  have e : ((n : Int) * 2 ^ k) % 18446744073709551616 = ((n * 2 ^ k % 2 ^ 64 : Nat) : Int) := by simp
  rw [e, Int.toNat_natCast, Int.toNat_natCast, Nat.testBit_mod_two_pow, Nat.testBit_mul_two_pow]
  cases decide (i < 64) <;> cases decide (k ≤ i) <;> simp

def zeroF : Array Value := #[.int .u64 0, .int .i64 0, .bool false, .int .u64 0, .int .u64 0]

theorem hid_mk {p : Prop} (h : p) : Hid p := h

theorem wrapU (x : Int) : 0 ≤ IntKind.u64.wrap x ∧ IntKind.u64.wrap x < 18446744073709551616 := by
  rw [IntKind.wrap_u64]; exact ⟨Int.emod_nonneg _ (by omega), Int.emod_lt_of_pos _ (by omega)⟩

theorem bit_two (x : Int) (i : Nat) : bitAt x i = 0 ∨ bitAt x i = 1 := by
  have h : ∀ y : Int, bits .and .u64 y 1 = 0 ∨ bits .and .u64 y 1 = 1 := by
    intro y
    have e1 : ∀ i, i < 64 → ∀ (p o : Bool), ((if i = 0 then p else o) && bt 1 i) = bt (if p = true then 1 else 0) i := by decide +kernel
    have e : bits .and .u64 y 1 = if bt y 0 = true then 1 else 0 := by
      refine bt_ext _ _ (U_bits _ _ _) (by split <;> (constructor <;> decide)) fun i hi => ?_
      rw [bt_and, ← e1 i hi (bt y 0) (bt y i)]
      by_cases h0 : i = 0
      · subst h0; rfl
      · rw [if_neg h0]
    rw [e]; cases bt y 0
    · exact .inl rfl
    · exact .inr rfl
  exact h _

theorem w_zero {x : Int} (h : x = 0 ∨ x = 1) (e : (x == 1) = false) : (x == 0) = true := by
  rcases h with rfl | rfl
  · rfl
  · cases e

theorem okB_at {n : Nat} {x s : Int} (h : okB n x s = true) : 2147483648 ≤ x ∧ x - 2147483648 + s ≤ n := by
  unfold okB at h
  simp only [Bool.and_eq_true, decide_eq_true_eq] at h
  exact h.2

theorem fd_one (f : Fd) : f.cells.all (·.oneCell') = true := by simp [Fd.cells, Value.oneCell']

end Go.Proofs.YtilhcfhcdplicaaGreatDoor
