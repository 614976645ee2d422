/- The table of instructions as plain data, its two layouts in memory (the program's and the model's), and a run of literals in one go. -/
import Derived.WalkKit
import Derived.Great.BuildSlice
namespace Go.Proofs.YtaicnnkcdpdhaacDoor
set_option linter.unusedVariables false

/-- A form. -/
inductive Fm where | r | i | h | w | s | b | u | j | a | c | x
deriving DecidableEq

def Fm.str : Fm → ByteArray
  | .r => ⟨#[82]⟩ | .i => ⟨#[73]⟩ | .h => ⟨#[72]⟩ | .w => ⟨#[87]⟩ | .s => ⟨#[83]⟩ | .b => ⟨#[66]⟩ | .u => ⟨#[85]⟩ | .j => ⟨#[74]⟩ | .a => ⟨#[65]⟩ | .c => ⟨#[67]⟩ | .x => ⟨#[88]⟩

/-- A row of the table; f3 is below 0 where the form has none. -/
structure Row where
  name : ByteArray
  fm : Fm
  op : Int
  f3 : Int
  more : Int

def rows : List Row := [
  ⟨⟨#[108, 117, 105]⟩, .u, 55, (-1), 0⟩,
  ⟨⟨#[97, 117, 105, 112, 99]⟩, .u, 23, (-1), 0⟩,
  ⟨⟨#[106, 97, 108]⟩, .j, 111, (-1), 0⟩,
  ⟨⟨#[106, 97, 108, 114]⟩, .i, 103, 0, 0⟩,
  ⟨⟨#[98, 101, 113]⟩, .b, 99, 0, 0⟩,
  ⟨⟨#[98, 110, 101]⟩, .b, 99, 1, 0⟩,
  ⟨⟨#[98, 108, 116]⟩, .b, 99, 4, 0⟩,
  ⟨⟨#[98, 103, 101]⟩, .b, 99, 5, 0⟩,
  ⟨⟨#[98, 108, 116, 117]⟩, .b, 99, 6, 0⟩,
  ⟨⟨#[98, 103, 101, 117]⟩, .b, 99, 7, 0⟩,
  ⟨⟨#[108, 98]⟩, .i, 3, 0, 0⟩,
  ⟨⟨#[108, 104]⟩, .i, 3, 1, 0⟩,
  ⟨⟨#[108, 119]⟩, .i, 3, 2, 0⟩,
  ⟨⟨#[108, 100]⟩, .i, 3, 3, 0⟩,
  ⟨⟨#[108, 98, 117]⟩, .i, 3, 4, 0⟩,
  ⟨⟨#[108, 104, 117]⟩, .i, 3, 5, 0⟩,
  ⟨⟨#[108, 119, 117]⟩, .i, 3, 6, 0⟩,
  ⟨⟨#[115, 98]⟩, .s, 35, 0, 0⟩,
  ⟨⟨#[115, 104]⟩, .s, 35, 1, 0⟩,
  ⟨⟨#[115, 119]⟩, .s, 35, 2, 0⟩,
  ⟨⟨#[115, 100]⟩, .s, 35, 3, 0⟩,
  ⟨⟨#[97, 100, 100, 105]⟩, .i, 19, 0, 0⟩,
  ⟨⟨#[115, 108, 116, 105]⟩, .i, 19, 2, 0⟩,
  ⟨⟨#[115, 108, 116, 105, 117]⟩, .i, 19, 3, 0⟩,
  ⟨⟨#[120, 111, 114, 105]⟩, .i, 19, 4, 0⟩,
  ⟨⟨#[111, 114, 105]⟩, .i, 19, 6, 0⟩,
  ⟨⟨#[97, 110, 100, 105]⟩, .i, 19, 7, 0⟩,
  ⟨⟨#[115, 108, 108, 105]⟩, .h, 19, 1, 0⟩,
  ⟨⟨#[115, 114, 108, 105]⟩, .h, 19, 5, 0⟩,
  ⟨⟨#[115, 114, 97, 105]⟩, .h, 19, 5, 16⟩,
  ⟨⟨#[97, 100, 100, 105, 119]⟩, .i, 27, 0, 0⟩,
  ⟨⟨#[115, 108, 108, 105, 119]⟩, .w, 27, 1, 0⟩,
  ⟨⟨#[115, 114, 108, 105, 119]⟩, .w, 27, 5, 0⟩,
  ⟨⟨#[115, 114, 97, 105, 119]⟩, .w, 27, 5, 32⟩,
  ⟨⟨#[97, 100, 100]⟩, .r, 51, 0, 0⟩,
  ⟨⟨#[115, 117, 98]⟩, .r, 51, 0, 32⟩,
  ⟨⟨#[115, 108, 108]⟩, .r, 51, 1, 0⟩,
  ⟨⟨#[115, 108, 116]⟩, .r, 51, 2, 0⟩,
  ⟨⟨#[115, 108, 116, 117]⟩, .r, 51, 3, 0⟩,
  ⟨⟨#[120, 111, 114]⟩, .r, 51, 4, 0⟩,
  ⟨⟨#[115, 114, 108]⟩, .r, 51, 5, 0⟩,
  ⟨⟨#[115, 114, 97]⟩, .r, 51, 5, 32⟩,
  ⟨⟨#[111, 114]⟩, .r, 51, 6, 0⟩,
  ⟨⟨#[97, 110, 100]⟩, .r, 51, 7, 0⟩,
  ⟨⟨#[97, 100, 100, 119]⟩, .r, 59, 0, 0⟩,
  ⟨⟨#[115, 117, 98, 119]⟩, .r, 59, 0, 32⟩,
  ⟨⟨#[115, 108, 108, 119]⟩, .r, 59, 1, 0⟩,
  ⟨⟨#[115, 114, 108, 119]⟩, .r, 59, 5, 0⟩,
  ⟨⟨#[115, 114, 97, 119]⟩, .r, 59, 5, 32⟩,
  ⟨⟨#[109, 117, 108]⟩, .r, 51, 0, 1⟩,
  ⟨⟨#[109, 117, 108, 104]⟩, .r, 51, 1, 1⟩,
  ⟨⟨#[109, 117, 108, 104, 115, 117]⟩, .r, 51, 2, 1⟩,
  ⟨⟨#[109, 117, 108, 104, 117]⟩, .r, 51, 3, 1⟩,
  ⟨⟨#[100, 105, 118]⟩, .r, 51, 4, 1⟩,
  ⟨⟨#[100, 105, 118, 117]⟩, .r, 51, 5, 1⟩,
  ⟨⟨#[114, 101, 109]⟩, .r, 51, 6, 1⟩,
  ⟨⟨#[114, 101, 109, 117]⟩, .r, 51, 7, 1⟩,
  ⟨⟨#[109, 117, 108, 119]⟩, .r, 59, 0, 1⟩,
  ⟨⟨#[100, 105, 118, 119]⟩, .r, 59, 4, 1⟩,
  ⟨⟨#[100, 105, 118, 117, 119]⟩, .r, 59, 5, 1⟩,
  ⟨⟨#[114, 101, 109, 119]⟩, .r, 59, 6, 1⟩,
  ⟨⟨#[114, 101, 109, 117, 119]⟩, .r, 59, 7, 1⟩,
  ⟨⟨#[108, 114, 46, 119]⟩, .a, 47, 2, 2⟩,
  ⟨⟨#[115, 99, 46, 119]⟩, .a, 47, 2, 3⟩,
  ⟨⟨#[97, 109, 111, 115, 119, 97, 112, 46, 119]⟩, .a, 47, 2, 1⟩,
  ⟨⟨#[97, 109, 111, 97, 100, 100, 46, 119]⟩, .a, 47, 2, 0⟩,
  ⟨⟨#[97, 109, 111, 120, 111, 114, 46, 119]⟩, .a, 47, 2, 4⟩,
  ⟨⟨#[97, 109, 111, 97, 110, 100, 46, 119]⟩, .a, 47, 2, 12⟩,
  ⟨⟨#[97, 109, 111, 111, 114, 46, 119]⟩, .a, 47, 2, 8⟩,
  ⟨⟨#[97, 109, 111, 109, 105, 110, 46, 119]⟩, .a, 47, 2, 16⟩,
  ⟨⟨#[97, 109, 111, 109, 97, 120, 46, 119]⟩, .a, 47, 2, 20⟩,
  ⟨⟨#[97, 109, 111, 109, 105, 110, 117, 46, 119]⟩, .a, 47, 2, 24⟩,
  ⟨⟨#[97, 109, 111, 109, 97, 120, 117, 46, 119]⟩, .a, 47, 2, 28⟩,
  ⟨⟨#[108, 114, 46, 100]⟩, .a, 47, 3, 2⟩,
  ⟨⟨#[115, 99, 46, 100]⟩, .a, 47, 3, 3⟩,
  ⟨⟨#[97, 109, 111, 115, 119, 97, 112, 46, 100]⟩, .a, 47, 3, 1⟩,
  ⟨⟨#[97, 109, 111, 97, 100, 100, 46, 100]⟩, .a, 47, 3, 0⟩,
  ⟨⟨#[97, 109, 111, 120, 111, 114, 46, 100]⟩, .a, 47, 3, 4⟩,
  ⟨⟨#[97, 109, 111, 97, 110, 100, 46, 100]⟩, .a, 47, 3, 12⟩,
  ⟨⟨#[97, 109, 111, 111, 114, 46, 100]⟩, .a, 47, 3, 8⟩,
  ⟨⟨#[97, 109, 111, 109, 105, 110, 46, 100]⟩, .a, 47, 3, 16⟩,
  ⟨⟨#[97, 109, 111, 109, 97, 120, 46, 100]⟩, .a, 47, 3, 20⟩,
  ⟨⟨#[97, 109, 111, 109, 105, 110, 117, 46, 100]⟩, .a, 47, 3, 24⟩,
  ⟨⟨#[97, 109, 111, 109, 97, 120, 117, 46, 100]⟩, .a, 47, 3, 28⟩,
  ⟨⟨#[102, 101, 110, 99, 101]⟩, .i, 15, 0, 0⟩,
  ⟨⟨#[102, 101, 110, 99, 101, 46, 105]⟩, .i, 15, 1, 0⟩,
  ⟨⟨#[99, 115, 114, 114, 119]⟩, .c, 115, 1, 0⟩,
  ⟨⟨#[99, 115, 114, 114, 115]⟩, .c, 115, 2, 0⟩,
  ⟨⟨#[99, 115, 114, 114, 99]⟩, .c, 115, 3, 0⟩,
  ⟨⟨#[99, 115, 114, 114, 119, 105]⟩, .c, 115, 5, 0⟩,
  ⟨⟨#[99, 115, 114, 114, 115, 105]⟩, .c, 115, 6, 0⟩,
  ⟨⟨#[99, 115, 114, 114, 99, 105]⟩, .c, 115, 7, 0⟩,
  ⟨⟨#[101, 99, 97, 108, 108]⟩, .x, 115, 0, 0⟩,
  ⟨⟨#[101, 98, 114, 101, 97, 107]⟩, .x, 115, 0, 1⟩,
  ⟨⟨#[115, 114, 101, 116]⟩, .x, 115, 0, 258⟩,
  ⟨⟨#[109, 114, 101, 116]⟩, .x, 115, 0, 770⟩,
  ⟨⟨#[119, 102, 105]⟩, .x, 115, 0, 261⟩,
  ⟨⟨#[115, 102, 101, 110, 99, 101, 46, 118, 109, 97]⟩, .r, 115, 0, 9⟩]

def Row.f3z (r : Row) : Int := if r.f3 < 0 then 0 else r.f3

/-- A row's cells, as the program lays them. -/
def Row.cellsI (r : Row) : List Value := [.string r.name, .string r.fm.str, .int .u64 r.op, .int .u64 r.f3z, .int .u64 r.more]

/-- The same, as the model lays them. -/
def Row.cellsS (r : Row) : List Value := [.string r.name, .string r.fm.str, .int .u64 r.op, .int .i64 r.f3, .int .u64 r.more]

def cellsI : Array Value := (rows.flatMap Row.cellsI).toArray

def cellsS : Array Value := (rows.flatMap Row.cellsS).toArray

theorem rows_len : rows.length = 98 := by rfl

/-- Pieces of one length laid one behind the other: the k-th. -/
theorem flat_drop {α β : Type} (f : α → List β) (m : Nat) : ∀ (l : List α), (∀ x ∈ l, (f x).length = m) → ∀ k (h : k < l.length), ((l.flatMap f).drop (k * m)).take m = f l[k] := by
  intro l
  induction l with
  | nil => intro _ k h; simp at h
  | cons x l ih =>
    intro hl k h
    have hx : (f x).length = m := hl x (by simp)
    cases k with
    | zero => simp [← hx]
    | succ k =>
      have e : (k + 1) * m = (f x).length + k * m := by rw [hx, Nat.succ_mul]; omega
      rw [e, List.flatMap_cons, List.drop_append, List.drop_of_length_le (by omega), Nat.add_sub_cancel_left]
      exact ih (fun y hy => hl y (by simp [hy])) k (by simpa using h)

theorem flat_get {α β : Type} (f : α → List β) (m : Nat) (l : List α) (hl : ∀ x ∈ l, (f x).length = m) (k : Nat) (h : k < l.length) (j : Nat) (hj : j < m) : (l.flatMap f)[k * m + j]? = (f l[k])[j]? := by
  rw [← flat_drop f m l hl k h]
  simp [hj]

def rowAt (k : Nat) : Row := rows.getD k ⟨⟨#[]⟩, .x, 0, 0, 0⟩

theorem rowAt_get (k : Nat) (h : k < 98) : rows[k]'(by rw [rows_len]; exact h) = rowAt k := by
  simp [rowAt, List.getD, List.getElem?_eq_getElem (show k < rows.length by rw [rows_len]; exact h)]

theorem cellsI_part (k : Nat) (h : k < 98) : cellsI.extract (k * 5) (k * 5 + 5) = (rowAt k).cellsI.toArray := by
  have := flat_drop Row.cellsI 5 rows (by intro x _; rfl) k (by rw [rows_len]; exact h)
  rw [rowAt_get k h] at this
  rw [← this]
  simp [cellsI]

theorem cellsI_size : cellsI.size = 490 := by kernel_rfl

theorem cellsS_size : cellsS.size = 490 := by kernel_rfl

theorem cellsS_at (k : Nat) (h : k < 98) (j : Nat) (hj : j < 5) : cellsS[k * 5 + j]? = (rowAt k).cellsS[j]? := by
  have := flat_get Row.cellsS 5 rows (by intro x _; rfl) k (by rw [rows_len]; exact h) j hj
  rw [rowAt_get k h] at this
  rw [← this]
  simp [cellsS]

section
variable {P : Program}

/-- Literals one behind the other: what the frame comes to. -/
def builds (P : Program) : List Oper → Act → Option Act
  | [], a => some a
  | o :: l, a =>
    match o.guard, o.op with
    | none, .build t parts =>
      match P.built t (parts.map fun (i, x) => (i, a.eval x)).toList with
      | some cells => builds P l (a.put o.dst (.agg cells))
      | none => none
    | _, _ => none

theorem wpList_builds {ops : Array Oper} {Q : Exit → Act → World → Prop} {w : World} : ∀ (l rest : List Oper) (a a' : Act), builds P l a = some a' → wpList P ops Q rest a' w → wpList P ops Q (l ++ rest) a w := by
  intro l
  induction l with
  | nil => intro rest a a' h hr; simp [builds] at h; subst h; exact hr
  | cons o l ih =>
    intro rest a a' h hr
    unfold builds at h
    split at h
    · rename_i t parts hg ho
      split at h
      · rename_i cells hc
        exact wpList_buildTo hg t parts ho o.dst rfl cells hc (ih _ _ _ h hr)
      · cases h
    · cases h

/-- The same: the first n operations are literals; of the frame behind them two slots are told. -/
theorem wpList_buildsTo {ops : Array Oper} {Q : Exit → Act → World → Prop} {w : World} {l : List Oper} {a : Act} (n s t : Nat) (v x : Value)
    (h : (builds P (l.take n) a).map (fun a' => (a'.tmps.getD s undef, a'.tmps.getD t undef, a'.defers)) = some (v, x, []))
    (hr : ∀ a' : Act, a'.tmps.getD s undef = v → a'.tmps.getD t undef = x → a'.defers = [] → wpList P ops Q (l.drop n) a' w) : wpList P ops Q l a w := by
  rw [← List.take_append_drop n l]
  cases hb : builds P (l.take n) a with
  | none => rw [hb] at h; cases h
  | some a' =>
    rw [hb] at h
    simp only [Option.map_some, Option.some.injEq, Prod.mk.injEq] at h
    exact wpList_builds _ _ _ _ hb (hr a' h.1 h.2.1 h.2.2)
end

end Go.Proofs.YtaicnnkcdpdhaacDoor
