/- Contracts by the table: rows, names, forms, Ops of names. -/
import Derived.Test.YtaicnnkcdpdhaajDoorTableC
namespace Go.Proofs.YtaicnnkcdpdhaajDoor
open Go.RowKit
set_option linter.unusedVariables false

/-- The number is an Op of the table. -/
def opB (op : Int) : Bool := decide (1 ≤ op ∧ op ≤ 98)

def nameOf (op : Int) : ByteArray := if opB op then (rowAt (op - 1).toNat).name else ⟨#[]⟩

def formOf (op : Int) : ByteArray := if opB op then (rowAt (op - 1).toNat).fm.str else ⟨#[]⟩

/-- A row's value, and that of no row. -/
def Row.val (r : Row) : Value := .agg #[.string r.name, .string r.fm.str, .int .u64 r.op, .int .u64 r.f3z, .int .u64 r.more]

def noRow : Value := .agg #[.string ⟨#[]⟩, .string ⟨#[]⟩, .int .u64 0, .int .u64 0, .int .u64 0]

/-- What a row's look-up hands back. -/
def rowV (op : Int) : Value := if opB op then (rowAt (op - 1).toNat).val else noRow

theorem rowV_false {op : Int} (h : opB op = false) : rowV op = noRow := by simp [rowV, h]

theorem rowV_true {k : Nat} (h : opB ((k : Int) + 1) = true) : rowV ((k : Int) + 1) = (rowAt k).val := by simp [rowV, h]

theorem results_row2 {P : Program} {fn : Func} {p u : Tmp} {ty : TypeId} (h : fn.results = #[.cell p ty, .tmp u]) (tmps : Array Value) (w : World) (g : Nat) (t : TypeId) (cs : Array Value) (fr : Nat × Nat) (d : TypeDesc)
    (hp : tmps.getD p undef = .pointer (some ⟨g, 0, none⟩)) (hg : w.heap[g]? = some (.cells cs t fr))
    (hu : P.underlying ty = some d) (hd : (match d with | .struct _ | .array _ _ => true | _ => false) = true) (hi : (P.info? ty).map (·.size) = some cs.size) :
    (results fn tmps).run P w = .ok (.tuple #[.agg cs, tmps.getD u undef]) w := by
  rw [results_cell_tmp h, hp]
  simp [asAddr, run_loadVar_row w g t ty cs fr d hg hu hd hi]

theorem rowV_parts (op : Int) : ∃ r1 r2 r3 r4 r5, rowV op = .agg #[.string r1, .string r2, .int .u64 r3, .int .u64 r4, .int .u64 r5] ∧ Hid (r1 = nameOf op) ∧ Hid (r2 = formOf op) := by
  cases h : opB op with
  | true => exact ⟨_, _, _, _, _, by simp [rowV, h]; rfl, (by simp [nameOf, h] : (rowAt (op - 1).toNat).name = nameOf op), (by simp [formOf, h] : (rowAt (op - 1).toNat).fm.str = formOf op)⟩
  | false => exact ⟨_, _, _, _, _, by simp [rowV, h]; rfl, (by simp [nameOf, h] : (⟨#[]⟩ : ByteArray) = nameOf op), (by simp [formOf, h] : (⟨#[]⟩ : ByteArray) = formOf op)⟩

theorem row_one (r : Row) : (#[Value.string r.name, .string r.fm.str, .int .u64 r.op, .int .u64 r.f3z, .int .u64 r.more] : Array Value).all (·.oneCell') = true := by
  simp [Value.oneCell']

theorem l1In_any (x a b : Int) (w : World) : Calls Tryd.prog 15 #[.int .i64 x, .int .i64 a, .int .i64 b] w fun e w' => e = .returned (.bool (decide (a ≤ x ∧ x ≤ b))) ∧ w' = w := by
  by_cases h1 : a ≤ x
  · by_cases h2 : x ≤ b
    · have F : Hid (decide (a ≤ x ∧ x ≤ b) = true) := by show decide (a ≤ x ∧ x ≤ b) = true; simp [h1, h2]
      have d1 : decide (a ≤ x) = true := by simpa using h1
      have d2 : decide (x ≤ b) = true := by simpa using h2
      clear h1 h2
      go_enter Tryd.func15, Tryd.ntmps15
      go_wp2
      go_ret
      exact ⟨by rw [F.out]; rfl, rfl⟩
    · have F : Hid (decide (a ≤ x ∧ x ≤ b) = false) := by show decide (a ≤ x ∧ x ≤ b) = false; simp [h2]
      have d1 : decide (a ≤ x) = true := by simpa using h1
      have d2 : decide (x ≤ b) = false := by simpa using h2
      clear h1 h2
      go_enter Tryd.func15, Tryd.ntmps15
      go_wp2
      go_ret
      exact ⟨by rw [F.out]; rfl, rfl⟩
  · have F : Hid (decide (a ≤ x ∧ x ≤ b) = false) := by show decide (a ≤ x ∧ x ≤ b) = false; simp [h1]
    have d1 : decide (a ≤ x) = false := by simpa using h1
    clear h1
    go_enter Tryd.func15, Tryd.ntmps15
    go_wp2
    go_ret
    exact ⟨by rw [F.out]; rfl, rfl⟩

/-- The model's table lies in block g. -/
def TabS (w : World) (g : Nat) : Prop := g < w.heap.size ∧ ∀ k, k < 98 → ∀ r, r = rowAt k → w.cell? ⟨g, k * 5, none⟩ = some (.string r.name) ∧ w.cell? ⟨g, k * 5 + 1, none⟩ = some (.string r.fm.str) ∧
  w.cell? ⟨g, k * 5 + 2, none⟩ = some (.int .u64 r.op) ∧ w.cell? ⟨g, k * 5 + 3, none⟩ = some (.int .i64 r.f3) ∧ w.cell? ⟨g, k * 5 + 4, none⟩ = some (.int .u64 r.more)

theorem TabS.below {w w' : World} {g : Nat} (h : TabS w g) {B : Nat} (hg : g < B) (hb : Below B w w') : TabS w' g := by
  refine ⟨Nat.lt_of_lt_of_le h.1 hb.size, fun k hk r hr => ?_⟩
  have H := h.2 k hk r hr
  have e : ∀ o, w'.cell? ⟨g, o, none⟩ = w.cell? ⟨g, o, none⟩ := fun o => hb.cell (p := ⟨g, o, none⟩) hg
  rw [e, e, e, e, e]; exact H

/-- The first row of that name from row k on, n rows being left: its Op; 0 if there is none. -/
def findName (s : ByteArray) : Nat → Nat → Int
  | 0, _ => 0
  | n + 1, k => if ((rowAt k).name.toList == s.toList) = true then (k : Int) + 1 else findName s n (k + 1)

theorem findName_hit (s : ByteArray) (k : Nat) (hk : k < 98) (h : ((rowAt k).name.toList == s.toList) = true) : findName s (98 - k) k = (k : Int) + 1 := by
  rw [show 98 - k = (98 - (k + 1)) + 1 from by omega, findName, if_pos h]

theorem findName_miss (s : ByteArray) (k : Nat) (hk : k < 98) (h : ((rowAt k).name.toList == s.toList) = false) : findName s (98 - k) k = findName s (98 - (k + 1)) (k + 1) := by
  rw [show 98 - k = (98 - (k + 1)) + 1 from by omega, findName, if_neg (by rw [h]; decide)]

end Go.Proofs.YtaicnnkcdpdhaajDoor
