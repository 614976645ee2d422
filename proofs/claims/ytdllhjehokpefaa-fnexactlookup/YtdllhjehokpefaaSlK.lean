/- The program's map of frames: a map whose keys are structs. -/
import Derived.Test.YtdllhjehokpefaaSlJ
import Derived.ChangeMaps5
namespace Go.Proofs.Ytdllhjehokpefaa
open Go.RowKit
set_option linter.unusedVariables false

theorem key_stood : Try.prog.stoodInHeld 57 = false := by kernel_rfl

set_option maxHeartbeats 400000 in
theorem run_eqKey (a b c a' b' c' : Int) (w : World) : (Op.equal 57 (keyV a b c) (keyV a' b' c')).run Try.prog w = .ok (a == a' && b == b' && c == c') w := by
  have e1 : Op.equal 57 (keyV a b c) (keyV a' b' c') = Op.equalIn (9999 + 1) 57 (keyV a b c) (keyV a' b' c') := rfl
  rw [e1]
  simp only [keyV]
  rw [run_equalIn_struct w 9999 _ _ _ (by rw [Program.fieldsOf, Try.underlying57]) key_stood]
  simp only [Program.fieldsOf, Try.underlying57]
  have PI : ∀ (k : Nat) (x1 x2 x3 v : Value), (#[x1, x2, x3] : Array Value)[k]? = some v → ∀ w, (part 2 #[x1, x2, x3] k).run Try.prog w = .ok v w := by
    intro k x1 x2 x3 v h w
    simp [part, isAgg, run_underlying Try.underlying2, h]
  have PU : ∀ (k : Nat) (x1 x2 x3 v : Value), (#[x1, x2, x3] : Array Value)[k]? = some v → ∀ w, (part 27 #[x1, x2, x3] k).run Try.prog w = .ok v w := by
    intro k x1 x2 x3 v h w
    simp [part, isAgg, run_underlying Try.underlying27, h]
  have QI : ∀ (x y : Int) (w : World), (Op.equalIn 9999 2 (.int .i64 x) (.int .i64 y)).run Try.prog w = .ok (x == y) w := fun x y w => run_equalIn_int w 9998 2 .i64 .i64 x y Try.underlying2
  have QU : ∀ (x y : Int) (w : World), (Op.equalIn 9999 27 (.int .u64 x) (.int .u64 y)).run Try.prog w = .ok (x == y) w := fun x y w => run_equalIn_int w 9998 27 .u64 .u64 x y Try.underlying27
  simp [Op.eqFields, Sem.run_bind, PI 0 _ _ _ _ rfl, PI 1 _ _ _ _ rfl, PU 2 _ _ _ _ rfl, QI, QU]
  by_cases h1 : a = a' <;> by_cases h2 : b = b' <;> by_cases h3 : c = c' <;> simp [h1, h2, h3]

/-- What the map holds for a list of used slots. -/
def fEnt (s : Slt) (i : Nat) : MapEntry := { key := keyV s.k s.p s.g, val := .int .u64 s.f, born := i }

def fEs (l : List Slt) : Array MapEntry := ((l.zipIdx 0).map fun q => fEnt q.1 q.2).toArray

theorem fEs_push (l : List Slt) (s : Slt) : fEs (l ++ [s]) = (fEs l).push (fEnt s l.length) := by
  simp [fEs, List.zipIdx_append]

theorem run_findF (k p g : Int) (w : World) : ∀ (l : List Slt) (m n : Nat),
    (Instr.findAsking 57 (keyV k p g) ((l.zipIdx m).map fun q => fEnt q.1 q.2) n).run Try.prog w = .ok ((l.zipIdx n).findSome? fun q => if (k == q.1.k && p == q.1.p && g == q.1.g) = true then some (q.2, Value.int .u64 q.1.f) else none) w := by
  intro l
  induction l with
  | nil => intro m n; simp [Instr.findAsking]
  | cons s l ih =>
    intro m n
    simp only [List.zipIdx_cons, List.map_cons, fEnt, Instr.findAsking, Sem.run_bind, run_eqKey, Result.andThen_ok, List.findSome?_cons]
    cases h : (k == s.k && p == s.p && g == s.g)
    · simp only [Bool.false_eq_true, if_false]
      exact ih (m + 1) (n + 1)
    · simp

theorem run_findKeyF (k p g : Int) (l : List Slt) (w : World) :
    (Instr.findKey 57 (keyV k p g) (fEs l).toList).run Try.prog w = .ok ((l.zipIdx 0).findSome? fun q => if (k == q.1.k && p == q.1.p && g == q.1.g) = true then some (q.2, Value.int .u64 q.1.f) else none) w := by
  have h := run_findF k p g w l 0 0
  unfold Instr.findKey
  rw [Sem.run_bind, run_underlying Try.underlying57, Result.andThen_ok]
  simp only [fEs]
  cases l with
  | nil => simp [Instr.findNow]
  | cons s l =>
    simp only [List.zipIdx_cons, List.map_cons, Instr.findNow, Instr.sameNow, fEnt, keyV] at h ⊢
    exact h

theorem find_zip (P : Slt → Bool) : ∀ (l : List Slt) (n : Nat), ((l.zipIdx n).findSome? fun q => if P q.1 = true then some (q.2, Value.int .u64 q.1.f) else none) = none ↔ l.find? P = none := by
  intro l
  induction l with
  | nil => intro n; simp
  | cons s l ih =>
    intro n
    simp only [List.zipIdx_cons, List.findSome?_cons, List.find?_cons]
    cases h : P s
    · simpa using ih (n + 1)
    · simp

theorem find_zip_some (P : Slt → Bool) : ∀ (l : List Slt) (n : Nat) (s : Slt), l.find? P = some s → ∃ i, ((l.zipIdx n).findSome? fun q => if P q.1 = true then some (q.2, Value.int .u64 q.1.f) else none) = some (i, Value.int .u64 s.f) := by
  intro l
  induction l with
  | nil => intro n s h; simp at h
  | cons t l ih =>
    intro n s h
    simp only [List.zipIdx_cons, List.findSome?_cons, List.find?_cons] at h ⊢
    cases hp : P t
    · rw [hp] at h
      simpa using ih (n + 1) s h
    · rw [hp] at h
      simp at h
      subst h
      exact ⟨n, by simp⟩

theorem run_checkKeyF (e : Bool) (k p g : Int) (w : World) : (Instr.checkKey e 10000 57 (keyV k p g)).run Try.prog w = .ok () w := by kernel_rfl

theorem run_updF (w : World) (bm : Nat) (l : List Slt) (s : Slt) (hb : w.heap[bm]? = some (.map (fEs l) l.length)) (hnew : ∀ t ∈ l, (s.k == t.k && s.p == t.p && s.g == t.g) = false) :
    (Instr.mapUpdate 66 (.map (some bm)) (keyV s.k s.p s.g) (.int .u64 s.f)).run Try.prog w = .ok () (ChangeMaps.setBlock w bm (.map (fEs (l ++ [s])) (l ++ [s]).length)) := by
  have hf : (Instr.findKey 57 (keyV s.k s.p s.g) (fEs l).toList).run Try.prog w = .ok none w := by
    rw [run_findKeyF, (find_zip (fun t => s.k == t.k && s.p == t.p && s.g == t.g) l 0).2]
    rw [List.find?_eq_none]
    intro t ht
    rw [hnew t ht]
    simp
  rw [fEs_push]
  simp only [keyV] at hf
  have hc := run_checkKeyF
  simp only [keyV] at hc
  simp [keyV, fEnt, Instr.mapUpdate, run_underlying Try.underlying66, MapKept.run_getObj_map hb, hc, hf, MapKept.run_setObj_map _ hb, Result.andThen, ChangeMaps.setBlock]

theorem run_lookF (w : World) (bm : Nat) (l : List Slt) (k p g : Int) (clock : Nat) (hb : w.heap[bm]? = some (.map (fEs l) clock)) :
    (Instr.lookup 66 (.map (some bm)) (keyV k p g) true).run Try.prog w = .ok (.tuple #[.int .u64 (((findS l k p g).map (·.f)).getD 0), .bool (findS l k p g).isSome]) w := by
  have hf := run_findKeyF k p g l w
  have hc := run_checkKeyF
  simp only [keyV] at hf hc ⊢
  cases h : findS l k p g with
  | none =>
    rw [(find_zip (fun t => k == t.k && p == t.p && g == t.g) l 0).2 h] at hf
    simp [Instr.lookup, run_underlying Try.underlying66, MapKept.run_getObj_map hb, hc, hf]
  | some s =>
    obtain ⟨i, hi⟩ := find_zip_some (fun t => k == t.k && p == t.p && g == t.g) l 0 s h
    rw [hi] at hf
    simp [Instr.lookup, run_underlying Try.underlying66, MapKept.run_getObj_map hb, hc, hf]

end Go.Proofs.Ytdllhjehokpefaa
