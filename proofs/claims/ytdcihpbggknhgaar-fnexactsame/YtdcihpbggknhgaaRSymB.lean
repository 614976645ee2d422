/- A walk by reckoning: functions that lay their arguments into variables and change no memory. -/
import Derived.Test.YtdcihpbggknhgaaRSymE
import Derived.Test.YtdcihpbggknhgaaRDevC
namespace Go.Proofs.YtdcihpbggknhgaaR
open Go.RowKit
set_option linter.unusedVariables false

/-- The variables that were made stay, and all that was there. -/
def Bs (w : World) (bs : List (Array Value × TypeId)) (W : World) : Prop := (∀ i x, bs[i]? = some x → W.heap[w.heap.size + i]? = some (.cells x.1 x.2 (0, 0))) ∧ Below w.heap.size w W

theorem Bs.below {w W W' : World} {bs : List (Array Value × TypeId)} (h : Bs w bs W) (hb : Below W.heap.size W W') : Bs w bs W' := ⟨fun i x hx => dstays hb (h.1 i x hx), below_trans h.2 hb⟩

theorem Bs.start (w : World) (bs : List (Array Value × TypeId)) : Bs w bs (allocs w bs) := by
  have key : ∀ (l : List (Array Value × TypeId)) (v : World), Below w.heap.size w v → (∀ i x, l[i]? = some x → (allocs v l).heap[v.heap.size + i]? = some (.cells x.1 x.2 (0, 0))) ∧ Below v.heap.size v (allocs v l) := by
    intro l
    induction l with
    | nil => intro v _; exact ⟨fun i x h => by simp at h, Below.refl _ _⟩
    | cons y l ih =>
      intro v hv
      have hb := (Below.refl v.heap.size v).alloc (Nat.le_refl _) (.cells y.1 y.2)
      obtain ⟨h1, h2⟩ := ih (v.alloc (.cells y.1 y.2)) (below_trans hv hb)
      refine ⟨fun i x hx => ?_, below_trans hb h2⟩
      cases i with
      | zero =>
        simp only [List.getElem?_cons_zero, Option.some.injEq] at hx
        subst hx
        exact dstays h2 (heap_alloc_new _ _)
      | succ i =>
        have := h1 i x (by simpa using hx)
        rw [World.size_alloc] at this
        rw [show v.heap.size + (i + 1) = v.heap.size + 1 + i by omega]
        exact this
  exact ⟨(key bs w (Below.refl _ _)).1, (key bs w (Below.refl _ _)).2⟩

def rwsOf (N : Nat) : List (Array Value × TypeId) → List Rw
  | [] => []
  | x :: l => ⟨N, x.1, []⟩ :: rwsOf (N + 1) l

theorem rwsOf_mem {r : Rw} : ∀ {l : List (Array Value × TypeId)} {N : Nat}, r ∈ rwsOf N l → ∃ i x, l[i]? = some x ∧ r.b = N + i ∧ r.cs = x.1
  | [], _, h => by cases h
  | y :: l, N, h => by
    rcases List.mem_cons.1 h with rfl | h
    · exact ⟨0, y, rfl, rfl, rfl⟩
    · obtain ⟨i, x, h1, h2, h3⟩ := rwsOf_mem h
      exact ⟨i + 1, x, by simpa using h1, by omega, h3⟩

theorem Bs.eng {P : Program} {fn : Func} {Rs : Ending → World → Prop} {w : World} {bs : List (Array Value × TypeId)} : Eng P (Bs w bs) (rwsOf w.heap.size bs) true (bodyPost P fn Rs) :=
  ⟨fun W h r hr => by
    obtain ⟨i, x, h1, h2, h3⟩ := rwsOf_mem hr
    exact ⟨_, _, by rw [h2, h3]; exact h.1 i x h1⟩, fun _ W h => h.below (Below.refl _ _).drew, pan_body⟩

/-- A call that leaves all that was there. -/
def cvW {P : Program} {w : World} {bs : List (Array Value × TypeId)} {f : Nat} {args : Array Value} {v : Value} (h : ∀ W, Below w.heap.size w W → Calls P f args W fun e w' => e = .returned v ∧ Below W.heap.size W w') : Cv P (Bs w bs) := ⟨f, args, v, 0, fun W hS => (h W hS.2).mono fun e w' k => ⟨k.1, hS.below k.2⟩⟩

/-- A call that changes nothing. -/
def cvE {P : Program} {w : World} {bs : List (Array Value × TypeId)} {f : Nat} {args : Array Value} {v : Value} (h : ∀ W, Below w.heap.size w W → Calls P f args W fun e w' => e = .returned v ∧ w' = W) : Cv P (Bs w bs) := ⟨f, args, v, 0, fun W hS => (h W hS.2).mono fun e w' k => ⟨k.1, by rw [k.2]; exact hS⟩⟩

/-- A load of one cell. -/
def ovL {P : Program} {S : World → Prop} {T : TypeId} {d : TypeDesc} (p : Addr) (v : Value) (hu : P.underlying T = some d) (hd : (match d with | .struct _ | .array _ _ => true | _ => false) = false) (h : ∀ W, S W → W.cell? p = some v) : Ov P S :=
  ⟨do pure (.value (← Instr.loadAt T (.pointer (some p)))), v, 0, fun W hS => by
    have hc := h W hS
    cases d <;> simp_all [Instr.loadAt, Instr.sureAddr, loadVar, isAgg, underlying, program, load, Sem.run, Bind.bind, Sem.bind, Pure.pure]⟩

/-- An element's place. -/
def ovX {P : Program} {S : World → Prop} {T E : TypeId} {a : Option Addr} {b o : Nat} (n c : Nat) (k : IntKind) (i : Int) (ha : a = some ⟨b, o, none⟩) (hi : 0 ≤ i ∧ i < n) (hu : P.underlying T = some (.slice E)) (hz : (P.info? E).map (·.size) = some 1) : Ov P S :=
  ⟨do pure (.value (← Instr.indexAt T (.slice a n c) (.int k i))), .pointer (some ⟨b, o + i.toNat, none⟩), 0, fun W hS => by
    subst ha
    obtain ⟨info, h1, h2⟩ := Option.map_eq_some_iff.1 hz
    simp [Instr.indexAt, asIntOf, underlying, program, sizeOf, typeInfo, hu, h1, h2, hi, Addr.add, Sem.run, Bind.bind, Sem.bind, Pure.pure]⟩

end Go.Proofs.YtdcihpbggknhgaaR
