/- Reading a line, in plain words: a machine of three states; a scope with several labels. -/
import Derived.Test.YtjjpklalihaanaaDoorRunC
import Derived.ScopeJumps
import Derived.WalkMore
import Derived.Laws.Cover4
import Derived.Laws.IdiomStrings
namespace Go.Proofs.YtjjpklalihaanaaDoor
open Go.RowKit
set_option linter.unusedVariables false

/-- As Q; by a goto: J of its label. -/
def jumpsTo (J : Nat → Act → World → Prop) (Q : Exit → Act → World → Prop) : Exit → Act → World → Prop
  | .goto l, a, w => J l a w
  | e, a, w => Q e a w

/-- A scope in which the run jumps to labels: what holds at every jump (J label measure), and that every pass lowers the measure. -/
theorem wp_scope_labels {P : Program} {a : Act} {w : World} {Q : Exit → Act → World → Prop} {c : Code} (J : Nat → Nat → Act → World → Prop)
    (first : c.wp P (jumpsTo (fun l a w => ∃ m, J l m a w) Q) a w)
    (pass : ∀ l m a w, J l m a w → ∃ rest, findLabel c l = some rest ∧ rest.wp P (jumpsTo (fun l' a' w' => ∃ m', m' < m ∧ J l' m' a' w') Q) a w) : (Code.scope c).wp P Q a w := by
  intro b k cs
  have key : ∀ n l a w, J l n a w → ∃ rest, findLabel c l = some rest ∧ ∃ e a' w', Q e a' w' ∧ Arrives P (lone (b.at a (.code rest :: .inScope c :: k)) cs w) b k cs e a' w' := by
    intro n
    induction n using Nat.strongRecOn with
    | _ n ih =>
      intro l a w hJ
      obtain ⟨rest, hf, hp⟩ := pass l n a w hJ
      refine ⟨rest, hf, ?_⟩
      obtain ⟨e, a₁, w₁, hq, harr⟩ := hp b (.inScope c :: k) cs
      cases e with
      | normal => exact ⟨.normal, a₁, w₁, hq, Steps.trans harr (.one step_inScope)⟩
      | exit id => exact ⟨.exit id, a₁, w₁, hq, fun k' hk => harr k' (by simp [exitTo, hk])⟩
      | goto l' =>
        obtain ⟨m', hlt, hJ'⟩ := hq
        obtain ⟨rest', hf', e₂, a₂, w₂, hq₂, harr₂⟩ := ih m' hlt l' a₁ w₁ hJ'
        have hg : gotoIn l' (.inScope c :: k) = some (.code rest' :: .inScope c :: k) := by simp [gotoIn, hf']
        exact ⟨e₂, a₂, w₂, hq₂, .of_steps (harr _ hg) harr₂⟩
      | ret => exact ⟨_, a₁, w₁, hq, harr⟩
      | panic ch => exact ⟨_, a₁, w₁, hq, harr⟩
      | outgrown => exact ⟨_, a₁, w₁, hq, harr⟩
  obtain ⟨e, a₁, w₁, hq, harr⟩ := first b (.inScope c :: k) cs
  cases e with
  | normal => exact ⟨.normal, a₁, w₁, hq, .head step_scope (Steps.trans harr (.one step_inScope))⟩
  | exit id => exact ⟨.exit id, a₁, w₁, hq, fun k' hk => .head step_scope (harr k' (by simp [exitTo, hk]))⟩
  | goto l' =>
    obtain ⟨m', hJ'⟩ := hq
    obtain ⟨rest', hf', e₂, a₂, w₂, hq₂, harr₂⟩ := key m' l' a₁ w₁ hJ'
    have hg : gotoIn l' (.inScope c :: k) = some (.code rest' :: .inScope c :: k) := by simp [gotoIn, hf']
    exact ⟨e₂, a₂, w₂, hq₂, .of_steps (.head step_scope (harr _ hg)) harr₂⟩
  | ret => exact ⟨_, a₁, w₁, hq, .of_steps (.one step_scope) harr⟩
  | panic ch => exact ⟨_, a₁, w₁, hq, .of_steps (.one step_scope) harr⟩
  | outgrown => exact ⟨_, a₁, w₁, hq, .of_steps (.one step_scope) harr⟩

inductive RdSt where
  | name (rem ns : List Int)
  | ahead (rem ns ms : List Int)
  | num (r : Int) (rem ns ms : List Int) (sign acc : Int)

abbrev RdRes := Option (List Int × List Int)

def rdNum (r : Int) (rem ns ms : List Int) (sign acc : Int) : RdSt ⊕ RdRes :=
  if 48 ≤ r ∧ r ≤ 57 then .inl (.num (rem.headD (-1)) rem.tail ns ms sign (wrap64 (wrap64 (acc * 10) + (r - 48))))
  else if r = 32 then .inl (.ahead rem ns (ms ++ [wrap64 (sign * acc)]))
  else if r = -1 then .inr (some (ns, ms ++ [wrap64 (sign * acc)]))
  else .inr none

def rdAhead (rem ns ms : List Int) : RdSt ⊕ RdRes :=
  if rem.headD (-1) = 120 then rdNum (rem.tail.headD (-1)) rem.tail.tail ns ms 1 0
  else if rem.headD (-1) = 45 then rdNum (rem.tail.headD (-1)) rem.tail.tail ns ms (-1) 0
  else rdNum (rem.headD (-1)) rem.tail ns ms 1 0

def rdName (rem ns : List Int) : RdSt ⊕ RdRes :=
  if rem.headD (-1) = -1 then .inr (some (ns, []))
  else if rem.headD (-1) = 32 then rdAhead rem.tail ns []
  else .inl (.name rem.tail (ns ++ [rem.headD (-1)]))

def rdStep : RdSt → RdSt ⊕ RdRes
  | .name rem ns => rdName rem ns
  | .ahead rem ns ms => rdAhead rem ns ms
  | .num r rem ns ms sign acc => rdNum r rem ns ms sign acc

/-- A state comes to an end so. -/
inductive Runs : RdSt → RdRes → Prop
  | stop {s : RdSt} {r : RdRes} (h : rdStep s = .inr r) : Runs s r
  | go {s s' : RdSt} {r : RdRes} (h : rdStep s = .inl s') (k : Runs s' r) : Runs s r

theorem Runs.same {s : RdSt} {r r' : RdRes} (h : Runs s r) (h' : Runs s r') : r = r' := by
  induction h with
  | stop h =>
    cases h' with
    | stop k => rw [h] at k; exact Sum.inr.inj k
    | go k _ => rw [h] at k; cases k
  | go h k ih =>
    cases h' with
    | stop k' => rw [h] at k'; cases k'
    | go k' k'' => rw [h] at k'; exact ih (by rw [Sum.inl.inj k']; exact k'')

/-- The runes of a text. -/
def runesL (s : ByteArray) : List Int := (Conv.runesFrom s s.size 0 #[]).toList.map intOf

theorem runesFrom_ints (s : ByteArray) : ∀ (bound i : Nat) (acc : Array Value), (∀ v ∈ acc.toList, Value.int .i32 (intOf v) = v) → ∀ v ∈ (Conv.runesFrom s bound i acc).toList, Value.int .i32 (intOf v) = v := by
  intro bound
  induction bound with
  | zero => intro i acc h; exact h
  | succ n ih =>
    intro i acc h
    unfold Conv.runesFrom
    split
    · refine ih _ _ ?_
      intro v hv
      rw [Array.toList_push, List.mem_append] at hv
      rcases hv with hv | hv
      · exact h v hv
      · simp only [List.mem_cons, List.not_mem_nil, or_false] at hv
        rw [hv]; rfl
    · exact h

theorem runesL_cells (s : ByteArray) : Conv.runesFrom s s.size 0 #[] = ((runesL s).map (Value.int .i32)).toArray := by
  apply Array.toList_inj.1
  simp only [runesL, List.map_map]
  symm
  rw [List.map_congr_left (g := id), List.map_id]
  intro v hv
  exact runesFrom_ints s s.size 0 #[] (by simp) v hv

theorem runesL_len (s : ByteArray) : (runesL s).length ≤ s.size := by
  have := size_runesFrom s s.size 0 #[]
  simpa [runesL] using this

end Go.Proofs.YtjjpklalihaanaaDoor
