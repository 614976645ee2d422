/-
  Channels in one goroutine, for the ordinary walk ('Code.wp'): what a region does from its list of operations on ('RunsIn'), operation by operation: a send into a buffer with room, a receive from a buffer that holds something, a receive from a closed channel; any other operation by its result. A region walks ('wp_region_runs', 'wp_region_draw_runs') if its operations run: so the walk around it stays the ordinary one.
-/
import Derived.Conc.LoneCalls
import Derived.Tactics2
namespace Go.Proofs.YtdcihpbggknhgaaR
open Go.Conc Go.RowKit

/-- From this list of operations on the region comes to an end of which 'Q' holds. -/
def RunsIn (P : Program) (ops : Array Oper) (Q : Exit → Act → World → Prop) (l : List Nat) (a : Act) (w : World) : Prop :=
  ∀ (b : Frame) (k : List Item) (cs : List Frame), ∃ e a' w', Q e a' w' ∧ Arrives P (lone (b.at a (.inRegion ops l :: k)) cs w) b k cs e a' w'

section
variable {P : Program} {ops : Array Oper} {Q : Exit → Act → World → Prop} {a : Act} {w w₁ : World} {i : Nat} {rest : List Nat} {o : Oper}

theorem runs_of_wpOps {l : List Nat} (h : wpOps P ops Q l a w) : RunsIn P ops Q l a w := wp_ops l a w h

theorem wp_region_runs {id : Nat} (h : RunsIn P ops Q (List.range ops.size) a w) : (Code.region id ops false).wp P Q a w :=
  fun b k cs => let ⟨e, a', w', q, r⟩ := h b k cs; ⟨e, a', w', q, .of_steps (.one step_region) r⟩

theorem wp_region_draw_runs {id : Nat} (h : ∀ t, RunsIn P ops Q (Region.schedule (P.follows .mixedOrders) ops t) a { w with drawn := w.drawn + 1 }) : (Code.region id ops true).wp P Q a w :=
  fun b k cs => let ⟨e, a', w', q, r⟩ := h _ b k cs; ⟨e, a', w', q, .of_steps (.one step_region_draw) r⟩

theorem runs_nil (h : Q .normal a w) : RunsIn P ops Q [] a w := fun _ _ _ => ⟨.normal, a, w, h, .one step_region_end⟩

theorem runs_head {a' : Act} (hs : ∀ (b : Frame) (k : List Item) (cs : List Frame), step P (lone (b.at a (.inRegion ops (i :: rest) :: k)) cs w) = .next (lone (b.at a' (.inRegion ops rest :: k)) cs w₁))
    (h : RunsIn P ops Q rest a' w₁) : RunsIn P ops Q (i :: rest) a w :=
  fun b k cs => let ⟨e, a', w', q, r⟩ := h b k cs; ⟨e, a', w', q, .of_steps (.one (hs b k cs)) r⟩

theorem fin (ho : ops[i]? = some o) (b : Frame) (k : List Item) (v : Value) : (b.at a (.inRegion ops (i :: rest) :: k)).finish v = b.at (a.put o.dst v) (.inRegion ops rest :: k) := by
  rw [Frame.finish_at, ho]; rfl

/-- An operation that nobody asks for. -/
theorem runs_unwanted (ho : ops[i]? = some o) (hw : Region.wanted o (yielded ops a.tmps) = false) (h : RunsIn P ops Q rest (a.put o.dst undef) w) : RunsIn P ops Q (i :: rest) a w := by
  refine runs_head (fun b k cs => ?_) h
  have hs := step_op_skip (P := P) (b := b) (a := a) (k := k) (cs := cs) (w := w) (ops := ops) (i := i) (rest := rest) (by simp [ho, hw])
  simpa only [ho, Option.bind_some] using hs

theorem runs_value {v : Value} (ho : ops[i]? = some o) (hw : Region.wanted o (yielded ops a.tmps) = true) (hr : (execOp a.eval o).run P w = .ok (.value v) w₁)
    (h : RunsIn P ops Q rest (a.put o.dst v) w₁) : RunsIn P ops Q (i :: rest) a w := by
  refine runs_head (fun b k cs => step_lone_go ?_) h
  rw [stepG_op ho hw, ← fin ho]; simp [stepG.apply, hr]

theorem runs_none (ho : ops[i]? = some o) (hw : Region.wanted o (yielded ops a.tmps) = true) (hr : (execOp a.eval o).run P w = .ok .skip w₁)
    (h : RunsIn P ops Q rest (a.put o.dst undef) w₁) : RunsIn P ops Q (i :: rest) a w := by
  refine runs_head (fun b k cs => step_lone_go ?_) h
  rw [stepG_op ho hw, ← fin ho]; simp [stepG.apply, hr]

/-- What is asked of an operation by its result: a value or nothing. -/
def upon (P : Program) (ops : Array Oper) (Q : Exit → Act → World → Prop) (rest : List Nat) (a : Act) (o : Oper) : Result Next → Prop
  | .ok (.value v) w' => RunsIn P ops Q rest (a.put o.dst v) w'
  | .ok .skip w' => RunsIn P ops Q rest (a.put o.dst undef) w'
  | _ => False
@[simp] theorem upon_value (v : Value) (w' : World) : upon P ops Q rest a o (.ok (.value v) w') = RunsIn P ops Q rest (a.put o.dst v) w' := rfl
@[simp] theorem upon_skip (w' : World) : upon P ops Q rest a o (.ok .skip w') = RunsIn P ops Q rest (a.put o.dst undef) w' := rfl

theorem runs_op (ho : ops[i]? = some o) (hw : Region.wanted o (yielded ops a.tmps) = true) (h : upon P ops Q rest a o ((execOp a.eval o).run P w)) : RunsIn P ops Q (i :: rest) a w := by
  generalize hr : (execOp a.eval o).run P w = r at h
  match r, h with
  | .ok (.value v) w', h => exact runs_value ho hw hr h
  | .ok .skip w', h => exact runs_none ho hw hr h

/-- A call of a Go function that returns. -/
theorem runs_call {f : FuncId} {args : Array Value} {R : Value → World → Prop} (ho : ops[i]? = some o) (hw : Region.wanted o (yielded ops a.tmps) = true) (hr : (execOp a.eval o).run P w = .ok (.enter f args) w₁)
    (hc : Calls P f args w₁ fun e w' => ∃ v, e = .returned v ∧ R v w') (h : ∀ v w', R v w' → RunsIn P ops Q rest (a.put o.dst v) w') : RunsIn P ops Q (i :: rest) a w := by
  intro b k cs
  obtain ⟨e, w'', fr, hR, hsteps, _, hleave⟩ := hc (b.at a (.inRegion ops (i :: rest) :: k) :: cs)
  have henter : step P (lone (b.at a (.inRegion ops (i :: rest) :: k)) cs w) =
      .next (lone (Frame.enter P f args .normal) (b.at a (.inRegion ops (i :: rest) :: k) :: cs) w₁) :=
    step_lone_go (by rw [stepG_op ho hw]; simp [stepG.apply, hr, Frame.at])
  obtain ⟨v, rfl, hv⟩ := hR
  obtain ⟨e, a', w₃, hq, harr⟩ := h v _ hv b k cs
  refine ⟨e, a', w₃, hq, .of_steps (.head henter (hsteps.trans (.one ?_))) harr⟩
  rw [← fin ho]; exact step_leave_returned hleave

/-- A communication is handed up to the machine, whatever the frame's kind. -/
theorem comm_up {cases : Array CommCase} {blocking : Bool} {shape : CommShape} (ho : ops[i]? = some o) (hw : Region.wanted o (yielded ops a.tmps) = true)
    (hr : (execOp a.eval o).run P w = .ok (.comm cases blocking shape) w₁) (b : Frame) (k : List Item) (cs : List Frame) :
    ∃ es, stepG P true (G (b.at a (.inRegion ops (i :: rest) :: k)) cs) w = .comm (G (b.at a (.inRegion ops (i :: rest) :: k)) cs) cases blocking shape w₁ es := by
  have hg := stepG_op (P := P) (b := b) (k := k) (cs := cs) (w := w) (rest := rest) ho hw
  rw [show G (b.at a (.inRegion ops (i :: rest) :: k)) cs = { frame := b.at a (.inRegion ops (i :: rest) :: k), callers := cs, status := .running, dying := none } from rfl, hg]
  simp [stepG.apply, hr, GStep.after]

variable {c cap s r : Nat} {buf : Array Value} {z v : Value} {tm closed : Bool}

theorem runs_send (ho : ops[i]? = some o) (hw : Region.wanted o (yielded ops a.tmps) = true) (hr : (execOp a.eval o).run P w = .ok (.comm #[scase c v z] true .send) w₁)
    (hc : w₁.heap[c]? = some (.chan cap buf false s r tm)) (hroom : buf.size < cap)
    (h : RunsIn P ops Q rest (a.put o.dst undef) (w₁.setChan c cap (buf.push v) false (s + 1) r tm)) : RunsIn P ops Q (i :: rest) a w := by
  refine runs_head (fun b k cs => ?_) h
  obtain ⟨es, he⟩ := comm_up (rest := rest) ho hw hr b k cs
  rw [lone_eq_solo, lone_eq_solo, ← fin ho]
  exact step_lone_send_room he hc hroom

theorem runs_recv_buf (ok : Bool) (ho : ops[i]? = some o) (hw : Region.wanted o (yielded ops a.tmps) = true) (hr : (execOp a.eval o).run P w = .ok (.comm #[rcase c z] true (.recv ok)) w₁)
    (hc : w₁.heap[c]? = some (.chan cap buf closed s r tm)) (hsome : 0 < buf.size)
    (h : RunsIn P ops Q rest (a.put o.dst (got ok (buf.getD 0 undef) true)) (w₁.setChan c cap (buf.extract 1 buf.size) closed s (r + 1) tm)) : RunsIn P ops Q (i :: rest) a w := by
  refine runs_head (fun b k cs => ?_) h
  obtain ⟨es, he⟩ := comm_up (rest := rest) ho hw hr b k cs
  rw [lone_eq_solo, lone_eq_solo, ← fin ho]
  exact step_lone_recv_buf ok he hc hsome

theorem runs_recv_shut (ok : Bool) (ho : ops[i]? = some o) (hw : Region.wanted o (yielded ops a.tmps) = true) (hr : (execOp a.eval o).run P w = .ok (.comm #[rcase c z] true (.recv ok)) w₁)
    (hc : w₁.heap[c]? = some (.chan cap #[] true s r tm))
    (h : RunsIn P ops Q rest (a.put o.dst (got ok z false)) w₁) : RunsIn P ops Q (i :: rest) a w := by
  refine runs_head (fun b k cs => ?_) h
  obtain ⟨es, he⟩ := comm_up (rest := rest) ho hw hr b k cs
  rw [lone_eq_solo, lone_eq_solo, ← fin ho]
  exact step_lone_recv_shut ok he hc

/-- A region that holds a channel operation, at its beginning: the walk stands here. -/
def RunsAll (P : Program) (ops : Array Oper) (Q : Exit → Act → World → Prop) (a : Act) (w : World) : Prop := RunsIn P ops Q (List.range ops.size) a w
/-- What comes behind, out of the walk's sight: no proposition, so that no simplifier turns it. -/
structure Way (Q Q' : Exit → Act → World → Prop) : Type where
  out : ∀ e a w, Q e a w → Q' e a w
theorem wp_region_all {id : Nat} (h : ∀ Q' : Exit → Act → World → Prop, Way Q Q' → RunsAll P ops Q' a w) : (Code.region id ops false).wp P Q a w := wp_region_runs (h Q ⟨fun _ _ _ h => h⟩)
end

/-- The block 'c' is a channel with this room and these values, closed or not. -/
def ChanAt (w : World) (c cap : Nat) (buf : List Value) (closed : Bool) : Prop := ∃ s r, w.heap[c]? = some (.chan cap buf.toArray closed s r false)
section
variable {w : World} {c cap : Nat} {buf : List Value} {closed : Bool}
theorem ChanAt.lt (h : ChanAt w c cap buf closed) : c < w.heap.size := by
  obtain ⟨s, r, h⟩ := h
  rcases Nat.lt_or_ge c w.heap.size with h' | h'
  · exact h'
  · simp [Array.getElem?_eq_none h'] at h
theorem chanAt_set (hlt : c < w.heap.size) {a : Array Value} (cap' : Nat) (buf' : List Value) (cl' : Bool) (s r : Nat) (ha : a = buf'.toArray) : ChanAt (w.setChan c cap' a cl' s r false) c cap' buf' cl' :=
  ⟨s, r, by subst ha; exact heap_setChan w c cap' _ cl' s r false hlt⟩
theorem chanAt_of_eq {w' : World} (h : ChanAt w c cap buf closed) (he : w'.heap[c]? = w.heap[c]?) : ChanAt w' c cap buf closed := by
  obtain ⟨s, r, h⟩ := h
  exact ⟨s, r, he.trans h⟩
theorem chanAt_alloc (h : ChanAt w c cap buf closed) (x : Obj) : ChanAt (w.alloc x) c cap buf closed :=
  chanAt_of_eq h (by have := h.lt; show (w.heap.push x)[c]? = _; rw [Array.getElem?_push_lt this, Array.getElem?_eq_getElem this])
theorem heap_setChan_ne {j : Nat} (hj : j ≠ c) (cap' : Nat) (a : Array Value) (cl : Bool) (s r : Nat) (tm : Bool) : (w.setChan c cap' a cl s r tm).heap[j]? = w.heap[j]? := by
  simp [World.setChan, Ne.symm hj]

/-- How many values the channel holds: the measure of a loop that ranges over it. -/
def chanLen (w : World) (c : Nat) : Nat := match w.heap[c]? with | some (.chan _ buf _ _ _ _) => buf.size | _ => 0
theorem ChanAt.len (h : ChanAt w c cap buf closed) : chanLen w c = buf.length := by
  obtain ⟨s, r, h⟩ := h
  simp [chanLen, h]

/-- Nothing but the block 'c' is another. -/
structure Only (c : Nat) (w w' : World) : Prop where
  size : w'.heap.size = w.heap.size
  else_ : ∀ j, j ≠ c → w'.heap[j]? = w.heap[j]?
  below : ∀ (B : Nat) (a : World), B ≤ c → Below B a w → Below B a w'
theorem only_set (cap' : Nat) (a : Array Value) (cl : Bool) (s r : Nat) (tm : Bool) : Only c w (w.setChan c cap' a cl s r tm) :=
  ⟨size_setChan _ _ _ _ _ _ _ _, fun _ hj => heap_setChan_ne hj _ _ _ _ _ _, fun _ _ hB h => below_setChan h hB _ _ _ _ _ _⟩

variable {P : Program} {ops : Array Oper} {Q : Exit → Act → World → Prop} {a : Act} {i : Nat} {rest : List Nat} {o : Oper} {v z : Value}
theorem runs_sendA (ho : ops[i]? = some o) (hw : Region.wanted o (yielded ops a.tmps) = true) (hr : (execOp a.eval o).run P w = .ok (.comm #[scase c v z] true .send) w)
    (hc : ChanAt w c cap buf false) (hroom : buf.length < cap)
    (h : ∀ w', ChanAt w' c cap (buf ++ [v]) false → Only c w w' → RunsIn P ops Q rest (a.put o.dst undef) w') : RunsIn P ops Q (i :: rest) a w := by
  have hlt := hc.lt
  obtain ⟨s, r, hc⟩ := hc
  exact runs_send ho hw hr hc (by simpa using hroom) (h _ (chanAt_set hlt _ _ _ _ _ (by simp)) (only_set _ _ _ _ _ _))
theorem runs_recvA (ok : Bool) (ho : ops[i]? = some o) (hw : Region.wanted o (yielded ops a.tmps) = true) (hr : (execOp a.eval o).run P w = .ok (.comm #[rcase c z] true (.recv ok)) w)
    (hc : ChanAt w c cap (v :: buf) closed)
    (h : ∀ w', ChanAt w' c cap buf closed → Only c w w' → RunsIn P ops Q rest (a.put o.dst (got ok v true)) w') : RunsIn P ops Q (i :: rest) a w := by
  have hlt := hc.lt
  obtain ⟨s, r, hc⟩ := hc
  have h' := h _ (chanAt_set (a := (v :: buf).toArray.extract 1 (v :: buf).toArray.size) hlt cap buf closed s (r + 1) (by simp)) (only_set _ _ _ _ _ _)
  exact runs_recv_buf ok ho hw hr hc (by simp) (by simpa using h')
theorem runs_shutA (ok : Bool) (ho : ops[i]? = some o) (hw : Region.wanted o (yielded ops a.tmps) = true) (hr : (execOp a.eval o).run P w = .ok (.comm #[rcase c z] true (.recv ok)) w)
    (hc : ChanAt w c cap [] true) (h : RunsIn P ops Q rest (a.put o.dst (got ok z false)) w) : RunsIn P ops Q (i :: rest) a w := by
  obtain ⟨s, r, hc⟩ := hc
  exact runs_recv_shut ok ho hw hr hc h
theorem closeA (hc : ChanAt w c cap buf false) : ∃ w', (∀ ats ty, (Builtin.close_ ats ty #[.chan (some c)]).run P w = .ok (.tuple #[]) w') ∧ ChanAt w' c cap buf true ∧ Only c w w' := by
  have hlt := hc.lt
  obtain ⟨s, r, hc⟩ := hc
  exact ⟨w.setChan c cap buf.toArray true s r false, fun ats ty => run_close_open ats ty hc, chanAt_set hlt _ _ _ _ _ rfl, only_set _ _ _ _ _ _⟩
end

end Go.Proofs.YtdcihpbggknhgaaR
