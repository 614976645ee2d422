/- Own lemmas. -/
import Derived.Test.YtmigfnlfjgkgkaaK04
import Derived.Test.YtmigfnlfjgkgkaaK05
import Derived.Test.YtmigfnlfjgkgkaaK09
import Derived.Test.YtmigfnlfjgkgkaaK15
import Derived.Deep.WholeRow
namespace Go.Proofs.Ytmigfnlfjgkgkaa
open Go.RowKit
set_option linter.unusedVariables false

def tailOk (ops : Array Oper) : Bool :=
  Nat.blt 0 ops.size && (List.range (ops.size - 1)).all (fun i => match ops[i]? with
    | none => false
    | some o => o.after.all (fun e => !Region.binds .any e || Nat.blt e.on i) && (match o.guard with | none => true | some g => Nat.blt g.1 i) && (match ops[ops.size - 1]? with | none => false | some l => waitsOn l i)) && (match ops[ops.size - 1]? with | none => false | some l => l.after.all (fun e => !Region.binds .any e || Nat.blt e.on (ops.size - 1)))

section
variable {P : Program} {ops : Array Oper} {Q : Exit → Act → World → Prop} {S : World → Prop}

structure TailOk (ops : Array Oper) (L : Nat) (l : Oper) : Prop where
  size : ops.size = L + 1
  last : ops[L]? = some l
  down : ∀ (i : Nat) (o : Oper), i < L → ops[i]? = some o → ∀ e ∈ o.after, Region.binds .any e = true → e.on < i
  gd : ∀ (i : Nat) (o : Oper), i < L → ops[i]? = some o → ∀ g, o.guard = some g → g.1 < i
  all : ∀ i, i < L → waitsOn l i = true
  ldn : ∀ e ∈ l.after, Region.binds .any e = true → e.on < L

theorem blt_lt {a b : Nat} (h : Nat.blt a b = true) : a < b := Nat.lt_of_succ_le (by simpa [Nat.blt] using h)

theorem tailOk_spec (h : tailOk ops = true) : ∃ L l, TailOk ops L l := by
  unfold tailOk at h
  simp only [Bool.and_eq_true] at h
  obtain ⟨⟨h0, h1⟩, h2⟩ := h
  have hp := blt_lt h0
  have hl : ops[ops.size - 1]? = some ops[ops.size - 1] := Array.getElem?_eq_getElem (by omega)
  refine ⟨ops.size - 1, ops[ops.size - 1], by omega, hl, ?_, ?_, ?_, ?_⟩
  · intro i o hi ho e he hb
    have := List.all_eq_true.1 h1 i (List.mem_range.2 hi)
    rw [ho] at this
    simp only [Bool.and_eq_true] at this
    have h3 := Array.all_eq_true_iff_forall_mem.1 this.1.1 e he
    rw [hb] at h3
    exact blt_lt (by simpa using h3)
  · intro i o hi ho g hg
    have := List.all_eq_true.1 h1 i (List.mem_range.2 hi)
    rw [ho] at this
    simp only [Bool.and_eq_true, hg] at this
    exact blt_lt this.1.2
  · intro i hi
    have := List.all_eq_true.1 h1 i (List.mem_range.2 hi)
    rw [Array.getElem?_eq_getElem (show i < ops.size by omega), hl] at this
    simp only [Bool.and_eq_true] at this
    exact this.2
  · intro e he hb
    rw [hl] at h2
    have h3 := Array.all_eq_true_iff_forall_mem.1 h2 e he
    rw [hb] at h3
    exact blt_lt (by simpa using h3)

variable {L : Nat} {l : Oper}

theorem push_getD {listed : Array Bool} (hs : listed.size = L) {j : Nat} (hj : j < L) (d : Bool) : (listed.push false).getD j d = listed.getD j d := by
  simp [Array.getD, Array.getElem_push, hs, hj, show j < L + 1 by omega]

theorem push_set {listed : Array Bool} (hs : listed.size = L) {i : Nat} (hi : i < L) : (listed.push false).setIfInBounds i true = (listed.setIfInBounds i true).push false := by
  apply Array.ext_getElem?
  intro j
  by_cases hji : i = j
  · subst hji
    rw [Array.getElem?_setIfInBounds_self_of_lt (by simp; omega), Array.getElem?_push_lt (by simp; omega)]
    simp
  · rw [Array.getElem?_setIfInBounds_ne hji]
    simp only [Array.getElem?_push, Array.size_setIfInBounds, Array.getElem?_setIfInBounds_ne hji]

theorem pop_get (T : TailOk ops L l) {i : Nat} (hi : i < L) : ops.pop[i]? = ops[i]? := by
  have := T.size
  simp [show i < ops.size - 1 by omega]

theorem ready_pop (T : TailOk ops L l) {listed : Array Bool} (hs : listed.size = L) {i : Nat} (hi : i < L) : i ∈ Region.ready .any ops (listed.push false) ↔ i ∈ Region.ready .any ops.pop listed := by
  rw [mem_ready, mem_ready, push_getD hs hi, pop_get T hi]
  refine and_congr_right fun _ => exists_congr fun o => and_congr_right fun ho => ?_
  refine forall_congr' fun e => forall_congr' fun he => forall_congr' fun hb => ?_
  rw [push_getD hs (by have := T.down i o hi ho e he hb; omega)]

theorem all_listed (T : TailOk ops L l) {listed : Array Bool} (hs : listed.size = L) (hr : Region.ready .any ops.pop listed = []) : ∀ i, i < L → listed.getD i false = true := by
  intro i
  induction i using Nat.strongRecOn with
  | _ i ih =>
    intro hi
    cases hc : listed.getD i true with
    | true => simpa [Array.getD, hs, hi] using hc
    | false =>
      have ho : ops[i]? = some (ops[i]'(by have := T.size; omega)) := Array.getElem?_eq_getElem _
      have : i ∈ Region.ready .any ops.pop listed := mem_ready.2 ⟨hc, _, (pop_get T hi).trans ho, fun e he hb => ih e.on (T.down i _ hi ho e he hb) (by have := T.down i _ hi ho e he hb; omega)⟩
      rw [hr] at this
      cases this

theorem wpOp_pop (T : TailOk ops L l) {R : Act → World → Prop} {i : Nat} (hi : i < L) {K K' : Act → World → Prop} {a : Act} {w : World} (hK : ∀ a w, K a w → K' a w) (h : wpOp P ops.pop (Exit.then R Q) i K a w) : wpOp P ops Q i K' a w := by
  refine wpOp_mono hK ?_
  have ho : ops[i]? = some (ops[i]'(by have := T.size; omega)) := Array.getElem?_eq_getElem _
  unfold wpOp at h ⊢
  rw [pop_get T hi] at h
  rw [ho] at h ⊢
  dsimp only at h ⊢
  have hw : Region.wanted (ops[i]'(by have := T.size; omega)) (yielded ops.pop a.tmps) = Region.wanted (ops[i]'(by have := T.size; omega)) (yielded ops a.tmps) := by
    unfold Region.wanted
    cases hg : (ops[i]'(by have := T.size; omega)).guard with
    | none => rfl
    | some g =>
      have h1 := T.gd i _ hi ho g hg
      dsimp only
      unfold yielded
      rw [pop_get T (by omega)]
  rw [hw] at h
  split
  · rename_i hc
    rw [if_pos hc] at h
    rcases h with h | ⟨h1, a', w', h2⟩
    · refine .inl ?_
      unfold Oper.wp at h ⊢
      generalize (execOp a.eval (ops[i]'(by have := T.size; omega))).run P w = r at *
      cases r with
      | ok n w' =>
        cases n <;> simp only [Oper.upon] at h ⊢
        all_goals first
          | exact h
          | exact Calls.mono h (fun e w'' he => by cases e <;> exact he)
          | exact Rows.mono h (fun _ _ he => he)
      | halt x w' => cases x <;> simp only [Oper.upon] at h ⊢ <;> exact h
    · exact .inr ⟨h1, a', w', h2⟩
  · rename_i hc
    rw [if_neg hc] at h
    exact h

theorem wpAny_tail (T : TailOk ops L l) : ∀ (fuel : Nat) (listed : Array Bool) (a : Act) (w : World), listed.size = L → wpAny P .any ops.pop (Exit.then (fun a w => wpOp P ops Q L (fun a w => Q .normal a w) a w) Q) fuel listed a w → wpAny P .any ops Q (fuel + 1) (listed.push false) a w := by
  have hend : ∀ (m : Nat) (listed : Array Bool) (a : Act) (w : World), listed.size = L → Region.ready .any ops.pop listed = [] → wpOp P ops Q L (fun a w => Q .normal a w) a w → wpAny P .any ops Q (m + 1) (listed.push false) a w := by
    intro m listed a w hs hr h
    have hall := all_listed T hs hr
    have hsz := T.size
    have hL : L ∈ Region.ready .any ops (listed.push false) := mem_ready.2 ⟨by simp [Array.getD, Array.getElem_push, hs], l, T.last, fun e he hb => by
      have h1 := T.ldn e he hb
      rw [push_getD hs h1]
      exact hall _ h1⟩
    refine ⟨fun h0 => (by rw [h0] at hL; cases hL), fun i hi => ?_⟩
    by_cases hiL : i = L
    · subst hiL
      refine wpOp_mono (fun a' w' h' => ?_) h
      have hn : Region.ready .any ops ((listed.push false).setIfInBounds i true) = [] := by
        rw [List.eq_nil_iff_forall_not_mem]
        intro j hj
        obtain ⟨h1, o, h2, _⟩ := mem_ready.1 hj
        have h3 : j < ops.size := (Array.getElem?_eq_some_iff.1 h2).1
        by_cases hji : j = i
        · subst hji
          simp [Array.getD, hs] at h1
        · have h4 := hall j (by omega)
          have h5 : ((listed.push false).setIfInBounds i true).getD j true = listed.getD j true := by
            rw [← push_getD hs (show j < i by omega)]
            simp only [Array.getD_eq_getD_getElem?, Array.getElem?_setIfInBounds_ne (Ne.symm hji)]
          rw [h5] at h1
          have h6 : j < listed.size := by omega
          simp [Array.getD, h6] at h1 h4
          rw [h1] at h4
          cases h4
      cases m with
      | zero => exact ⟨hn, h'⟩
      | succ m => exact ⟨fun _ => h', fun j hj => by rw [hn] at hj; cases hj⟩
    · have hlt : i < L := by
        obtain ⟨_, o, h2, _⟩ := mem_ready.1 hi
        have := (Array.getElem?_eq_some_iff.1 h2).1
        omega
      have := (ready_pop T hs hlt).1 hi
      rw [hr] at this
      cases this
  intro fuel
  induction fuel with
  | zero => intro listed a w hs h; exact hend 0 listed a w hs h.1 h.2
  | succ fuel ih =>
    intro listed a w hs h
    by_cases hr : Region.ready .any ops.pop listed = []
    · exact hend _ listed a w hs hr (h.1 hr)
    · obtain ⟨x, hx⟩ := List.exists_mem_of_ne_nil _ hr
      have hxL : x < L := by
        obtain ⟨_, o, h2, _⟩ := mem_ready.1 hx
        have h3 := (Array.getElem?_eq_some_iff.1 h2).1
        rw [Array.size_pop] at h3
        have := T.size
        omega
      refine ⟨fun h0 => (by have := (ready_pop T hs hxL).2 hx; rw [h0] at this; cases this), fun i hi => ?_⟩
      have hiL : i < L := by
        obtain ⟨_, o, h2, h3⟩ := mem_ready.1 hi
        have h4 := (Array.getElem?_eq_some_iff.1 h2).1
        have h5 := T.size
        by_cases e : i = L
        · subst e
          rw [T.last] at h2
          cases h2
          have h6 := T.all x hxL
          unfold waitsOn at h6
          rw [← Array.any_toList] at h6
          obtain ⟨e, he1, he2⟩ := List.any_eq_true.1 h6
          rw [Array.mem_toList_iff] at he1
          rw [Bool.and_eq_true, beq_iff_eq] at he2
          have h7 := h3 e he1 he2.1
          rw [he2.2, push_getD hs hxL] at h7
          have h8 := (mem_ready.1 hx).1
          have h9 : x < listed.size := by omega
          simp [Array.getD, h9] at h7 h8
          rw [h7] at h8
          cases h8
        · omega
      refine wpOp_pop T hiL (fun a' w' h' => ?_) (h.2 i ((ready_pop T hs hiL).1 hi))
      rw [push_set hs hiL]
      exact ih _ a' w' (by simp [hs]) h'

def tailR : Nat → Array Oper → List KI → Option (List KI)
  | 0, ops, k => some (.sq ops ops.size (Array.replicate ops.size false) :: k)
  | j + 1, ops, k => match tailOk ops, ops[ops.size - 1]? with
    | true, some l => tailR j ops.pop (.ops ops [l] :: k)
    | _, _ => none

theorem tailR_ok : ∀ (j : Nat) (ops : Array Oper) (k k' : List KI) (a : Act) (w : World), tailR j ops k = some k' → den P S Q k' .normal a w → wpAny P .any ops (den P S Q k) ops.size (Array.replicate ops.size false) a w := by
  intro j
  induction j with
  | zero =>
    intro ops k k' a w h hd
    cases h
    exact wpAny_of_held (S := S) _ _ _ _ hd
  | succ j ih =>
    intro ops k k' a w h hd
    unfold tailR at h
    split at h
    · rename_i l hok hl
      obtain ⟨L, l0, T⟩ := tailOk_spec hok
      have hsz := T.size
      have hL : ops.size - 1 = L := by omega
      rw [hL, T.last] at hl
      cases hl
      have h1 := ih ops.pop _ k' a w h hd
      rw [Array.size_pop, hL] at h1
      have e : (fun a w => wpOp P ops (den P S Q k) L (fun a w => den P S Q k .normal a w) a w) = wpList P ops (den P S Q k) [l] := by
        funext a w
        unfold wpOp wpList
        rw [T.last]
        rfl
      have h2 : wpAny P .any ops (den P S Q k) (L + 1) ((Array.replicate L false).push false) a w := by
        refine wpAny_tail T L _ a w (by simp) ?_
        rw [e]
        exact h1
      have e2 : (Array.replicate L false).push false = Array.replicate (L + 1) false := by rw [Array.replicate_succ]
      rw [e2] at h2
      rw [hsz]
      exact h2
    · cases h

def tailK (j : Nat) (k : List KI) : Option (List KI) := match k with
  | .code (.region _ ops true) :: k' => tailR j ops k'
  | _ => none

theorem wk_tails (j : Nat) {n : Nat} {F : Fr} {w : World} {k : List KI} (hm : P.follows .mixedOrders = true) (hk : (tailK j k).isSome = true) (h : Wg P S Q n ((tailK j k).getD []) F w.drew) : Wg P S Q n k F w := fun a hkn => by
  obtain ⟨k', hk2⟩ := Option.isSome_iff_exists.1 hk
  clear hk
  rw [hk2, Option.getD_some] at h
  unfold tailK at hk2
  split at hk2
  · rename_i id ops k2
    show (Go.Code.region id ops true).wp P (den P S Q k2) a w
    exact wp_region_any hm (tailR_ok j ops k2 k' a w.drew hk2 (h a hkn))
  · cases hk2

theorem wk_tail {n : Nat} {F : Fr} {w : World} {k : List KI} (hm : P.follows .mixedOrders = true) (hk : (tailK 1 k).isSome = true) (h : Wg P S Q n ((tailK 1 k).getD []) F w.drew) : Wg P S Q n k F w := wk_tails 1 hm hk h

def dropC : Nat → Go.Code → Go.Code
  | 0, c => c
  | n + 1, .seq _ y => dropC n y
  | _ + 1, c => c

def headC : Go.Code → Go.Code
  | .seq x _ => x
  | c => c

def bodyOf (fn : Func) : Go.Code := fn.body.getD .skip

theorem wk_join {n : Nat} {F : Fr} {w : World} {k : List KI} (k1 : List KI) (F1 : Fr) (hk : k = k1) (hF : F1.map (fun y => some y.2.1) = F1.map fun y => (lk F y.1).map Prod.fst) (h : Wg P S Q n k1 F1 w) : Wg P S Q n k F w := by
  subst hk
  exact fun a ha => h a (ha.less hF)

end

theorem results_cc {P : Program} {fn : Func} {p q : Tmp} {ty : TypeId} (h : fn.results = #[.cell p ty, .cell q ty]) (tmps : Array Value) (w : World) {g1 g2 : Nat} {t1 t2 : TypeId} {c1 c2 : Array Value} {f1 f2 : Nat × Nat} {d : TypeDesc}
    (hp : tmps.getD p undef = .pointer (some ⟨g1, 0, none⟩)) (hq : tmps.getD q undef = .pointer (some ⟨g2, 0, none⟩)) (h1 : w.heap[g1]? = some (.cells c1 t1 f1)) (h2 : w.heap[g2]? = some (.cells c2 t2 f2))
    (hu : P.underlying ty = some d) (hd : (match d with | .struct _ | .array _ _ => true | _ => false) = true) (hi : (P.info? ty).map (·.size) = some c1.size) (hj : (P.info? ty).map (·.size) = some c2.size) :
    (results fn tmps).run P w = .ok (.tuple #[.agg c1, .agg c2]) w := by
  have h3 : (results fn tmps).run P w = ((asAddr (tmps.getD p undef)).run P w).andThen fun a w₁ => ((loadVar ty a).run P w₁).andThen fun v w₂ => ((asAddr (tmps.getD q undef)).run P w₂).andThen fun b w₃ => ((loadVar ty b).run P w₃).andThen fun u w₄ => .ok (.tuple #[v, u]) w₄ := by
    simp only [results, h]
    simp [Sem.run_bind, Result.andThen]
  rw [h3, hp, hq]
  simp [asAddr, run_loadVar_row w g1 t1 ty c1 f1 d h1 hu hd hi, run_loadVar_row w g2 t2 ty c2 f2 d h2 hu hd hj]

theorem run_st1 {P : Program} {w : World} {b i : Nat} {T : TypeId} {v old : Value} (hc : w.cell? ⟨b, i, none⟩ = some old) (hf : w.frozen? ⟨b, i, none⟩ = false) (hi : (P.info? T).map (·.size) = some 1) (hv : v.cells = #[v]) (ho : v.oneCell' = true := by rfl) :
    (do Instr.storeAt T (.pointer (some ⟨b, i, none⟩)) v; pure Next.skip : Sem Next).run P w = .ok .skip (w.setCell ⟨b, i, none⟩ v) := by
  obtain ⟨t, ht, hs⟩ := Option.map_eq_some_iff.1 hi
  have h1 : (store ⟨b, i, none⟩ v).run P w = .ok () (w.setCell ⟨b, i, none⟩ v) := by
    rw [run_store P w _ v _ ho]
    simp [hc, hf]
  simp [Instr.storeAt, Instr.sureAddr, storeVar, sizeOf, typeInfo, ht, hs, hv, storeCells, Addr.add, Result.andThen, h1]

structure Dz (w w3 : World) (g : Nat) (a : Option Addr) (n cap B m : Nat) (M : MV) (A : MA) (W : World) : Prop where
  cur : Cur w W g a n cap
  r1 : ∃ cs, cs.size = 14 ∧ W.heap[w.heap.size]? = some (.cells cs 29 (0, 0))
  r2 : ∃ cs, cs.size = 14 ∧ W.heap[w.heap.size + 1]? = some (.cells cs 29 (0, 0))
  row : W.heap[m]? = some (.cells (mvc M A) 29 (0, 0))
  mid : ∀ k, B ≤ k → k < m → W.heap[k]? = w3.heap[k]?
  lg : w.heap.size + 2 ≤ g
  gB : g < B
  Bm : B ≤ m

section
variable {w w3 : World} {g : Nat} {a : Option Addr} {n cap B m : Nat} {M : MV} {A : MA} {W W' : World}

theorem Dz.cs (h : Dz w w3 g a n cap B m M A W) (k : Cs w g a n cap W W') : Dz w w3 g a n cap B m M A W' := by
  have h1 := h.lg
  have h2 := h.gB
  have h3 := h.Bm
  obtain ⟨c1, s1, e1⟩ := h.r1
  obtain ⟨c2, s2, e2⟩ := h.r2
  refine ⟨k.1, ⟨c1, s1, k.keep e1 (by omega)⟩, ⟨c2, s2, k.keep e2 (by omega)⟩, k.keep h.row (by omega), fun j h4 h5 => ?_, h1, h2, h3⟩
  rw [← h.mid j h4 h5]
  refine k.2.block j ?_ (fun e => by cases e; omega)
  have := (Array.getElem?_eq_some_iff.1 h.row).1
  omega

theorem Dz.below (h : Dz w w3 g a n cap B m M A W) (k : Below W.heap.size W W') : Dz w w3 g a n cap B m M A W' := h.cs (Cs.of_below h.cur k)

theorem Dz.bel {B2 : Nat} (h : Dz w w3 g a n cap B m M A W) (k : Below B2 W W') (hm : m < B2) (hc : Cur w W' g a n cap) : Dz w w3 g a n cap B m M A W' := by
  have h1 := h.lg
  have h2 := h.gB
  have h3 := h.Bm
  obtain ⟨c1, s1, e1⟩ := h.r1
  obtain ⟨c2, s2, e2⟩ := h.r2
  exact ⟨hc, ⟨c1, s1, by rw [k.block _ (by omega)]; exact e1⟩, ⟨c2, s2, by rw [k.block _ (by omega)]; exact e2⟩, by rw [k.block _ hm]; exact h.row, fun j h4 h5 => by rw [k.block j (by omega)]; exact h.mid j h4 h5, h1, h2, h3⟩

theorem cur_bel {B2 : Nat} (h : Cur w W g a n cap) (k : Below B2 W W') (hg : g < B2) (hw : w.heap.size ≤ B2) : Cur w W' g a n cap := by
  obtain ⟨i, x, hi, hr⟩ := h.row
  exact ⟨h.new, h.below.trans (k.mono hw), i, x, hi, by rw [k.block _ hg]; exact hr⟩

theorem Dz.set {r : Nat} (h : Dz w w3 g a n cap B m M A W) (hr : r = w.heap.size ∨ r = w.heap.size + 1) (cs : Array Value) (hs : cs.size = 14) : Dz w w3 g a n cap B m M A (W.setRow r cs) := by
  have h1 := h.lg
  have h2 := h.gB
  have h3 := h.Bm
  have hc := h.cur
  obtain ⟨i, x, hi, hrw⟩ := hc.row
  have ho : ∀ k, k ≠ r → (W.setRow r cs).heap[k]? = W.heap[k]? := fun k hk => setRow_other W r k cs hk
  obtain ⟨c1, s1, e1⟩ := h.r1
  obtain ⟨c2, s2, e2⟩ := h.r2
  refine ⟨⟨hc.new, ⟨hc.below.os, hc.below.tape, hc.below.output, by rw [setRow_size]; exact hc.below.size, fun k hk => by rw [ho k (by omega)]; exact hc.below.block k hk⟩, i, x, hi, by rw [ho g (by omega)]; exact hrw⟩, ?_, ?_, by rw [ho m (by omega)]; exact h.row, fun k h4 h5 => by rw [ho k (by omega)]; exact h.mid k h4 h5, h1, h2, h3⟩
  · rcases hr with rfl | rfl
    · exact ⟨cs, hs, setRow_heap _ _ _ _ _ _ e1⟩
    · exact ⟨c1, s1, by rw [ho _ (by omega)]; exact e1⟩
  · rcases hr with rfl | rfl
    · exact ⟨c2, s2, by rw [ho _ (by omega)]; exact e2⟩
    · exact ⟨cs, hs, setRow_heap _ _ _ _ _ _ e2⟩

theorem sl_mid {k : IntKind} {p : Option Addr} {zs : List Int} (h : Sl k w3 p zs) (hn : ∀ b off, p = some ⟨b, off, none⟩ → B ≤ b) (hm : w3.heap.size ≤ m) (hlt : m < W.heap.size) (hk : ∀ j, B ≤ j → j < m → W.heap[j]? = w3.heap[j]?) : Sl k W p zs := by
  intro i hi
  obtain ⟨b, off, e, h1, h2⟩ := h i hi
  have h3 := hn b off e
  refine ⟨b, off, e, by omega, ?_⟩
  rw [← h2]
  simp only [World.cell?, hk b h3 (by omega)]

theorem Dz.sl (h : Dz w w3 g a n cap B m M A W) (hs : MSl w3 M A) (hn : MNew B A) (hm : w3.heap.size ≤ m) : MSl W M A := by
  have hlt := (Array.getElem?_eq_some_iff.1 h.row).1
  exact ⟨sl_mid hs.x (hn _ (.inl rfl)) hm hlt h.mid, sl_mid hs.cs (hn _ (.inr (.inl rfl))) hm hlt h.mid, sl_mid hs.ram (hn _ (.inr (.inr (.inl rfl)))) hm hlt h.mid, sl_mid hs.xs (hn _ (.inr (.inr (.inr (.inl rfl))))) hm hlt h.mid, sl_mid hs.ys (hn _ (.inr (.inr (.inr (.inr rfl))))) hm hlt h.mid⟩

theorem Dz.eng {P : Program} {fn : Func} {Rs : Ending → World → Prop} : Eng P (Dz w w3 g a n cap B m M A) (Dz w w3 g a n cap B m M A) [⟨m, mvc M A, []⟩] true (bodyPost P fn Rs) :=
  ⟨fun _ h => h, fun W h r hr => by rw [List.mem_singleton.1 hr]; exact ⟨_, _, h.row⟩, fun _ W h => h.below (Below.refl _ _).drew, pan_body⟩

end

theorem Dw.heap {w W : World} (h : Dw w W) : W.heap = w.heap := by
  obtain ⟨d, rfl⟩ := h
  rfl

theorem Ez.dw {S : World → Prop} {R : List Rw} {w W : World} (hz : Ez S R) (hS : S w) (h : Dw w W) : S W := by
  obtain ⟨d, rfl⟩ := h
  induction d with
  | zero => exact hS
  | succ d ih => exact hz.drew _ ih

theorem Dz.ez {w w3 : World} {g : Nat} {a : Option Addr} {n cap B m : Nat} {M : MV} {A : MA} : Ez (Dz w w3 g a n cap B m M A) [⟨m, mvc M A, []⟩] :=
  ⟨fun W h r hr => by rw [List.mem_singleton.1 hr]; exact ⟨_, _, h.row⟩, fun W h => h.below (Below.refl _ _).drew⟩

theorem sl_heap {k : IntKind} {w W : World} {p : Option Addr} {zs : List Int} (h : Sl k w p zs) (hn : ∀ b off, p = some ⟨b, off, none⟩ → W.heap[b]? = w.heap[b]?) (hsz : w.heap.size ≤ W.heap.size) : Sl k W p zs := by
  intro i hi
  obtain ⟨b, off, e, h1, h2⟩ := h i hi
  refine ⟨b, off, e, by omega, ?_⟩
  rw [← h2]
  simp only [World.cell?, hn b off e]

theorem msl_heap {B : Nat} {w W : World} {M : MV} {A : MA} (h : MSl w M A) (hn : MNew B A) (hk : ∀ k, B ≤ k → W.heap[k]? = w.heap[k]?) (hsz : w.heap.size ≤ W.heap.size) : MSl W M A :=
  ⟨sl_heap h.x (fun b off e => hk b (hn _ (.inl rfl) b off e)) hsz, sl_heap h.cs (fun b off e => hk b (hn _ (.inr (.inl rfl)) b off e)) hsz, sl_heap h.ram (fun b off e => hk b (hn _ (.inr (.inr (.inl rfl))) b off e)) hsz, sl_heap h.xs (fun b off e => hk b (hn _ (.inr (.inr (.inr (.inl rfl)))) b off e)) hsz, sl_heap h.ys (fun b off e => hk b (hn _ (.inr (.inr (.inr (.inr rfl)))) b off e)) hsz⟩

theorem Mp.setR {B r : Nat} {M : MV} {A : MA} {w : World} (h : Mp B r M A w) (b : Nat) (hb : A.ar = some ⟨b, 0, none⟩) (i : Nat) (v : Int) : Mp B r (memM M (M.ram.set i v)) A (w.setCell ⟨b, i, none⟩ (.int .u8 v)) ∧ Below B w (w.setCell ⟨b, i, none⟩ (.int .u8 v)) := by
  have hx := h.rrow
  rw [hb] at hx
  have hs := hx.stored i (.int .u8 v)
  have em : (M.ram.map (Value.int .u8)).set i (.int .u8 v) = (M.ram.set i v).map (Value.int .u8) := by rw [List.map_set]
  rw [em] at hs
  have hbB := ((hx.lt b rfl)).1
  have hg : w.grownBy (w.setCell ⟨b, i, none⟩ (.int .u8 v)) (bRow A.ar M.ram.length A.cr M.ram).v.ownBlock := by simp only [bRow]; rw [hb]; exact hs.2
  have hm := Fam.mark (L1 := [wRow A.ax M.x.length A.cx M.x, wRow A.ac M.cs.length A.cc M.cs]) (r := bRow A.ar M.ram.length A.cr M.ram) (L2 := [bRow A.ai M.d.xs.length A.ci M.d.xs, bRow A.ao M.d.ys.length A.co M.d.ys]) h.fam hg ((M.ram.set i v).map (Value.int .u8)) (by simp only [bRow]; rw [hb]; exact hs.1)
  have hne := h.ne (bRow A.ar M.ram.length A.cr M.ram) (by simp [mvF])
  have hbr : r ≠ b := fun e => hne (by simp only [bRow]; rw [hb, e]; rfl)
  have hsz : (w.setCell ⟨b, i, none⟩ (.int .u8 v)).heap.size = w.heap.size := size_set _ _ _
  have ef : mvF (memM M (M.ram.set i v)) A = [wRow A.ax M.x.length A.cx M.x, wRow A.ac M.cs.length A.cc M.cs] ++ ⟨(bRow A.ar M.ram.length A.cr M.ram).t, (bRow A.ar M.ram.length A.cr M.ram).v, (bRow A.ar M.ram.length A.cr M.ram).n, (M.ram.set i v).map (Value.int .u8)⟩ :: [bRow A.ai M.d.xs.length A.ci M.d.xs, bRow A.ao M.d.ys.length A.co M.d.ys] := by
    simp [mvF, memM, bRow]
  refine ⟨⟨?_, ?_, ?_, h.lo⟩, ⟨rfl, rfl, rfl, by rw [hsz]; exact Nat.le_refl _, fun k hk => Below.heap_setCell _ _ _ k (by dsimp only; omega)⟩⟩
  · have := row_far h.row ⟨b, i, none⟩ (.int .u8 v) hbr
    simpa [mvc, memM] using this
  · rw [ef, hsz]; exact hm.1
  · rw [ef]
    intro q hq
    simp only [List.cons_append, List.nil_append, List.mem_cons, List.not_mem_nil, or_false] at hq
    rcases hq with rfl | rfl | rfl | rfl | rfl
    · exact h.ne _ (by simp [mvF])
    · exact h.ne _ (by simp [mvF])
    · exact hne
    · exact h.ne _ (by simp [mvF])
    · exact h.ne _ (by simp [mvF])

structure Dy (w w3 : World) (g : Nat) (a : Option Addr) (n cap B m : Nat) (M : MV) (A : MA) (B2 m2 : Nat) (N : MV) (C : MA) (W : World) : Prop where
  z : Dz w w3 g a n cap B m M A W
  p : Mp B2 m2 N C W
  mB : m < B2

section
variable {w w3 : World} {g : Nat} {a : Option Addr} {n cap B m B2 m2 : Nat} {M N : MV} {A C : MA} {W W' : World}

theorem Dy.cs (h : Dy w w3 g a n cap B m M A B2 m2 N C W) (k : Cs w g a n cap W W') : Dy w w3 g a n cap B m M A B2 m2 N C W' := by
  have h2 := h.z.gB
  have h3 := h.z.Bm
  have h4 := h.mB
  have h5 := h.p.lo
  refine ⟨h.z.cs k, ⟨k.keep h.p.row (by omega), (h.p.fam.mono fun j h6 _ h7 => k.2.block j h7 (fun e => by cases e; omega)).low (Nat.le_refl _) k.2.size, h.p.ne, h5⟩, h4⟩

theorem Dy.step {N' : MV} (h : Dy w w3 g a n cap B m M A B2 m2 N C W) (p : Mp B2 m2 N' C W') (k : Below B2 W W') : Dy w w3 g a n cap B m M A B2 m2 N' C W' := by
  have h2 := h.z.gB
  have h3 := h.z.Bm
  have h1 := h.z.lg
  have h4 := h.mB
  exact ⟨h.z.bel k h4 (cur_bel h.z.cur k (by omega) (by omega)), p, h4⟩

theorem Dy.eng {P : Program} {fn : Func} {dr : Bool} {Rs : Ending → World → Prop} : Eng P (Dy w w3 g a n cap B m M A B2 m2 N C) (Dy w w3 g a n cap B m M A B2 m2 N C) [⟨m, mvc M A, []⟩, ⟨m2, mvc N C, []⟩] dr (bodyPost P fn Rs) :=
  ⟨fun _ h => h, fun W h r hr => by
    rcases List.mem_cons.1 hr with rfl | hr
    · exact ⟨_, _, h.z.row⟩
    · rw [List.mem_singleton.1 hr]; exact ⟨_, _, h.p.row⟩, fun _ W h => h.cs (Cs.of_below h.z.cur (Below.refl _ _).drew), pan_body⟩

structure Dq (w w3 : World) (g : Nat) (a : Option Addr) (n cap B m : Nat) (M : MV) (A : MA) (m2 : Nat) (N : MV) (C : MA) (W : World) : Prop where
  z : Dz w w3 g a n cap B m M A W
  row : W.heap[m2]? = some (.cells (mvc N C) 29 (0, 0))
  sl : MSl W N C
  nw : MNew (w.heap.size + 2) C
  mm : w.heap.size + 2 ≤ m2

theorem Dq.set {r : Nat} (h : Dq w w3 g a n cap B m M A m2 N C W) (hr : r = w.heap.size ∨ r = w.heap.size + 1) (cs : Array Value) (hs : cs.size = 14) : Dq w w3 g a n cap B m M A m2 N C (W.setRow r cs) := by
  have h1 := h.mm
  exact ⟨h.z.set hr cs hs, by rw [setRow_other W r m2 cs (by omega)]; exact h.row, msl_heap h.sl h.nw (fun k hk => setRow_other W r k cs (by omega)) (by rw [setRow_size]; exact Nat.le_refl _), h.nw, h1⟩

theorem Dq.ez : Ez (Dq w w3 g a n cap B m M A m2 N C) [⟨m, mvc M A, []⟩, ⟨m2, mvc N C, []⟩] :=
  ⟨fun W h r hr => by
    rcases List.mem_cons.1 hr with rfl | hr
    · exact ⟨_, _, h.z.row⟩
    · rw [List.mem_singleton.1 hr]; exact ⟨_, _, h.row⟩, fun W h => ⟨h.z.below (Below.refl _ _).drew, h.row, msl_heap h.sl h.nw (fun _ _ => rfl) (Nat.le_refl _), h.nw, h.mm⟩⟩

theorem Dy.q (h : Dy w w3 g a n cap B m M A B2 m2 N C W) : Dq w w3 g a n cap B m M A m2 N C W := by
  have h2 := h.z.gB
  have h3 := h.z.Bm
  have h1 := h.z.lg
  have h4 := h.mB
  have h5 := h.p.lo
  exact ⟨h.z, h.p.row, h.p.fam.msl, fun q hq b off e => by have := fam_from h.p.fam q hq b off e; omega, by omega⟩

end

structure Ms (M : MV) : Prop where
  len : MLen M
  ucs : ∀ j, U (M.cs.getD j 0)
  ram : ∀ y ∈ M.ram, (Lit.int .u8 y).wf = true
  xs : ∀ y ∈ M.d.xs, (Lit.int .u8 y).wf = true
  ys : ∀ y ∈ M.d.ys, (Lit.int .u8 y).wf = true

theorem Ma.s {M : MV} (h : Ma M) : Ms M := ⟨h.len, h.ucs, h.bram, h.d.by_.1, h.d.by_.2⟩

theorem set_byte {l : List Int} (h : ∀ y ∈ l, (Lit.int .u8 y).wf = true) (i : Nat) (x : Int) : ∀ y ∈ l.set i (IntKind.u8.wrap x), (Lit.int .u8 y).wf = true := by
  intro y hy
  rcases List.mem_or_eq_of_mem_set hy with hm | rfl
  · exact h y hm
  · rw [IntKind.wrap_u8]
    simp [Lit.wf, IntKind.min, IntKind.max, IntKind.signed, IntKind.bits]
    omega

theorem own_cell {W : World} {B n c b : Nat} {t : TypeId} {xs : List Value} (h : W.ownsRow B t 1 (.slice (some ⟨b, 0, none⟩) n c) n xs) (i : Nat) (v : Value) (hv : xs[i]? = some v) : W.cell? ⟨b, i, none⟩ = some v ∧ W.frozen? ⟨b, i, none⟩ = false := by
  rcases h.2 with ⟨e, _⟩ | ⟨g, cap, cur, e, _, hh, _, _, _, ht⟩
  · cases e
  · cases e
    refine ⟨?_, froz hh i⟩
    rw [row_cell hh, ← Array.getElem?_toList]
    rw [← ht, List.getElem?_take] at hv
    split at hv
    · exact hv
    · cases hv

theorem new_cell (w : World) (u : Value) (e : TypeId) (j : Nat) (x : Value) (h : [u][j]? = some x) : (w.alloc (.cells #[u] e (0, 0))).cell? ((⟨w.heap.size, 0, none⟩ : Addr).add j) = some x := by
  have hj : j = 0 := by
    rcases Nat.eq_zero_or_pos j with h0 | h0
    · exact h0
    · rw [List.getElem?_eq_none (by simp; omega)] at h; cases h
  subst hj
  have hn : (w.alloc (.cells #[u] e (0, 0))).heap[w.heap.size]? = some (.cells #[u] e (0, 0)) := heap_alloc_new _ _
  simp at h
  subst h
  show (w.alloc (.cells #[u] e (0, 0))).cell? ⟨w.heap.size, 0, none⟩ = some u
  simp only [World.cell?, hn]
  rfl

def outM (M : MV) : MV := { M with d := { M.d with ys := M.d.ys ++ [1] } }

def outA (A : MA) (a : Option Addr) (c : Nat) : MA := { A with ao := a, co := c }

theorem Mp.push {B r : Nat} {M : MV} {A : MA} {w : World} (h : Mp B r M A w) (hl : M.d.ys.length ≤ 1048576) (ty : TypeId) :
    ∃ (a : Option Addr) (c : Nat) (w' : World), (Builtin.append_ #[22, 22] ty #[.slice A.ao M.d.ys.length A.co, .slice (some ⟨w.heap.size, 0, none⟩) 1 1]).run Try.prog (w.alloc (.cells #[.int .u8 1] 5)) = .ok (.slice a (M.d.ys.length + 1) c) w' ∧
      w'.heap[r]? = some (.cells (mvc M A) 29 (0, 0)) ∧
      (w'.setCell ⟨r, 9, none⟩ (.slice a (M.d.ys.length + 1) c)).heap[r]? = some (.cells (mvc (outM M) (outA A a c)) 29 (0, 0)) ∧
      MSl (w'.setCell ⟨r, 9, none⟩ (.slice a (M.d.ys.length + 1) c)) (outM M) (outA A a c) ∧ MNew B (outA A a c) ∧ Below B w (w'.setCell ⟨r, 9, none⟩ (.slice a (M.d.ys.length + 1) c)) := by
  obtain ⟨i0, hi, hz0, hz1, hz2⟩ := info_parts Try.info5
  have hb := (Below.refl w.heap.size w).alloc (Nat.le_refl _) (.cells #[.int .u8 1] 5)
  have hlt := h.lt
  have hB : B ≤ w.heap.size := by have := h.lo; omega
  have hso := h.fam.own (bRow A.ao M.d.ys.length A.co M.d.ys) (by simp [mvF])
  obtain ⟨v, w', hr, h2, h3, _⟩ := run_append_own (P := Try.prog) (w.alloc (.cells #[.int .u8 1] 5)) B 22 ty 5 i0 (.int .u8 0) 1 1 Try.underlying22 hi hz0 hz1 hz2 rfl (by decide) _ M.d.ys.length _ (ownsRow_below hso hb) ⟨w.heap.size, 0, none⟩ 1 1 [.int .u8 1] rfl (fun j u hu => new_cell w _ _ j u hu) (by simp [Value.oneCell']) (by unfold maxLen; omega) (by omega) (by simp; omega)
  obtain ⟨a, c, rfl⟩ := own_shape3 h2
  have hrow : w'.heap[r]? = some (.cells (mvc M A) 29 (0, 0)) := by
    rw [h3.block r (by simp; omega) (fun e => h.ne (bRow A.ao M.d.ys.length A.co M.d.ys) (by simp [mvF]) e.symm)]
    exact dstays hb h.row
  have hsz : (w'.setCell ⟨r, 9, none⟩ (.slice a (M.d.ys.length + 1) c)).heap.size = w'.heap.size := size_set _ _ _
  have ey : (M.d.ys ++ [1]).length = M.d.ys.length + 1 := by simp
  have hpw := h.fam.ne
  simp only [mvF, List.pairwise_cons, List.mem_cons, List.not_mem_nil, or_false] at hpw
  obtain ⟨p1, p2, p3, p4, _⟩ := hpw
  have kp : ∀ (q : FRow), q ∈ mvF M A → (∀ k, q.v.ownBlock = some k → (bRow A.ao M.d.ys.length A.co M.d.ys).v.ownBlock ≠ some k) → w'.ownsRow B q.t 1 q.v q.n q.xs := fun q hq hn => by
    have h5 := h.fam.own q hq
    refine fown_of h5 (fun k e => ?_)
    have h6 := (h5.lt k e).2
    rw [h3.block k (by simp; omega) (fun e2 => hn k e e2.symm)]
    exact hb.block k h6
  have far : ∀ {k : IntKind} {p : Option Addr} {n c2 : Nat} {zs : List Int}, Sl k w' p zs → (Value.slice p n c2).ownBlock ≠ some r → Sl k (w'.setCell ⟨r, 9, none⟩ (.slice a (M.d.ys.length + 1) c)) p zs := fun hs hn => sl_heap hs (fun b off e => Below.heap_setCell _ _ _ b (fun e2 => hn (by rw [e, show b = r from e2]; rfl))) (by rw [hsz]; exact Nat.le_refl _)
  have ox := kp (wRow A.ax M.x.length A.cx M.x) (by simp [mvF]) (p1 _ (by simp))
  have oc := kp (wRow A.ac M.cs.length A.cc M.cs) (by simp [mvF]) (p2 _ (by simp))
  have orr := kp (bRow A.ar M.ram.length A.cr M.ram) (by simp [mvF]) (p3 _ (by simp))
  have oi := kp (bRow A.ai M.d.xs.length A.ci M.d.xs) (by simp [mvF]) (p4 _ (by simp))
  have hy2 : w'.ownsRow B 5 1 (.slice a (M.d.ys.length + 1) c) (M.d.ys.length + 1) ((M.d.ys ++ [1]).map (Value.int .u8)) := by
    rw [List.map_append]; exact h2
  refine ⟨a, c, w', hr, hrow, ?_, ⟨far (own_sl' ox) (h.ne (wRow A.ax M.x.length A.cx M.x) (by simp [mvF])), far (own_sl' oc) (h.ne (wRow A.ac M.cs.length A.cc M.cs) (by simp [mvF])), far (own_sl' orr) (h.ne (bRow A.ar M.ram.length A.cr M.ram) (by simp [mvF])), far (own_sl' oi) (h.ne (bRow A.ai M.d.xs.length A.ci M.d.xs) (by simp [mvF])), far (n := M.d.ys.length + 1) (c2 := c) (own_sl' hy2) (fun e => ?_)⟩, ?_, ?_⟩
  · have h4 := row_set hrow 9 (.slice a (M.d.ys.length + 1) c)
    have e : mvc (outM M) (outA A a c) = (mvc M A).setIfInBounds 9 (.slice a (M.d.ys.length + 1) c) := by
      unfold mvc outM outA
      dsimp only
      rw [ey]
      rfl
    rw [e]
    exact h4
  · have e : (Value.slice a (M.d.ys.length + 1) c).ownBlock = some r := e
    rcases hy2.2 with ⟨e1, _⟩ | ⟨g, cap, cur, e1, _, hh, _⟩
    · rw [e1] at e; cases e
    · rw [e1] at e
      have eg : g = r := Option.some.inj e
      rw [eg, hrow] at hh
      simp only [Option.some.injEq, Obj.cells.injEq] at hh
      exact absurd hh.2.1 (by decide)
  · intro p hp b off e
    rcases hp with rfl | rfl | rfl | rfl | rfl
    · exact own_from ox e
    · exact own_from oc e
    · exact own_from orr e
    · exact own_from oi e
    · exact own_from hy2 e
  · have h7 : Below B w w' := (hb.mono hB).grown h3 (Nat.le_trans hB hb.size) (fun k e => ((hso.lt k e).1))
    have h8 := h.lo
    exact h7.trans ⟨rfl, rfl, rfl, by rw [hsz]; exact Nat.le_refl _, fun k hk => Below.heap_setCell _ _ _ k (by dsimp only; omega)⟩

def appS (T : TypeId) (v u : Value) : Sem Next := execOp (fun x => match x with | .tmp 0 => v | _ => u) { dst := none, op := .call { callee := .builtin .append, args := #[.tmp 0, .tmp 1], argTypes := #[T, T] }, type := T, pos := "", after := #[], guard := none }

theorem run_appS {P : Program} {T : TypeId} {v u x : Value} {w w' : World} (h : (Builtin.append_ #[T, T] T #[v, u]).run P w = .ok x w') : (appS T v u).run P w = .ok (.value x) w' := by
  unfold appS execOp
  simp only [resolve, invoke, builtin, Sem.run_bind, Sem.run_pure, Result.andThen_ok, List.map_toArray, List.map_cons, List.map_nil, h]

set_option maxRecDepth 100000 in
set_option maxHeartbeats 3200000 in
theorem DrawSame_c {a : Option Addr} {n : Nat} (cap : Nat) {zs : List Int} (w : World) (hcd : Code w a n zs) :
    Calls Try.prog 5 #[.slice a n cap] w fun e w' => ∃ (M N : MV) (A C : MA), e = .returned (.tuple #[.agg (mvc M A), .agg (mvc N C)]) ∧ Ms M ∧ Ms N ∧ MSl w' M A ∧ MSl w' N C ∧ Below w.heap.size w w' := by
  refine wk_go (S := fun _ => True) (args := [.slice a n cap]) [(mvc zeroM zeroA, 29), (mvc zeroM zeroA, 29)] Try.func5 rfl (by kernel_rfl) (by kernel_rfl) ?_
  have hB0 : Below w.heap.size w (allocs w [(mvc zeroM zeroA, 29), (mvc zeroM zeroA, 29)]) := ((Below.refl _ _).alloc (Nat.le_refl _) _).alloc (by simp) _
  have hS0 : (allocs w [(mvc zeroM zeroA, 29), (mvc zeroM zeroA, 29)]).heap.size = w.heap.size + 2 := by simp [allocs]
  obtain ⟨hR0, _⟩ := Bs.start w [(mvc zeroM zeroA, 29), (mvc zeroM zeroA, 29)]
  have hA0 := hR0 0 _ rfl
  have hA1 := hR0 1 _ rfl
  generalize allocs w [(mvc zeroM zeroA, 29), (mvc zeroM zeroA, 29)] = w1 at *
  have hcd1 : Code w1 a n zs := ⟨hcd.len, hcd.few, hcd.sl.below hB0, hcd.bd⟩
  refine wx_call (R := []) trivial {} 40 (l1New_c cap w1 hcd1) (by kernel_rfl) (by kernel_rfl) ?_
  rintro e w2 ⟨g, rfl, hc0⟩
  refine ⟨_, 0, rfl, ?_⟩
  have hc2 : Cur w w2 g a n cap := ⟨by have := hc0.out.new; omega, hB0.trans (hc0.out.below.mono (by omega)), hc0.out.row⟩
  refine wx_call (R := []) trivial {} 40 (l9DrawAny_c hcd w2 hc2) (by kernel_rfl) (by kernel_rfl) ?_
  rintro e w3 ⟨M, A, rfl, hma, hsl, _, hnew, hcs⟩
  refine ⟨_, 0, rfl, ?_⟩
  refine wx_op (R := []) trivial {} 10 1 (run_al (T := 29) (z := .agg (mvc zeroM zeroA)) (by kernel_rfl) w3) (by kernel_rfl) (by kernel_rfl) ?_
  refine wx_sk (R := []) trivial {} 10 (run_stRow (ty := 29) (cells := mvc M A) (heap_alloc_new w3 _) (by kernel_rfl) (by kernel_rfl) (mvc_oneM M A)) (by kernel_rfl) (by kernel_rfl) ?_
  rw [World.setRow_alloc_new]
  have hg1 := hc0.out.new
  have hg2 := hc2.lt
  have hg3 := hcs.out.2.size
  have hz4 : Dz w w3 g a n cap w2.heap.size w3.heap.size M A (w3.alloc (.cells (mvc M A) 29)) := by
    have hb := (Below.refl w3.heap.size w3).alloc (Nat.le_refl _) (.cells (mvc M A) 29)
    refine ⟨(Cs.of_below hcs.out.1 hb).1, ⟨mvc zeroM zeroA, rfl, ?_⟩, ⟨mvc zeroM zeroA, rfl, ?_⟩, heap_alloc_new _ _, fun k _ hk => hb.block k hk, by omega, hg2, hg3⟩
    · exact dstays hb (hcs.out.keep (by rw [hc0.out.below.block _ (by omega)]; exact hA0) (by omega))
    · exact dstays hb (hcs.out.keep (by rw [hc0.out.below.block _ (by omega)]; exact hA1) (by omega))
  generalize w3.alloc (.cells (mvc M A) 29) = w4 at *
  have hSL : ∀ W, Dz w w3 g a n cap w2.heap.size w3.heap.size M A W → MSl W M A := fun W hW => hW.sl hsl.out hnew.out (Nat.le_refl _)
  refine wx_adv (R := []) trivial {} 1 (by kernel_rfl) (by kernel_rfl) ?_
  refine wk_S (Dz w w3 g a n cap w2.heap.size w3.heap.size M A) (by kernel_rfl) ?_
  refine wk_join [.code (dropC 3 (bodyOf Try.f5))] [(2, .pointer (some ⟨w.heap.size, 0, none⟩), 0), (3, .pointer (some ⟨w.heap.size + 1, 0, none⟩), 0), (4, .pointer (some ⟨g, 0, none⟩), 0), (5, .pointer (some ⟨w3.heap.size, 0, none⟩), 1)] (by kernel_rfl) (by kernel_rfl) ?_
  refine wk_ac Dz.eng {} 40 hz4 (fun W hW => l1Once_c hcd 5 (by omega) W hW.cur) (by kernel_rfl) (by kernel_rfl) ?_
  rintro W5 e w6 hz5 ⟨c, rfl, hcs6⟩
  refine ⟨_, 0, rfl, nob (by kernel_rfl), ?_⟩
  have hz6 := hz5.cs hcs6.out
  clear hz4 hz5 hcs6
  cases c with
  | true =>
    refine wk_ac Dz.eng {} 60 hz6 (fun W hW => l9DrawAny_c hcd W hW.cur) (by kernel_rfl) (by kernel_rfl) ?_
    rintro W7 e w8 hz7 ⟨N, C, rfl, hna, hns, _, hnn, hcs8⟩
    have hz8 := hz7.cs hcs8.out
    refine ⟨_, 0, rfl, fun _ => hz8, ?_⟩
    obtain ⟨c1, s1, e1⟩ := hz8.r1
    refine wk_sk (by kernel_rfl) (run_stRow (ty := 29) (cells := mvc M A) e1 (by kernel_rfl) s1 (mvc_oneM M A)) (fun _ => hz8.set (.inl rfl) _ rfl) ?_
    have hz9 := hz8.set (.inl rfl) (mvc M A) rfl
    obtain ⟨c2, s2, e2⟩ := hz9.r2
    refine wk_sk (by kernel_rfl) (run_stRow (ty := 29) (cells := mvc N C) e2 (by kernel_rfl) s2 (mvc_oneM N C)) (fun _ => hz9.set (.inr rfl) _ rfl) ?_
    have hz10 := hz9.set (.inr rfl) (mvc N C) rfl
    refine wz_ret Dz.ez hz10 {} 40 (by kernel_rfl) (by kernel_rfl) fun V b hV hk => ⟨_, results_cc (ty := 29) rfl b.tmps V (hk.slot (v := .pointer (some ⟨w.heap.size, 0, none⟩)) (by kernel_rfl)) (hk.slot (v := .pointer (some ⟨w.heap.size + 1, 0, none⟩)) (by kernel_rfl)) (c1 := mvc M A) (c2 := mvc N C) (t1 := 29) (t2 := 29) (f1 := (0, 0)) (f2 := (0, 0)) (by rw [hV.heap, setRow_other _ _ _ _ (by omega)]; exact setRow_heap _ _ _ _ _ _ e1) (by rw [hV.heap]; exact setRow_heap _ _ _ _ _ _ e2) Try.underlying29 rfl mac_size mac_size, M, N, A, C, rfl, hma.out.s, hna.out.s, hSL V (Dz.ez.dw hz10 hV), ?_, (Dz.ez.dw hz10 hV).cur.below⟩
    have h7 := (Array.getElem?_eq_some_iff.1 hz7.row).1
    refine msl_heap (B := w.heap.size + 2) hns.out (fun p hp b off e => by have := hnn.out p hp b off e; omega) (fun k hk => ?_) (by rw [hV.heap, setRow_size, setRow_size]; exact Nat.le_refl _)
    rw [hV.heap, setRow_other _ _ _ _ (by omega), setRow_other _ _ _ _ (by omega)]
  | false =>
    refine wk_ac Dz.eng {} 60 hz6 (fun W hW => l9Copy_any M A W hma.out.len (hSL W hW)) (by kernel_rfl) (by kernel_rfl) ?_
    rintro W7 e w8 hz7 ⟨C, rfl, hf8, hb8⟩
    refine ⟨_, 0, rfl, nob (by kernel_rfl), ?_⟩
    have hz8 := hz7.below hb8
    refine wk_op 2 (by kernel_rfl) (run_al (T := 29) (z := .agg (mvc zeroM zeroA)) (by kernel_rfl) w8) (nob (by kernel_rfl)) ?_
    refine wk_sk (by kernel_rfl) (run_stRow (ty := 29) (cells := mvc M C) (heap_alloc_new w8 _) (by kernel_rfl) (by kernel_rfl) (mvc_oneM M C)) (nob (by kernel_rfl)) ?_
    rw [World.setRow_alloc_new]
    have hy9 : Dy w w3 g a n cap w2.heap.size w3.heap.size M A W7.heap.size w8.heap.size M C (w8.alloc (.cells (mvc M C) 29)) := by
      have hb := (Below.refl w8.heap.size w8).alloc (Nat.le_refl _) (.cells (mvc M C) 29)
      exact ⟨hz8.below hb, ⟨heap_alloc_new _ _, (hf8.below hb).low (Nat.le_refl _) hb.size, fun q hq e => by have := hf8.hi q hq _ e; omega, hb8.size⟩, (Array.getElem?_eq_some_iff.1 hz7.row).1⟩
    generalize w8.alloc (.cells (mvc M C) 29) = w9 at *
    have hms := hma.out.s
    have fin : ∀ (S : World → Prop) (N : MV) (C : MA) (W : World), Dq w w3 g a n cap w2.heap.size w3.heap.size M A w8.heap.size N C W → Ms N → Wg Try.prog S (bodyPost Try.prog Try.f5 fun e w' => ∃ (M N : MV) (A C : MA), e = .returned (.tuple #[.agg (mvc M A), .agg (mvc N C)]) ∧ Ms M ∧ Ms N ∧ MSl w' M A ∧ MSl w' N C ∧ Below w.heap.size w w') Try.f5.ntmps [.code (headC (dropC 6 (bodyOf Try.f5))), .code (dropC 7 (bodyOf Try.f5))] [(2, .pointer (some ⟨w.heap.size, 0, none⟩), 0), (3, .pointer (some ⟨w.heap.size + 1, 0, none⟩), 0), (4, .pointer (some ⟨g, 0, none⟩), 0), (5, .pointer (some ⟨w3.heap.size, 0, none⟩), 1), (6, .pointer (some ⟨w8.heap.size, 0, none⟩), 2)] W := by
      intro S N C W hq hN
      refine wk_S (Dq w w3 g a n cap w2.heap.size w3.heap.size M A w8.heap.size N C) (by kernel_rfl) ?_
      refine wz_sk Dq.ez hq {} 80 (s := do Instr.storeAt 29 (.pointer (some ⟨w.heap.size, 0, none⟩)) (.agg (mvc M A)); pure Next.skip) (fun W => W.setRow w.heap.size (mvc M A)) (fun W hW => ?_) (by kernel_rfl) (by kernel_rfl) fun W hW => ⟨(Dq.ez.dw hq hW).set (.inl rfl) _ rfl, ?_⟩
      · obtain ⟨c1, s1, e1⟩ := (Dq.ez.dw hq hW).z.r1
        exact run_stRow e1 (by kernel_rfl) s1 (mvc_oneM M A)
      obtain ⟨c1, s1, e1⟩ := (Dq.ez.dw hq hW).z.r1
      have hq2 := (Dq.ez.dw hq hW).set (.inl rfl) (mvc M A) rfl
      refine wz_sk Dq.ez hq2 {} 10 (s := do Instr.storeAt 29 (.pointer (some ⟨w.heap.size + 1, 0, none⟩)) (.agg (mvc N C)); pure Next.skip) (fun W => W.setRow (w.heap.size + 1) (mvc N C)) (fun W hW => ?_) (by kernel_rfl) (by kernel_rfl) fun W2 hW2 => ⟨(Dq.ez.dw hq2 hW2).set (.inr rfl) _ rfl, ?_⟩
      · obtain ⟨c1, s1, e1⟩ := (Dq.ez.dw hq2 hW).z.r2
        exact run_stRow e1 (by kernel_rfl) s1 (mvc_oneM _ _)
      obtain ⟨c2, s2, e2⟩ := (Dq.ez.dw hq2 hW2).z.r2
      have hq3 := (Dq.ez.dw hq2 hW2).set (.inr rfl) (mvc N C) rfl
      refine wz_ret Dq.ez hq3 {} 40 (by kernel_rfl) (by kernel_rfl) fun V b hV hk => ⟨_, results_cc (ty := 29) rfl b.tmps V (hk.slot (v := .pointer (some ⟨w.heap.size, 0, none⟩)) (by kernel_rfl)) (hk.slot (v := .pointer (some ⟨w.heap.size + 1, 0, none⟩)) (by kernel_rfl)) (c1 := mvc M A) (c2 := mvc N C) (t1 := 29) (t2 := 29) (f1 := (0, 0)) (f2 := (0, 0)) (by rw [hV.heap, setRow_other _ _ _ _ (by omega), hW2.heap]; exact setRow_heap _ _ _ _ _ _ e1) (by rw [hV.heap]; exact setRow_heap _ _ _ _ _ _ e2) Try.underlying29 rfl mac_size mac_size, M, N, A, C, rfl, hma.out.s, hN, hSL V (Dq.ez.dw hq3 hV).z, (Dq.ez.dw hq3 hV).sl, (Dq.ez.dw hq3 hV).z.cur.below⟩
    refine wx_adv (R := []) trivial {} 1 (by kernel_rfl) (by kernel_rfl) ?_
    refine wk_S (Dy w w3 g a n cap w2.heap.size w3.heap.size M A W7.heap.size w8.heap.size M C) (by kernel_rfl) ?_
    refine wk_join [.code (dropC 5 (bodyOf Try.f5))] [(2, .pointer (some ⟨w.heap.size, 0, none⟩), 0), (3, .pointer (some ⟨w.heap.size + 1, 0, none⟩), 0), (4, .pointer (some ⟨g, 0, none⟩), 0), (5, .pointer (some ⟨w3.heap.size, 0, none⟩), 1), (6, .pointer (some ⟨w8.heap.size, 0, none⟩), 2)] (by kernel_rfl) (by kernel_rfl) ?_
    refine wk_ac (Dy.eng (dr := true)) {} 40 hy9 (fun W hW => l1Once_c hcd 2 (by omega) W hW.z.cur) (by kernel_rfl) (by kernel_rfl) ?_
    rintro W10 e w11 hy10 ⟨c, rfl, hcs11⟩
    refine ⟨_, 0, rfl, nob (by kernel_rfl), ?_⟩
    have hy11 := hy10.cs hcs11.out
    cases c with
    | false =>
      refine wk_adv (Dy.eng (dr := false)) {} 20 hy11 (by kernel_rfl) (by kernel_rfl) fun W hW => ?_
      exact wk_join [.code (headC (dropC 6 (bodyOf Try.f5))), .code (dropC 7 (bodyOf Try.f5))] [(2, .pointer (some ⟨w.heap.size, 0, none⟩), 0), (3, .pointer (some ⟨w.heap.size + 1, 0, none⟩), 0), (4, .pointer (some ⟨g, 0, none⟩), 0), (5, .pointer (some ⟨w3.heap.size, 0, none⟩), 1), (6, .pointer (some ⟨w8.heap.size, 0, none⟩), 2)] (by kernel_rfl) (by kernel_rfl) (fin _ M C W hW.q hms)
    | true =>
      refine wk_ac (Dy.eng (dr := true)) {} 40 hy11 (fun W hW => l1Below_c hcd 5 (by omega) W hW.z.cur) (by kernel_rfl) (by kernel_rfl) ?_
      rintro W12 e w13 hy12 ⟨x, rfl, ⟨hx0, hx5⟩, hcs13⟩
      refine ⟨_, 0, rfl, nob (by kernel_rfl), ?_⟩
      have hy13 := hy12.cs hcs13.out
      obtain rfl | rfl | rfl | rfl | rfl : x = 0 ∨ x = 1 ∨ x = 2 ∨ x = 3 ∨ x = 4 := by omega
      · refine wk_adv (Dy.eng (dr := true)) {} 80 hy13 (by kernel_rfl) (by kernel_rfl) fun W hW => ?_
        refine wk_sk (by kernel_rfl) (run_st1 (T := 24) (v := .int .u64 (IntKind.u64.wrap (M.pc + 4))) (row_cell hW.p.row 0) (froz hW.p.row 0) (by kernel_rfl) rfl) (nob (by kernel_rfl)) ?_
        have hst := hW.p.setF (M' := { M with pc := IntKind.u64.wrap (M.pc + 4) }) 0 (.int .u64 (IntKind.u64.wrap (M.pc + 4))) rfl rfl
        have hq := (hW.step hst.1 hst.2).q
        have hN : Ms { M with pc := IntKind.u64.wrap (M.pc + 4) } := ⟨⟨hms.len.x, hms.len.cs, hms.len.ram, hms.len.xs, hms.len.ys⟩, hms.ucs, hms.ram, hms.xs, hms.ys⟩
        refine wx_adv (R := []) trivial {} 20 (by kernel_rfl) (by kernel_rfl) ?_
        exact wk_join [.code (headC (dropC 6 (bodyOf Try.f5))), .code (dropC 7 (bodyOf Try.f5))] [(2, .pointer (some ⟨w.heap.size, 0, none⟩), 0), (3, .pointer (some ⟨w.heap.size + 1, 0, none⟩), 0), (4, .pointer (some ⟨g, 0, none⟩), 0), (5, .pointer (some ⟨w3.heap.size, 0, none⟩), 1), (6, .pointer (some ⟨w8.heap.size, 0, none⟩), 2)] (by kernel_rfl) (by kernel_rfl) (fin _ _ _ _ hq hN)
      · have hlen := hma.out.pos.1
        obtain ⟨bx, cx, hsh, _⟩ := own_shape hy13.p.xrow hlen
        have hbx : C.ax = some ⟨bx, 0, none⟩ := (Value.slice.inj hsh).1
        have hi : IntKind.i64.wrap ((M.x.length : Int) - 1) = ((M.x.length - 1 : Nat) : Int) := by
          have := hms.len.x
          rw [IntKind.wrap_i64]
          omega
        obtain ⟨ix, hix⟩ : ∃ ix, ix = M.x.length - 1 := ⟨_, rfl⟩
        rw [← hix] at hi
        have hcell : ∀ W, Dy w w3 g a n cap w2.heap.size w3.heap.size M A W7.heap.size w8.heap.size M C W → W.cell? ⟨bx, 0 + (ix : Int).toNat, none⟩ = some (.int .u64 (M.x.getD ix 0)) ∧ W.frozen? ⟨bx, 0 + (ix : Int).toNat, none⟩ = false := by
          intro W hW
          have h := hW.p.xrow
          rw [hbx] at h
          rw [show 0 + (ix : Int).toNat = ix from by simp]
          refine own_cell h ix _ ?_
          rw [List.getElem?_map, List.getElem?_eq_getElem (by omega)]
          simp [List.getD, show ix < M.x.length by omega]
        refine wk_adv (Dy.eng (dr := false)) {} 80 hy13 (by kernel_rfl) (by kernel_rfl) fun W hW => ?_
        refine wk_tail (by kernel_rfl) (by kernel_rfl) ?_
        refine wk_adv (Dy.eng (dr := true)) { eq := [(35, eqI .i64 hi), (41, eqI .i64 hi)], ov := [(42, ovX M.x.length C.cx .i64 (ix : Int) hbx ⟨by omega, by omega⟩ Try.underlying25 (by kernel_rfl)), (43, ovL ⟨bx, 0 + (ix : Int).toNat, none⟩ (.int .u64 (M.x.getD ix 0)) Try.underlying24 rfl (fun W hW => (hcell W hW).1)), (45, ovX M.x.length C.cx .i64 (ix : Int) hbx ⟨by omega, by omega⟩ Try.underlying25 (by kernel_rfl))] } 80 (hW.cs (Cs.of_below hW.z.cur (Below.refl _ _).drew)) (by kernel_rfl) (by kernel_rfl) fun W hW => ?_
        refine wk_sk (by kernel_rfl) (run_st1 (T := 24) (v := .int .u64 (IntKind.u64.wrap (M.x.getD ix 0 + 1))) (hcell W hW).1 (hcell W hW).2 (by kernel_rfl) rfl) (nob (by kernel_rfl)) ?_
        have hst := hW.p.setX bx hbx (0 + (ix : Int).toNat) (IntKind.u64.wrap (M.x.getD ix 0 + 1))
        have hq := (hW.step hst.1 hst.2).q
        have hN : Ms (xM M (M.x.set (0 + (ix : Int).toNat) (IntKind.u64.wrap (M.x.getD ix 0 + 1)))) := ⟨⟨by show (M.x.set _ _).length ≤ _; rw [List.length_set]; exact hms.len.x, hms.len.cs, hms.len.ram, hms.len.xs, hms.len.ys⟩, hms.ucs, hms.ram, hms.xs, hms.ys⟩
        refine wx_adv (R := []) trivial {} 20 (by kernel_rfl) (by kernel_rfl) ?_
        exact wk_join [.code (headC (dropC 6 (bodyOf Try.f5))), .code (dropC 7 (bodyOf Try.f5))] [(2, .pointer (some ⟨w.heap.size, 0, none⟩), 0), (3, .pointer (some ⟨w.heap.size + 1, 0, none⟩), 0), (4, .pointer (some ⟨g, 0, none⟩), 0), (5, .pointer (some ⟨w3.heap.size, 0, none⟩), 1), (6, .pointer (some ⟨w8.heap.size, 0, none⟩), 2)] (by kernel_rfl) (by kernel_rfl) (fin _ _ _ _ hq hN)
      · have hlen := hma.out.pos.2
        obtain ⟨bx, cx, hsh, _⟩ := own_shape hy13.p.rrow hlen
        have hbx : C.ar = some ⟨bx, 0, none⟩ := (Value.slice.inj hsh).1
        have hi : IntKind.i64.wrap ((M.ram.length : Int) - 1) = ((M.ram.length - 1 : Nat) : Int) := by
          have := hms.len.ram
          rw [IntKind.wrap_i64]
          omega
        obtain ⟨ix, hix⟩ : ∃ ix, ix = M.ram.length - 1 := ⟨_, rfl⟩
        rw [← hix] at hi
        have hcell : ∀ W, Dy w w3 g a n cap w2.heap.size w3.heap.size M A W7.heap.size w8.heap.size M C W → W.cell? ⟨bx, 0 + (ix : Int).toNat, none⟩ = some (.int .u8 (M.ram.getD ix 0)) ∧ W.frozen? ⟨bx, 0 + (ix : Int).toNat, none⟩ = false := by
          intro W hW
          have h := hW.p.rrow
          rw [hbx] at h
          rw [show 0 + (ix : Int).toNat = ix from by simp]
          refine own_cell h ix _ ?_
          rw [List.getElem?_map, List.getElem?_eq_getElem (by omega)]
          simp [List.getD, show ix < M.ram.length by omega]
        refine wk_adv (Dy.eng (dr := false)) {} 80 hy13 (by kernel_rfl) (by kernel_rfl) fun W hW => ?_
        refine wk_tail (by kernel_rfl) (by kernel_rfl) ?_
        refine wk_adv (Dy.eng (dr := true)) { eq := [(53, eqI .i64 hi), (59, eqI .i64 hi)], ov := [(60, ovX M.ram.length C.cr .i64 (ix : Int) hbx ⟨by omega, by omega⟩ Try.underlying22 (by kernel_rfl)), (61, ovL ⟨bx, 0 + (ix : Int).toNat, none⟩ (.int .u8 (M.ram.getD ix 0)) Try.underlying5 rfl (fun W hW => (hcell W hW).1)), (63, ovX M.ram.length C.cr .i64 (ix : Int) hbx ⟨by omega, by omega⟩ Try.underlying22 (by kernel_rfl))] } 80 (hW.cs (Cs.of_below hW.z.cur (Below.refl _ _).drew)) (by kernel_rfl) (by kernel_rfl) fun W hW => ?_
        refine wk_sk (by kernel_rfl) (run_st1 (T := 5) (v := .int .u8 (IntKind.u8.wrap (M.ram.getD ix 0 + 1))) (hcell W hW).1 (hcell W hW).2 (by kernel_rfl) rfl) (nob (by kernel_rfl)) ?_
        have hst := hW.p.setR bx hbx (0 + (ix : Int).toNat) (IntKind.u8.wrap (M.ram.getD ix 0 + 1))
        have hq := (hW.step hst.1 hst.2).q
        have hN : Ms (memM M (M.ram.set (0 + (ix : Int).toNat) (IntKind.u8.wrap (M.ram.getD ix 0 + 1)))) := ⟨⟨hms.len.x, hms.len.cs, by show (M.ram.set _ _).length ≤ _; rw [List.length_set]; exact hms.len.ram, hms.len.xs, hms.len.ys⟩, hms.ucs, set_byte hms.ram _ _, hms.xs, hms.ys⟩
        refine wx_adv (R := []) trivial {} 20 (by kernel_rfl) (by kernel_rfl) ?_
        exact wk_join [.code (headC (dropC 6 (bodyOf Try.f5))), .code (dropC 7 (bodyOf Try.f5))] [(2, .pointer (some ⟨w.heap.size, 0, none⟩), 0), (3, .pointer (some ⟨w.heap.size + 1, 0, none⟩), 0), (4, .pointer (some ⟨g, 0, none⟩), 0), (5, .pointer (some ⟨w3.heap.size, 0, none⟩), 1), (6, .pointer (some ⟨w8.heap.size, 0, none⟩), 2)] (by kernel_rfl) (by kernel_rfl) (fin _ _ _ _ hq hN)
      · refine wk_adv (Dy.eng (dr := true)) {} 80 hy13 (by kernel_rfl) (by kernel_rfl) fun W hW => ?_
        refine wk_sk (by kernel_rfl) (run_st1 (T := 4) (v := .bool (!M.wt)) (row_cell hW.p.row 13) (froz hW.p.row 13) (by kernel_rfl) rfl) (nob (by kernel_rfl)) ?_
        have hst := hW.p.setF (M' := { M with wt := !M.wt }) 13 (.bool (!M.wt)) rfl rfl
        have hq := (hW.step hst.1 hst.2).q
        have hN : Ms { M with wt := !M.wt } := ⟨⟨hms.len.x, hms.len.cs, hms.len.ram, hms.len.xs, hms.len.ys⟩, hms.ucs, hms.ram, hms.xs, hms.ys⟩
        refine wx_adv (R := []) trivial {} 20 (by kernel_rfl) (by kernel_rfl) ?_
        exact wk_join [.code (headC (dropC 6 (bodyOf Try.f5))), .code (dropC 7 (bodyOf Try.f5))] [(2, .pointer (some ⟨w.heap.size, 0, none⟩), 0), (3, .pointer (some ⟨w.heap.size + 1, 0, none⟩), 0), (4, .pointer (some ⟨g, 0, none⟩), 0), (5, .pointer (some ⟨w3.heap.size, 0, none⟩), 1), (6, .pointer (some ⟨w8.heap.size, 0, none⟩), 2)] (by kernel_rfl) (by kernel_rfl) (fin _ _ _ _ hq hN)
      · refine wk_adv (Dy.eng (dr := true)) {} 80 hy13 (by kernel_rfl) (by kernel_rfl) fun W hW => ?_
        obtain ⟨a', c', w', hrun, hr0, hrow, hsl', hnw, hbel⟩ := hW.p.push hms.len.ys 22
        refine wk_op 0 (s := do pure (.value (← Instr.buildSlice 22 1 #[(0, .int .u8 1)]))) (v := .slice (some ⟨W.heap.size, 0, none⟩) 1 1) (w' := W.alloc (.cells #[.int .u8 1] 5)) (by kernel_rfl) (by kernel_rfl) (nob (by kernel_rfl)) ?_
        refine wk_op 0 (s := appS 22 (.slice C.ao M.d.ys.length C.co) (.slice (some ⟨W.heap.size, 0, none⟩) 1 1)) (by kernel_rfl) (run_appS hrun) (nob (by kernel_rfl)) ?_
        refine wx_sk (R := []) trivial {} 10 (run_st1 (T := 22) (v := .slice a' (M.d.ys.length + 1) c') (row_cell hr0 9) (froz hr0 9) (by kernel_rfl) rfl) (by kernel_rfl) (by kernel_rfl) ?_
        have q1 := hW.z.gB
        have q2 := hW.z.Bm
        have q3 := hW.z.lg
        have q4 := hW.mB
        have q5 := hW.p.lo
        have hq : Dq w w3 g a n cap w2.heap.size w3.heap.size M A w8.heap.size (outM M) (outA C a' c') (w'.setCell ⟨w8.heap.size, 9, none⟩ (.slice a' (M.d.ys.length + 1) c')) := ⟨hW.z.bel hbel q4 (cur_bel hW.z.cur hbel (by omega) (by omega)), hrow, hsl', fun p hp b off e => by have := hnw p hp b off e; omega, by omega⟩
        have hN : Ms (outM M) := ⟨⟨hms.len.x, hms.len.cs, hms.len.ram, hms.len.xs, by show (M.d.ys ++ [1]).length ≤ _; have := hma.out.d.l2; simp; omega⟩, hms.ucs, hms.ram, hms.xs, fun y hy => by rcases List.mem_append.1 hy with hy | hy; exact hms.ys y hy; rw [List.mem_singleton.1 hy]; decide⟩
        refine wx_adv (R := []) trivial {} 20 (by kernel_rfl) (by kernel_rfl) ?_
        exact wk_join [.code (headC (dropC 6 (bodyOf Try.f5))), .code (dropC 7 (bodyOf Try.f5))] [(2, .pointer (some ⟨w.heap.size, 0, none⟩), 0), (3, .pointer (some ⟨w.heap.size + 1, 0, none⟩), 0), (4, .pointer (some ⟨g, 0, none⟩), 0), (5, .pointer (some ⟨w3.heap.size, 0, none⟩), 1), (6, .pointer (some ⟨w8.heap.size, 0, none⟩), 2)] (by kernel_rfl) (by kernel_rfl) (fin _ _ _ _ hq hN)

end Go.Proofs.Ytmigfnlfjgkgkaa
