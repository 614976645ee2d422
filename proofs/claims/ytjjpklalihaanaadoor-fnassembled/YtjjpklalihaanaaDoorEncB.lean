/- The program's look-up of bare instructions. -/
import Derived.Test.YtjjpklalihaanaaDoorEncN
import Derived.Test.YtjjpklalihaanaaDoorDecD
import Derived.ChangeMaps5
namespace Go.Proofs.YtjjpklalihaanaaDoor
open Go.RowKit
set_option linter.unusedVariables false

/-- A bare instruction's key. -/
def bareKey (op : Int) : Value := .agg #[.int .i64 op, .int .i64 0, .int .i64 0, .int .i64 0, .int .i64 0]

/-- The word of row k, if it is a bare one. -/
def bareVal (k : Nat) : Int := bitsI .x (rowAt k).op (rowAt k).f3z (rowAt k).more

/-- What the map holds when k rows are behind: the bare rows are 92 to 96. -/
def bareEs (k : Nat) : Array MapEntry := ((List.range ((k - 92).min 5)).map fun i => { key := bareKey ((i : Int) + 93), val := .int .u64 (bareVal (92 + i)), born := i }).toArray

theorem bare_rows : ∀ k, k < 98 → ((rowAt k).fm = .x ↔ 92 ≤ k ∧ k ≤ 96) := by
  have h : (List.range 98).all (fun k => decide ((rowAt k).fm = .x) == decide (92 ≤ k ∧ k ≤ 96)) = true := by kernel_rfl
  intro k hk
  have := List.all_eq_true.1 h k (by simpa using hk)
  simp only [beq_iff_eq, decide_eq_decide] at this
  exact this

theorem run_eqInst (a b c d e a' b' c' d' e' : Int) (w : World) :
    (Op.equal 30 (.agg #[.int .i64 a, .int .i64 b, .int .i64 c, .int .i64 d, .int .i64 e]) (.agg #[.int .i64 a', .int .i64 b', .int .i64 c', .int .i64 d', .int .i64 e'])).run Tryd.prog w = .ok (a == a' && b == b' && c == c' && d == d' && e == e') w := by
  have e1 : Op.equal 30 (.agg #[.int .i64 a, .int .i64 b, .int .i64 c, .int .i64 d, .int .i64 e]) (.agg #[.int .i64 a', .int .i64 b', .int .i64 c', .int .i64 d', .int .i64 e']) = Op.equalIn (9999 + 1) 30 (.agg #[.int .i64 a, .int .i64 b, .int .i64 c, .int .i64 d, .int .i64 e]) (.agg #[.int .i64 a', .int .i64 b', .int .i64 c', .int .i64 d', .int .i64 e']) := rfl
  rw [e1, run_equalIn_struct w 9999 _ _ _ (by rw [Program.fieldsOf, Tryd.underlying30]) inst_stood]
  simp only [Program.fieldsOf, Tryd.underlying30]
  have P : ∀ (k : Nat) (x1 x2 x3 x4 x5 v : Value), (#[x1, x2, x3, x4, x5] : Array Value)[k]? = some v → ∀ w, (part 2 #[x1, x2, x3, x4, x5] k).run Tryd.prog w = .ok v w := by
    intro k x1 x2 x3 x4 x5 v h w
    simp [part, isAgg, run_underlying Tryd.underlying2, h]
  have Q : ∀ (x y : Int) (w : World), (Op.equalIn 9999 2 (.int .i64 x) (.int .i64 y)).run Tryd.prog w = .ok (x == y) w := fun x y w => run_equalIn_int w 9998 2 .i64 .i64 x y Tryd.underlying2
  simp [Op.eqFields, Sem.run_bind, P 0 _ _ _ _ _ _ rfl, P 1 _ _ _ _ _ _ rfl, P 2 _ _ _ _ _ _ rfl, P 3 _ _ _ _ _ _ rfl, P 4 _ _ _ _ _ _ rfl, Q]
  by_cases h1 : a = a' <;> by_cases h2 : b = b' <;> by_cases h3 : c = c' <;> by_cases h4 : d = d' <;> by_cases h5 : e = e' <;> simp [h1, h2, h3, h4, h5]

/-- A key is looked for among bare ones. -/
theorem run_findAsking (op rd a b imm : Int) (w : World) : ∀ (l : List (Int × Int × Nat)) (n : Nat),
    (Instr.findAsking 30 (.agg #[.int .i64 op, .int .i64 rd, .int .i64 a, .int .i64 b, .int .i64 imm]) (l.map fun p => { key := bareKey p.1, val := .int .u64 p.2.1, born := p.2.2 }) n).run Tryd.prog w =
      .ok ((l.zipIdx n).findSome? fun q => if (op == q.1.1 && rd == 0 && a == 0 && b == 0 && imm == 0) = true then some (q.2, Value.int .u64 q.1.2.1) else none) w := by
  intro l
  induction l with
  | nil => intro n; simp [Instr.findAsking]
  | cons p l ih =>
    intro n
    simp only [List.map_cons, Instr.findAsking, Sem.run_bind, bareKey, run_eqInst, Result.andThen_ok, List.zipIdx_cons, List.findSome?_cons]
    cases h : (op == p.1 && rd == 0 && a == 0 && b == 0 && imm == 0)
    · simp only [Bool.false_eq_true, if_false]
      exact ih (n + 1)
    · simp

theorem run_checkKeyB (e : Bool) (op rd a b imm : Int) (w : World) : (Instr.checkKey e 10000 30 (.agg #[.int .i64 op, .int .i64 rd, .int .i64 a, .int .i64 b, .int .i64 imm])).run Tryd.prog w = .ok () w := by kernel_rfl

theorem bareEs_push (i : Nat) (hi : i < 5) : bareEs (92 + i + 1) = (bareEs (92 + i)).push { key := bareKey ((i : Int) + 93), val := .int .u64 (bareVal (92 + i)), born := i } := by
  have : i = 0 ∨ i = 1 ∨ i = 2 ∨ i = 3 ∨ i = 4 := by omega
  rcases this with rfl | rfl | rfl | rfl | rfl <;> rfl

def bareL (n : Nat) : List (Int × Int × Nat) := (List.range n).map fun (i : Nat) => ((i : Int) + 93, bareVal (92 + i), i)

theorem bareEs_list (k : Nat) : (bareEs k).toList = (bareL ((k - 92).min 5)).map fun p => { key := bareKey p.1, val := .int .u64 p.2.1, born := p.2.2 } := by
  simp [bareEs, bareL]

theorem run_findKeyB (op rd a b imm : Int) (n : Nat) (w : World) :
    (Instr.findKey 30 (.agg #[.int .i64 op, .int .i64 rd, .int .i64 a, .int .i64 b, .int .i64 imm]) ((bareL n).map fun p => { key := bareKey p.1, val := .int .u64 p.2.1, born := p.2.2 })).run Tryd.prog w =
      .ok (((bareL n).zipIdx 0).findSome? fun q => if (op == q.1.1 && rd == 0 && a == 0 && b == 0 && imm == 0) = true then some (q.2, Value.int .u64 q.1.2.1) else none) w := by
  have h := run_findAsking op rd a b imm w (bareL n) 0
  unfold Instr.findKey
  rw [Sem.run_bind, run_underlying Tryd.underlying30, Result.andThen_ok]
  cases hl : bareL n with
  | nil => simp [Instr.findNow]
  | cons p l => 
    rw [hl] at h
    simp only [List.map_cons, Instr.findNow, Instr.sameNow] at h ⊢
    exact h

theorem run_bareUpdate (w : World) (bm i : Nat) (hi : i < 5) (hb : w.heap[bm]? = some (.map (bareEs (92 + i)) i)) :
    (Instr.mapUpdate 106 (.map (some bm)) (.agg #[.int .i64 ((i : Int) + 93), .int .i64 0, .int .i64 0, .int .i64 0, .int .i64 0]) (.int .u64 (bareVal (92 + i)))).run Tryd.prog w = .ok () (ChangeMaps.setBlock w bm (.map (bareEs (92 + i + 1)) (i + 1))) := by
  have hf : (Instr.findKey 30 (.agg #[.int .i64 ((i : Int) + 93), .int .i64 0, .int .i64 0, .int .i64 0, .int .i64 0]) (bareEs (92 + i)).toList).run Tryd.prog w = .ok none w := by
    rw [bareEs_list, run_findKeyB]
    have : i = 0 ∨ i = 1 ∨ i = 2 ∨ i = 3 ∨ i = 4 := by omega
    rcases this with rfl | rfl | rfl | rfl | rfl <;> rfl
  rw [bareEs_push i hi]
  simp [Instr.mapUpdate, run_underlying Tryd.underlying106, MapKept.run_getObj_map hb, run_checkKeyB, hf, MapKept.run_setObj_map _ hb, Result.andThen, ChangeMaps.setBlock, bareKey]

theorem u64_zero : (Tryd.prog.info? 33).bind (·.zero) = some (.int .u64 0) := by kernel_rfl

theorem run_bareLookup (w : World) (bm j : Nat) (hj : j < 5) (rd a b imm : Int) (clock : Nat) (hb : w.heap[bm]? = some (.map (bareEs 98) clock)) :
    (Instr.lookup 106 (.map (some bm)) (.agg #[.int .i64 ((j : Int) + 93), .int .i64 rd, .int .i64 a, .int .i64 b, .int .i64 imm]) true).run Tryd.prog w =
      .ok (.tuple #[.int .u64 (if (rd == 0 && a == 0 && b == 0 && imm == 0) then bareVal (92 + j) else 0), .bool (rd == 0 && a == 0 && b == 0 && imm == 0)]) w := by
  have hf := run_findKeyB ((j : Int) + 93) rd a b imm 5 w
  have hl : (bareEs 98).toList = (bareL 5).map fun p => { key := bareKey p.1, val := .int .u64 p.2.1, born := p.2.2 } := bareEs_list 98
  rw [← hl] at hf
  have hres : (((bareL 5).zipIdx 0).findSome? fun q => if ((j : Int) + 93 == q.1.1 && rd == 0 && a == 0 && b == 0 && imm == 0) = true then some (q.2, Value.int .u64 q.1.2.1) else none) = if (rd == 0 && a == 0 && b == 0 && imm == 0) = true then some (j, Value.int .u64 (bareVal (92 + j))) else none := by
    have e : ∀ q : (Int × Int × Nat) × Nat, ((j : Int) + 93 == q.1.1 && rd == 0 && a == 0 && b == 0 && imm == 0) = ((j : Int) + 93 == q.1.1 && (rd == 0 && a == 0 && b == 0 && imm == 0)) := by
      intro q; simp [Bool.and_assoc]
    simp only [e]
    generalize (rd == 0 && a == 0 && b == 0 && imm == 0) = c
    have : j = 0 ∨ j = 1 ∨ j = 2 ∨ j = 3 ∨ j = 4 := by omega
    cases c
    · simp
    · rcases this with rfl | rfl | rfl | rfl | rfl <;> rfl
  rw [hres] at hf
  generalize (rd == 0 && a == 0 && b == 0 && imm == 0) = c at hf ⊢
  cases c
  · simp at hf
    simp [Instr.lookup, run_underlying Tryd.underlying106, MapKept.run_getObj_map hb, run_checkKeyB, hf, run_zero u64_zero]
  · simp at hf
    simp [Instr.lookup, run_underlying Tryd.underlying106, MapKept.run_getObj_map hb, run_checkKeyB, hf]

theorem run_bareUpdateK (w : World) (bm k : Nat) (h1 : 92 ≤ k) (h2 : k ≤ 96) (hb : w.heap[bm]? = some (.map (bareEs k) ((k - 92).min 5))) :
    (Instr.mapUpdate 106 (.map (some bm)) (.agg #[.int .i64 ((k : Int) + 1), .int .i64 0, .int .i64 0, .int .i64 0, .int .i64 0]) (.int .u64 (bareVal k))).run Tryd.prog w = .ok () (ChangeMaps.setBlock w bm (.map (bareEs (k + 1)) ((k + 1 - 92).min 5))) := by
  obtain ⟨i, rfl⟩ : ∃ i, k = 92 + i := ⟨k - 92, by omega⟩
  have e1 : (92 + i - 92).min 5 = i := by simp only [Nat.min_def]; split <;> omega
  have e2 : (92 + i + 1 - 92).min 5 = i + 1 := by simp only [Nat.min_def]; split <;> omega
  have e3 : (((92 + i : Nat)) : Int) + 1 = (i : Int) + 93 := by omega
  rw [e1] at hb
  rw [e2, e3]
  exact run_bareUpdate w bm i (by omega) hb

theorem bareEs_same (k : Nat) (h : ¬ (92 ≤ k ∧ k ≤ 96)) : bareEs (k + 1) = bareEs k ∧ (k + 1 - 92).min 5 = (k - 92).min 5 := by
  have e : (k + 1 - 92).min 5 = (k - 92).min 5 := by simp only [Nat.min_def]; split <;> split <;> omega
  exact ⟨by unfold bareEs; rw [e], e⟩

theorem wpList_updB {ops : Array Oper} {rest : List Oper} {o : Oper} {A : Act} {w w' : World} {Q : Exit → Act → World → Prop} {bm : Nat} {key val : Value} (H : Hid ((Instr.mapUpdate 106 (.map (some bm)) key val).run Tryd.prog w = .ok () w')) (hg : o.guard = none) (x y z : Operand) (ho : o.op = .mapUpdate 106 x y z)
    (hx : A.eval x = .map (some bm)) (hy : A.eval y = key) (hz : A.eval z = val) (h : wpList Tryd.prog ops Q rest (A.put o.dst undef) w') : wpList Tryd.prog ops Q (o :: rest) A w := by
  refine wpList_plain hg fun K hK => ?_
  unfold Oper.wp
  simp [execOp, ho, hx, hy, hz, H.out, Result.andThen]
  exact hK _ _ h

theorem wpList_lookB {ops : Array Oper} {rest : List Oper} {o : Oper} {A : Act} {w : World} {Q : Exit → Act → World → Prop} {bm : Nat} {key V : Value} (H : Hid ((Instr.lookup 106 (.map (some bm)) key true).run Tryd.prog w = .ok V w)) (hg : o.guard = none) (x y : Operand) (ho : o.op = .lookup 106 x y true)
    (hx : A.eval x = .map (some bm)) (hy : A.eval y = key) (h : wpList Tryd.prog ops Q rest (A.put o.dst V) w) : wpList Tryd.prog ops Q (o :: rest) A w := by
  refine wpList_plain hg fun K hK => ?_
  have hrun : (execOp A.eval o).run Tryd.prog w = .ok (.value V) w := by
    simp [execOp, ho, hx, hy, H.out]
  unfold Oper.wp
  rw [hrun, Oper.upon_value]
  exact hK _ _ h

set_option maxRecDepth 100000 in
set_option maxHeartbeats 3200000 in
theorem bareWord_any (j : Nat) (hj : j < 5) (rd a b imm : Int) (w : World) :
    Calls Tryd.prog 47 #[.agg #[.int .i64 ((j : Int) + 93), .int .i64 rd, .int .i64 a, .int .i64 b, .int .i64 imm]] w fun e w' =>
      e = .returned (.tuple #[.int .u64 (if (rd == 0 && a == 0 && b == 0 && imm == 0) then bareVal (92 + j) else 0), .bool (rd == 0 && a == 0 && b == 0 && imm == 0)]) ∧ Below w.heap.size w w' := by
  obtain ⟨v, hv⟩ : ∃ v, v = (if (rd == 0 && a == 0 && b == 0 && imm == 0) then bareVal (92 + j) else 0) := ⟨_, rfl⟩
  obtain ⟨t, ht⟩ : ∃ t, t = (rd == 0 && a == 0 && b == 0 && imm == 0) := ⟨_, rfl⟩
  have LK0 := fun (w : World) bm clock hb => run_bareLookup w bm j hj rd a b imm clock hb
  rw [← hv, ← ht] at LK0 ⊢
  clear hv ht
  obtain ⟨op, hop⟩ : ∃ op : Int, op = (j : Int) + 93 := ⟨_, rfl⟩
  rw [← hop] at LK0 ⊢
  have LK : Hid (∀ (w : World) bm clock, w.heap[bm]? = some (.map (bareEs 98) clock) → (Instr.lookup 106 (.map (some bm)) (.agg #[.int .i64 op, .int .i64 rd, .int .i64 a, .int .i64 b, .int .i64 imm]) true).run Tryd.prog w = .ok (.tuple #[.int .u64 v, .bool t]) w) := LK0
  clear LK0 hop
  have MK : ∀ w : World, (Instr.makeMap 106 none).run Tryd.prog w = .ok (.map (some w.heap.size)) (w.alloc (.map #[] 0)) := fun w => rfl
  go_enter Tryd.func47, Tryd.ntmps47
  go_wp2_with fail
  refine (opRows_T _).mono ?_
  rintro e w1 ⟨T, rfl, HT, hb⟩
  clear MK
  have hsz : w.heap.size + 1 < w1.heap.size := by have := hb.size; simp at this; omega
  have G0 : Hid (w1.heap[w.heap.size]? = some (.cells #[.int .i64 op, .int .i64 rd, .int .i64 a, .int .i64 b, .int .i64 imm] 30 (0, 0))) := by
    show _ = _
    rw [hb.block _ (by simp; omega)]; exact heap_alloc2_old _ _ _
  have M0 : Hid (w1.heap[w.heap.size + 1]? = some (.map (bareEs 0) ((0 - 92).min 5))) := by
    show _ = _
    rw [hb.block _ (by simp)]; exact heap_alloc2_new _ _ _
  have hb0 : Below w.heap.size w w1 := (((Below.refl _ _).alloc (Nat.le_refl _) _).alloc (by simp) _).trans (hb.mono (by simp; omega))
  clear hb
  go_wp2_with fail
  go_loopw [14] (fun i wr => ∃ k : Nat, k ≤ 98 ∧ i = .int .i64 k ∧ Hid (wr.heap[w.heap.size + 1]? = some (.map (bareEs k) ((k - 92).min 5))) ∧
      Hid (wr.heap[w.heap.size]? = some (.cells #[.int .i64 op, .int .i64 rd, .int .i64 a, .int .i64 b, .int .i64 imm] 30 (0, 0))) ∧ Below w.heap.size w wr)
    (fun i _ => 98 - (intOf i).toNat)
  case atStart => exact ⟨0, by omega, rfl, M0, G0, hb0⟩
  case round =>
    obtain ⟨k, hk, rfl, M, G, hb2⟩ := hrel
    clear G0 hb0 M0
    by_cases hlt : k < 98
    · have BR := bare_rows k hlt
      obtain ⟨r, hr0⟩ : ∃ r, r = rowAt k := ⟨_, rfl⟩
      have hr : Hid (r = rowAt k) := hr0
      rw [← hr0] at BR
      have BVL : r.fm = .x → bitsI r.fm r.op r.f3z r.more = bareVal k := by
        intro h; rw [h, hr0]; rfl
      clear hr0
      obtain ⟨nm, f, o, m3, m⟩ := r
      obtain ⟨z, hz⟩ : ∃ z, z = Row.f3z ⟨nm, f, o, m3, m⟩ := ⟨_, rfl⟩
      rw [← hz] at BVL
      simp only at BR BVL
      have HIX : Hid (∀ w : World, (Instr.index 55 T (.int .i64 (k : Int))).run Tryd.prog w = .ok (.agg #[.string nm, .string f.str, .int .u64 o, .int .u64 z, .int .u64 m]) w) := by
        intro w
        rw [run_index_T HT .i64 k hlt _ hr w, hz]
      clear hr hz
      by_cases hx : f = .x
      · have hrange := BR.1 hx
        have RP0 := rowPattern_any ((k : Int) + 1) nm f o z m
        rw [BVL hx] at RP0
        subst hx
        obtain ⟨BB, hBB⟩ : ∃ B, B = bareVal k := ⟨_, rfl⟩
        obtain ⟨MM, hMM⟩ : ∃ M, M = maskI ((k : Int) + 1) .x := ⟨_, rfl⟩
        rw [← hBB, ← hMM] at RP0
        simp only [Fm.str] at RP0 HIX
        have RP : Hid (∀ w : World, Calls Tryd.prog 26 #[.int .i64 ((k : Int) + 1), .agg #[.string nm, .string ⟨#[88]⟩, .int .u64 o, .int .u64 z, .int .u64 m]] w fun e w' => e = .returned (.tuple #[.int .u64 MM, .int .u64 BB]) ∧ Below w.heap.size w w') := RP0
        have HBB : Hid (BB = bareVal k) := hBB
        clear RP0 hBB hMM BR BVL
        go_wp2_with (refine wpList_indexH HIX rfl _ _ rfl rfl rfl ?_)
        refine (RP.out _).mono ?_
        rintro e w2 ⟨rfl, hbp⟩
        have hbw : Below wr.heap.size wr w2 := ((Below.refl _ _).alloc (Nat.le_refl _) _).trans (hbp.mono (by simp))
        have M2 := keep_some hbw M.out
        have G2 := keep_some hbw G.out
        have hb3 := below_trans hb2 hbw
        have UP : Hid _ := run_bareUpdateK w2 (w.heap.size + 1) k hrange.1 hrange.2 M2
        rw [← HBB.out] at UP
        have MF : Hid ((ChangeMaps.setBlock w2 (w.heap.size + 1) (.map (bareEs (k + 1)) ((k + 1 - 92).min 5))).heap[w.heap.size + 1]? = some (.map (bareEs (k + 1)) ((k + 1 - 92).min 5))) := ChangeMaps.heap_setBlock_same M2 _
        have GF : Hid ((ChangeMaps.setBlock w2 (w.heap.size + 1) (.map (bareEs (k + 1)) ((k + 1 - 92).min 5))).heap[w.heap.size]? = some (.cells #[.int .i64 op, .int .i64 rd, .int .i64 a, .int .i64 b, .int .i64 imm] 30 (0, 0))) := by
          show _ = _
          rw [ChangeMaps.heap_setBlock_other M2 _ (by omega)]; exact G2
        have BF : Below w.heap.size w (ChangeMaps.setBlock w2 (w.heap.size + 1) (.map (bareEs (k + 1)) ((k + 1 - 92).min 5))) :=
          ⟨hb3.os, hb3.tape, hb3.output, by simpa [ChangeMaps.setBlock] using hb3.size, fun n hn => (ChangeMaps.heap_setBlock_other M2 _ (by omega)).trans (hb3.block n hn)⟩
        obtain ⟨w3, hw3⟩ : ∃ w3, w3 = ChangeMaps.setBlock w2 (w.heap.size + 1) (.map (bareEs (k + 1)) ((k + 1 - 92).min 5)) := ⟨_, rfl⟩
        rw [← hw3] at UP MF GF BF
        clear hbp hw3 M2 G2 hbw hb3 M G hb2
        go_wp2_with (refine wpList_updB UP rfl _ _ _ rfl rfl rfl rfl ?_)
        go_roundw
        case rel => exact ⟨k + 1, by omega, by go_num, MF, GF, BF⟩
        case measure => simp [intOf]; omega
      · have hsame := bareEs_same k (fun h => hx (BR.2 h))
        clear BR BVL
        cases f
        case x => exact absurd rfl hx
        all_goals (
          clear hx
          simp only [Fm.str] at HIX
          go_wp2_with (refine wpList_indexH HIX rfl _ _ rfl rfl rfl ?_)
          go_roundw
          case rel =>
            have hbn : ∀ ob : Obj, Below wr.heap.size wr (wr.alloc ob) := fun ob => (Below.refl _ _).alloc (Nat.le_refl _) ob
            exact ⟨k + 1, by omega, by go_num, by rw [hsame.1, hsame.2]; exact keep_some (hbn _) M.out, keep_some (hbn _) G.out, below_trans hb2 (hbn _)⟩
          case measure => simp [intOf]; omega)
    · have hk2 : k = 98 := by omega
      subst hk2
      have q0 : wr.cell? ⟨w.heap.size, 0, none⟩ = some (.int .i64 op) := (cell_of_row _ _ _ _ _ _ G.out).trans rfl
      have q1 : wr.cell? ⟨w.heap.size, 1, none⟩ = some (.int .i64 rd) := (cell_of_row _ _ _ _ _ _ G.out).trans rfl
      have q2 : wr.cell? ⟨w.heap.size, 2, none⟩ = some (.int .i64 a) := (cell_of_row _ _ _ _ _ _ G.out).trans rfl
      have q3 : wr.cell? ⟨w.heap.size, 3, none⟩ = some (.int .i64 b) := (cell_of_row _ _ _ _ _ _ G.out).trans rfl
      have q4 : wr.cell? ⟨w.heap.size, 4, none⟩ = some (.int .i64 imm) := (cell_of_row _ _ _ _ _ _ G.out).trans rfl
      have LK2 : Hid _ := LK.out wr (w.heap.size + 1) _ M.out
      go_wp2_with (refine wpList_lookB LK2 rfl _ _ rfl rfl rfl ?_)
      go_ret2
      exact ⟨rfl, hb2⟩

end Go.Proofs.YtjjpklalihaanaaDoor
