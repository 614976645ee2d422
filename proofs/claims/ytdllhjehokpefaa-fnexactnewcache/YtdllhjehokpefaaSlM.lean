/- Slots compared, emptied, copied: what the model and the program share. -/
import Derived.Test.YtdllhjehokpefaaSlC
import Derived.Test.YtdllhjehokpefaaSlQ
namespace Go.Proofs.Ytdllhjehokpefaa
open Go.RowKit
set_option linter.unusedVariables false

theorem slt_stood : Try.prog.stoodInHeld 60 = false := by kernel_rfl

theorem slt_guard : Try.prog.eqGuardType Try.prog.depth 60 = false := by kernel_rfl

theorem slt_dec (s t : Slt) : (s.u == t.u && s.k == t.k && s.p == t.p && s.g == t.g && s.f == t.f) = decide (s = t) := by
  obtain ⟨a, b, c, d, e⟩ := s
  obtain ⟨a', b', c', d', e'⟩ := t
  by_cases h1 : a = a' <;> by_cases h2 : b = b' <;> by_cases h3 : c = c' <;> by_cases h4 : d = d' <;> by_cases h5 : e = e' <;> simp [h1, h2, h3, h4, h5]

set_option maxHeartbeats 400000 in
theorem run_sameSlt (s t : Slt) (w : World) : (Op.equalIn (9999 + 1) 60 s.v t.v).run Try.prog w = .ok (decide (s = t)) w := by
  rw [← slt_dec]
  obtain ⟨a, b, c, d, e⟩ := s
  obtain ⟨a', b', c', d', e'⟩ := t
  simp only [Slt.v]
  rw [run_equalIn_struct w 9999 _ _ _ (by rw [Program.fieldsOf, Try.underlying60]) slt_stood]
  simp only [Program.fieldsOf, Try.underlying60]
  have PI : ∀ (k : Nat) (x1 x2 x3 x4 x5 v : Value), (#[x1, x2, x3, x4, x5] : Array Value)[k]? = some v → ∀ w, (part 2 #[x1, x2, x3, x4, x5] k).run Try.prog w = .ok v w := by
    intro k x1 x2 x3 x4 x5 v h w
    simp [part, isAgg, run_underlying Try.underlying2, h]
  have PU : ∀ (k : Nat) (x1 x2 x3 x4 x5 v : Value), (#[x1, x2, x3, x4, x5] : Array Value)[k]? = some v → ∀ w, (part 27 #[x1, x2, x3, x4, x5] k).run Try.prog w = .ok v w := by
    intro k x1 x2 x3 x4 x5 v h w
    simp [part, isAgg, run_underlying Try.underlying27, h]
  have PB : ∀ (k : Nat) (x1 x2 x3 x4 x5 v : Value), (#[x1, x2, x3, x4, x5] : Array Value)[k]? = some v → ∀ w, (part 4 #[x1, x2, x3, x4, x5] k).run Try.prog w = .ok v w := by
    intro k x1 x2 x3 x4 x5 v h w
    simp [part, isAgg, run_underlying Try.underlying4, h]
  have QI : ∀ (x y : Int) (w : World), (Op.equalIn 9999 2 (.int .i64 x) (.int .i64 y)).run Try.prog w = .ok (x == y) w := fun x y w => run_equalIn_int w 9998 2 .i64 .i64 x y Try.underlying2
  have QU : ∀ (x y : Int) (w : World), (Op.equalIn 9999 27 (.int .u64 x) (.int .u64 y)).run Try.prog w = .ok (x == y) w := fun x y w => run_equalIn_int w 9998 27 .u64 .u64 x y Try.underlying27
  have QB : ∀ (x y : Bool) (w : World), (Op.equalIn 9999 4 (.bool x) (.bool y)).run Try.prog w = .ok (x == y) w := fun x y w => run_equalIn_bool w 9998 4 x y Try.underlying4
  simp [Op.eqFields, Sem.run_bind, PB 0 _ _ _ _ _ _ rfl, PI 1 _ _ _ _ _ _ rfl, PI 2 _ _ _ _ _ _ rfl, PU 3 _ _ _ _ _ _ rfl, PU 4 _ _ _ _ _ _ rfl, QI, QU, QB]
  by_cases h1 : a = a' <;> by_cases h2 : b = b' <;> by_cases h3 : c = c' <;> by_cases h4 : d = d' <;> by_cases h5 : e = e' <;> simp [h1, h2, h3, h4, h5]

theorem run_neqSlt (s t : Slt) (w : World) : (binOp .neq 60 s.v t.v).run Try.prog w = .ok (.bool (!decide (s = t))) w := by
  have h := run_sameSlt s t w
  simp only [Slt.v] at h ⊢
  rw [run_neq_struct, h]
  rfl

theorem run_eqlSlt (s t : Slt) (w : World) : (binOp .eql 60 s.v t.v).run Try.prog w = .ok (.bool (decide (s = t))) w := by
  have h := run_sameSlt s t w
  simp only [Slt.v] at h ⊢
  rw [run_eql_struct, h]
  rfl

theorem wpList_neqSlt {ops : Array Oper} {rest : List Oper} {o : Oper} {A : Act} {w : World} {Q : Exit → Act → World → Prop} {s t : Slt} (hw : Region.wanted o (yielded ops A.tmps) = true) (x y : Operand) (ty : TypeId) (ho : o.op = .binOp .neq 60 x y ty)
    (hx : A.eval x = s.v) (hy : A.eval y = t.v) (nb : Bool) (hn : (!decide (s = t)) = nb) (h : wpList Try.prog ops Q rest (A.put o.dst (.bool nb)) w) : wpList Try.prog ops Q (o :: rest) A w := by
  unfold wpList
  rw [if_pos hw]
  refine Or.inl ?_
  subst hn
  have h1 := run_neqSlt s t w
  simp only [Slt.v] at h1 hx hy
  unfold Oper.wp execOp
  simp only [ho, hx, hy, Sem.run_bind, run_eqGuard_agg w _ _ _ _ _ _ slt_guard, h1, Result.andThen_ok]
  exact h

theorem wpList_eqlSlt {ops : Array Oper} {rest : List Oper} {o : Oper} {A : Act} {w : World} {Q : Exit → Act → World → Prop} {s t : Slt} (hw : Region.wanted o (yielded ops A.tmps) = true) (x y : Operand) (ty : TypeId) (ho : o.op = .binOp .eql 60 x y ty)
    (hx : A.eval x = s.v) (hy : A.eval y = t.v) (nb : Bool) (hn : decide (s = t) = nb) (h : wpList Try.prog ops Q rest (A.put o.dst (.bool nb)) w) : wpList Try.prog ops Q (o :: rest) A w := by
  unfold wpList
  rw [if_pos hw]
  refine Or.inl ?_
  subst hn
  have h1 := run_eqlSlt s t w
  simp only [Slt.v] at h1 hx hy
  unfold Oper.wp execOp
  simp only [ho, hx, hy, Sem.run_bind, run_eqGuard_agg w _ _ _ _ _ _ slt_guard, h1, Result.andThen_ok]
  exact h

theorem flatS_one (ss : List Slt) : ∀ u ∈ flatS ss, u.oneCell' = true := by
  induction ss with
  | nil => intro u hu; simp [flatS] at hu
  | cons s ss ih =>
    intro u hu
    rw [flatS, List.mem_append] at hu
    rcases hu with hu | hu
    · simp only [Slt.cs, List.mem_cons, List.not_mem_nil, or_false] at hu
      rcases hu with rfl | rfl | rfl | rfl | rfl <;> rfl
    · exact ih u hu

theorem zero_slot (w : World) : (zeroValue 60).run Try.prog w = .ok (.agg #[.bool false, .int .i64 0, .int .i64 0, .int .u64 0, .int .u64 0]) w := by kernel_rfl

theorem zeroCells_flat (n : Nat) : (Builtin.zeroCells #[.bool false, .int .i64 0, .int .i64 0, .int .u64 0, .int .u64 0] n).toList = flatS (List.replicate n slt0) := by
  rw [← made_flat]
  rfl

/-- clear of m slots from i on, in a row of one's own. -/
theorem run_clear_own {w : World} {base g n cap : Nat} {ss : List Slt} (h : w.ownsRow base 60 5 (.slice (some ⟨g, 0, none⟩) n cap) n (flatS ss)) (i m c : Nat) (ty : TypeId) (hm : 0 < m) (him : i + m ≤ n) :
    ∃ w', (Builtin.clear_ #[24] ty #[.slice (some ⟨g, i * 5, none⟩) m c]).run Try.prog w = .ok (.tuple #[]) w' ∧ w'.ownsRow base 60 5 (.slice (some ⟨g, 0, none⟩) n cap) n (flatS (zeroed ss i m)) ∧ w.grownBy w' (some g) := by
  have hn : ss.length = n := by have := h.1; rw [flatS_len] at this; omega
  rcases h.2 with ⟨h2, _⟩ | ⟨g', c', cur, hv, hbg, hh, hnc, hcm, hcs, htake⟩
  · cases h2
  · simp only [Value.slice.injEq, Option.some.injEq, Addr.mk.injEq, and_true, true_and] at hv
    obtain ⟨rfl, rfl⟩ := hv
    have hl : (flatS (List.replicate m slt0)).length = m * 5 := by rw [flatS_len]; simp
    have hst := run_storeCells_at (P := Try.prog) g (i * 5) 60 (flatS (List.replicate m slt0)) 0 cur w hh (by rw [hl]; omega) (flatS_one _)
    obtain ⟨m', rfl⟩ : ∃ k, m = k + 1 := ⟨m - 1, by omega⟩
    have hzc : (Builtin.zeroCells (Value.cells (.agg #[.bool false, .int .i64 0, .int .i64 0, .int .u64 0, .int .u64 0])) (m' + 1)).toList = flatS (List.replicate (m' + 1) slt0) := zeroCells_flat (m' + 1)
    have hrun : (Builtin.clear_ #[24] ty #[.slice (some ⟨g, i * 5, none⟩) (m' + 1) c]).run Try.prog w = .ok (.tuple #[]) (w.setRow g (cur.toList.take (i * 5 + 0) ++ flatS (List.replicate (m' + 1) slt0) ++ cur.toList.drop (i * 5 + 0 + (flatS (List.replicate (m' + 1) slt0)).length)).toArray) := by
      generalize flatS (List.replicate (m' + 1) slt0) = F at hst hzc ⊢
      simp only [Nat.add_zero] at hst ⊢
      simp [Builtin.clear_, run_underlying Try.underlying24, hzc, hst]
    refine ⟨_, hrun, ⟨?_, .inr ⟨g, cap, _, rfl, hbg, setRow_heap w g _ _ 60 _ hh, hnc, hcm, ?_, ?_⟩⟩, ⟨rfl, rfl, rfl, by simp, fun k _ hk => setRow_other w g k _ (fun e => hk (by rw [e]))⟩⟩
    · rw [flatS_len]; simp [zeroed]; omega
    · rw [hl]; simp; omega
    · have e : flatS (zeroed ss i (m' + 1)) = (flatS ss).take (i * 5) ++ flatS (List.replicate (m' + 1) slt0) ++ (flatS ss).drop ((i + (m' + 1)) * 5) := by
        rw [zeroed, flatS_append, flatS_append, flatS_take, flatS_drop]
      rw [e, ← htake, hl, Nat.add_zero, List.take_take, List.take_append, List.take_append]
      have hlc : cur.toList.length = cap * 5 := by rw [Array.length_toList, hcs]
      have e1 : (cur.toList.take (i * 5)).length = i * 5 := by rw [List.length_take]; omega
      simp only [List.length_append, e1, hl]
      rw [List.take_of_length_le (by omega), List.take_of_length_le (l := flatS (List.replicate (m' + 1) slt0)) (by rw [hl]; omega), List.drop_take, Nat.min_eq_left (by omega)]
      congr 2
      · omega
      · congr 1; omega

theorem own_empty5 (w : World) (base : Nat) (hb : base ≤ w.heap.size) (o : Obj) (ho : o = .cells #[] 60 (0, 0)) : (w.alloc o).ownsRow base 60 5 (.slice (some ⟨w.heap.size, 0, none⟩) 0 0) 0 [] := by
  subst ho
  exact World.ownsRow_lit w #[] 0 hb (by unfold maxLen; omega) rfl

theorem ss_news {w : World} {A : Addr} {ss : List Slt} (hs : Ss w (some A) ss) : ∀ j u, (flatS ss)[j]? = some u → w.cell? (A.add j) = some u := by
  intro j u hu
  have hj : j < ss.length * 5 := by
    rcases Nat.lt_or_ge j (ss.length * 5) with h | h
    · exact h
    · rw [List.getElem?_eq_none (by rw [flatS_len]; exact h)] at hu; cases hu
  obtain ⟨b, off, e, _, hc⟩ := hs (j / 5) (by omega)
  have h1 := flatS_get ss (j / 5) (j % 5) (by omega) (by omega)
  have h2 := hc (j % 5) (by omega)
  cases e
  have e1 : j / 5 * 5 + j % 5 = j := by omega
  have e2 : off + j / 5 * 5 + j % 5 = off + j := by omega
  rw [e1] at h1
  rw [e2] at h2
  rw [adds, h2, ← h1]
  exact hu

/-- append([]Slot{}, s...), whatever s. -/
theorem wpList_app5 {ops : Array Oper} {rest : List Oper} {o : Oper} {a : Act} {Q : Exit → Act → World → Prop} {w : World} (hgd : o.guard = none) (s x : Operand)
    (ho : o.op = .call { callee := .builtin .append, args := #[s, x], argTypes := #[24, 24] }) (base g : Nat) (hs : a.eval s = .slice (some ⟨g, 0, none⟩) 0 0) (hown : w.ownsRow base 60 5 (.slice (some ⟨g, 0, none⟩) 0 0) 0 [])
    (ad : Option Addr) (m c : Nat) (ss : List Slt) (hx : a.eval x = .slice ad m c) (hz : ss.length = m) (hm0 : 0 < m) (hm : m ≤ 1048576) (hsl : Ss w ad ss) (hbase : base ≤ w.heap.size)
    (h : ∀ g' c' w', w'.ownsRow base 60 5 (.slice (some ⟨g', 0, none⟩) m c') m (flatS ss) → w.grownBy w' (some g) → base ≤ g' → wpList Try.prog ops Q rest (a.put o.dst (.slice (some ⟨g', 0, none⟩) m c')) w') : wpList Try.prog ops Q (o :: rest) a w := by
  obtain ⟨i0, hi, hz0, hz1, hz2⟩ := info_parts Try.info60
  cases ad with
  | none =>
    obtain ⟨b, off, e, _⟩ := hsl 0 (by omega)
    cases e
  | some A =>
    refine wpList_append_own _ hgd s x 24 ho base 60 i0 _ 5 40 Try.underlying24 hi hz0 hz1 hz2 rfl (by decide) _ 0 [] hs hown A m c (flatS ss) hx (by rw [flatS_len, hz]) (ss_news hsl) (flatS_one _) (by unfold maxLen; omega) (by omega) hbase ?_
    intro v' w' h1 h2 h3
    simp only [Nat.zero_add, List.nil_append] at h1
    rcases h1.2 with ⟨e, e0⟩ | ⟨g', cap, cur, e, hg', _⟩
    · omega
    · subst e
      exact h g' cap w' h1 h2 hg'

end Go.Proofs.Ytdllhjehokpefaa
