/- A byte put behind a row of one's own: where the row then lies. -/
import Derived.Test.YtdcihpbggknhgaaRDevC
namespace Go.Proofs.YtdcihpbggknhgaaR
open Go.RowKit
set_option linter.unusedVariables false

set_option maxRecDepth 100000 in
theorem append_where {w : World} {base n : Nat} {v : Value} {xs : List Value} (ty : TypeId) (hown : w.ownsRow base 5 1 v n xs) (a : Addr) (c : Nat) (b : Int) (hnews : ∀ j u, [Value.int .u8 b][j]? = some u → w.cell? (a.add j) = some u) (hn : n ≤ 1048576) {v' : Value} {w' : World}
    (hr : (Builtin.append_ #[24, 24] ty #[v, .slice (some a) 1 c]).run Try.prog w = .ok v' w') : v'.ownBlock = v.ownBlock ∨ v'.ownBlock = some w.heap.size := by
  obtain ⟨i0, hi, hz0, hz1, hz2⟩ := info_parts Try.info5
  have h1 : ∀ u ∈ [Value.int .u8 b], u.oneCell' = true := by simp [Value.oneCell']
  have hl : [Value.int .u8 b].length = 1 * i0.size := by rw [hz1]; rfl
  rcases hown.2 with ⟨e, e0⟩ | ⟨g, cap, cur, e, hg, hcur, hc1, hc2, hcs, htk⟩
  · subst e
    right
    have h := run_append_grow_src (P := Try.prog) w 24 24 ty 5 i0 (.int .u8 0) Try.underlying24 hi hz0 none 0 0 [] (run_firstCells_none w.drew i0.size 0 0 0) (.slice (some a) 1 c) 1 [.int .u8 b] (Src.ofSlice w Try.underlying24 a 1 c [.int .u8 b] hl hnews h1) (by omega) (by omega) (growslice_fits (by omega) (by rw [hz2]; omega))
    rw [h] at hr
    injection hr with e1 _
    rw [← e1]
    rfl
  · subst e
    by_cases hroom : n + 1 ≤ cap
    · left
      have h := run_append_room (P := Try.prog) w 24 ty 5 i0 Try.underlying24 hi g n cap cur hcur a 1 c [.int .u8 b] hl hnews h1 hroom (by rw [hz1] at *; simp; omega)
      rw [h] at hr
      injection hr with e1 _
      rw [← e1]
      rfl
    · right
      have holds : ∀ j u, xs[j]? = some u → w.cell? ((⟨g, 0, none⟩ : Addr).add j) = some u := hown.cells (g := g) rfl
      have h := run_append_grow (P := Try.prog) w 24 ty 5 i0 (.int .u8 0) Try.underlying24 hi hz0 ⟨g, 0, none⟩ n cap xs (by rw [hz1]; exact hown.1) holds a 1 c [.int .u8 b] hl hnews (by omega) (by omega) (growslice_fits (by omega) (by rw [hz2]; omega))
      rw [h] at hr
      injection hr with e1 _
      rw [← e1]
      rfl

/-- append(b, x): where the row then lies. -/
theorem wpList_push8 {ops : Array Oper} {rest : List Oper} {o : Oper} {a : Act} {Q : Exit → Act → World → Prop} {w : World} (hgd : o.guard = none) (s x : Operand)
    (ho : o.op = .call { callee := .builtin .append, args := #[s, x], argTypes := #[24, 24] }) (base n : Nat) (v : Value) (zs : List Int) (hs : a.eval s = v) (hown : w.ownsRow base 5 1 v n (zs.map (Value.int .u8))) (hn : n ≤ 1048576)
    (ad : Addr) (c : Nat) (b : Int) (hx : a.eval x = .slice (some ad) 1 c) (hnews : ∀ j u, [Value.int .u8 b][j]? = some u → w.cell? (ad.add j) = some u) (hbase : base ≤ w.heap.size)
    (h : ∀ a' c' w', w'.ownsRow base 5 1 (.slice a' (n + 1) c') (n + 1) ((zs ++ [b]).map (Value.int .u8)) → w.grownBy w' v.ownBlock → ((Value.slice a' (n + 1) c').ownBlock = v.ownBlock ∨ (Value.slice a' (n + 1) c').ownBlock = some w.heap.size) → wpList Try.prog ops Q rest (a.put o.dst (.slice a' (n + 1) c')) w') : wpList Try.prog ops Q (o :: rest) a w := by
  obtain ⟨i0, hi, hz0, hz1, hz2⟩ := info_parts Try.info5
  obtain ⟨v', w', hr, h2, h3, h4⟩ := run_append_own (P := Try.prog) w base 24 o.type 5 i0 (.int .u8 0) 1 1 Try.underlying24 hi hz0 hz1 hz2 rfl (by decide) v n (zs.map (Value.int .u8)) hown ad 1 c [.int .u8 b] rfl hnews (by simp [Value.oneCell']) (by unfold maxLen; omega) (by omega) hbase
  have hw := append_where o.type hown ad c b hnews hn hr
  have hv : ∃ a' c', v' = .slice a' (n + 1) c' := by
    rcases h2.2 with ⟨_, e0⟩ | ⟨g', cap, cur, e, _⟩
    · omega
    · exact ⟨_, _, e⟩
  obtain ⟨a', c', rfl⟩ := hv
  refine wpList_plain hgd fun K hK => ?_
  unfold Oper.wp execOp
  simp only [ho, resolve, invoke, builtin, Sem.run_bind, Sem.run_pure, Result.andThen_ok, List.map_toArray, List.map_cons, List.map_nil, hs, hx, hr]
  exact hK _ _ (h a' c' w' (by rw [List.map_append]; exact h2) h3 hw)

theorem one_new8 (w : World) (b : Int) (j : Nat) (u : Value) (h : [Value.int .u8 b][j]? = some u) : (w.alloc (.cells #[.int .u8 b] 5)).cell? ((⟨w.heap.size, 0, none⟩ : Addr).add j) = some u := by
  have hj : j = 0 := by
    rcases Nat.eq_zero_or_pos j with h0 | h0
    · exact h0
    · rw [List.getElem?_eq_none (by simp; omega)] at h; cases h
  subst hj
  rw [adds]
  simp only [List.getElem?_cons_zero, Option.some.injEq] at h
  subst h
  have e := heap_alloc_new w (.cells #[.int .u8 b] 5)
  show (w.alloc (.cells #[.int .u8 b] 5)).cell? ⟨w.heap.size, 0, none⟩ = _
  simp only [World.cell?, e]
  rfl

end Go.Proofs.YtdcihpbggknhgaaR
