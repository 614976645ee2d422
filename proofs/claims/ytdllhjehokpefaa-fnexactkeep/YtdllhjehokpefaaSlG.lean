/- A cache that came in, opened. -/
import Derived.Test.YtdllhjehokpefaaSlF
import Derived.ProofKit
import Derived.OpenShut
import Derived.Deep.Slices
namespace Go.Proofs.Ytdllhjehokpefaa
open Go.ChangeShapes Go.WideShapes Go.ChangeAt Go.RowKit
set_option linter.unusedVariables false

theorem openSlt {H : Type} {enc : TypeId × Value → H} {P : Program} {w : World} {held : Bool} {t b i u : TypeId} {f0 f1 f2 f3 f4 : Field} {fuel : Nat} {l : List Value} {x : DataW H × List MemPlace} (ht : P.underlying t = some (.struct #[f0, f1, f2, f3, f4])) (hb : P.underlying b = some .bool) (hi : P.underlying i = some (.int .i64)) (hu : P.underlying u = some (.int .u64))
    (cb : P.cellsOf b = 1) (ci : P.cellsOf i = 1) (cu : P.cellsOf u = 1) (t0 : f0.type = b) (t1 : f1.type = i) (t2 : f2.type = i) (t3 : f3.type = u) (t4 : f4.type = u) (o0 : f0.offset = 0) (o1 : f1.offset = 1) (o2 : f2.offset = 2) (o3 : f3.offset = 3) (o4 : f4.offset = 4) (hl : l.length = 5)
    (h : DataW.trod enc P w 0 (fun _ => true) held fuel t l = some x) : ∃ s : Slt, l = s.cs ∧ (0 ≤ s.g ∧ s.g ≤ 18446744073709551615) ∧ (0 ≤ s.f ∧ s.f ≤ 18446744073709551615) := by
  obtain ⟨xs, m, _, rfl, _, hlen, hf⟩ := DataW.trod_struct ht h
  match xs, hlen with
  | [y0, y1, y2, y3, y4], _ =>
    have g0 := hf 0 f0 rfl
    have g1 := hf 1 f1 rfl
    have g2 := hf 2 f2 rfl
    have g3 := hf 3 f3 rfl
    have g4 := hf 4 f4 rfl
    rw [t0, o0, cb] at g0
    rw [t1, o1, ci] at g1
    rw [t2, o2, ci] at g2
    rw [t3, o3, cu] at g3
    rw [t4, o4, cu] at g4
    obtain ⟨a0, e0, _⟩ := DataW.trod_bool hb g0
    obtain ⟨a1, e1, _⟩ := DataW.trod_int hi g1
    obtain ⟨a2, e2, _⟩ := DataW.trod_int hi g2
    obtain ⟨a3, e3, _, w3⟩ := DataW.trod_int hu g3
    obtain ⟨a4, e4, _, w4⟩ := DataW.trod_int hu g4
    match l, hl with
    | [l0, l1, l2, l3, l4], _ =>
      simp at e0 e1 e2 e3 e4
      exact ⟨⟨a0, a1, a2, a3, a4⟩, by rw [e0, e1, e2, e3, e4]; rfl, u64_bd w3, u64_bd w4⟩

instance : Inhabited Slt := ⟨slt0⟩

theorem openC {H : Type} {enc : TypeId × Value → H} {P : Program} {w : World} {held : Bool} {c sl t b i u : TypeId} {fc f0 f1 f2 f3 f4 : Field} {fuel : Nat} {l : List Value} {x : DataW H × List MemPlace} (hc : P.underlying c = some (.struct #[fc])) (hsl : P.underlying sl = some (.slice t)) (ht : P.underlying t = some (.struct #[f0, f1, f2, f3, f4])) (hb : P.underlying b = some .bool) (hi : P.underlying i = some (.int .i64)) (hu : P.underlying u = some (.int .u64))
    (cs1 : P.cellsOf sl = 1) (ct : P.cellsOf t = 5) (cb : P.cellsOf b = 1) (ci : P.cellsOf i = 1) (cu : P.cellsOf u = 1) (tc : fc.type = sl) (oc : fc.offset = 0) (t0 : f0.type = b) (t1 : f1.type = i) (t2 : f2.type = i) (t3 : f3.type = u) (t4 : f4.type = u) (o0 : f0.offset = 0) (o1 : f1.offset = 1) (o2 : f2.offset = 2) (o3 : f3.offset = 3) (o4 : f4.offset = 4) (hl : l.length = 1)
    (h : DataW.trod enc P w 0 (fun _ => true) held fuel c l = some x) : ∃ (a : Option Addr) (n cap : Nat) (ss : List Slt), l = [.slice a n cap] ∧ CIn w a n cap ss := by
  obtain ⟨xs, m, _, rfl, _, hlen, hf⟩ := DataW.trod_struct hc h
  match xs, hlen with
  | [y0], _ =>
    have g0 := hf 0 fc rfl
    rw [tc, oc, cs1] at g0
    match l, hl with
    | [l0], _ =>
      simp only [List.drop_zero, List.take_succ_cons, List.take_zero] at g0
      rcases Go.Deep.open_slice hsl g0 with ⟨e, _⟩ | ⟨a, len, cap, m', n', D, Pl, e, _, hlc, hcm, hm, _, hel⟩
      · exact ⟨none, 0, 0, [], e, ⟨rfl, by unfold maxLen; omega, fun i hi => absurd hi (by simp), fun s hs => absurd hs (by simp)⟩⟩
      · simp only [if_true] at hm
        subst hm
        have each : ∀ i, i < len → ∃ s : Slt, (∀ j, j < 5 → w.cell? ((a.add (i * 5)).add j) = s.cs[j]?) ∧ (0 ≤ s.g ∧ s.g ≤ 18446744073709551615) ∧ (0 ≤ s.f ∧ s.f ≤ 18446744073709551615) := by
          intro i hi
          obtain ⟨cs', hc', ht'⟩ := hel i (by omega)
          rw [ct] at hc'
          obtain ⟨_, hl', hg⟩ := World.cells?_some hc'
          obtain ⟨s, rfl, b1, b2⟩ := openSlt ht hb ‹_› hu cb ci cu t0 t1 t2 t3 t4 o0 o1 o2 o3 o4 hl' ht'
          exact ⟨s, hg, b1, b2⟩
        obtain ⟨F, hF⟩ := Go.Deep.choose_lt each
        refine ⟨some a, len, m', (List.range len).map F, e, ⟨by simp, by omega, ?_, ?_⟩⟩
        · intro i hi
          simp only [List.length_map, List.length_range] at hi
          obtain ⟨b, off, spot⟩ := a
          have hg : ((List.range len).map F).getD i slt0 = F i := by simp [List.getD, List.getElem?_map, List.getElem?_range hi]
          have hsp : spot = none := by
            have h0 := (hF 0 (by omega)).1 0 (by omega)
            have : ∃ v, w.cell? (((⟨b, off, spot⟩ : Addr).add (0 * 5)).add 0) = some v := ⟨_, h0⟩
            obtain ⟨v, hv⟩ := this
            simpa [Addr.add] using World.cell?_spot hv
          subst hsp
          have hc0 := (hF i hi).1 0 (by omega)
          rw [adds, adds] at hc0
          refine ⟨b, off, rfl, World.block_lt_of_cell? _ _ (show w.cell? ⟨b, off + i * 5 + 0, none⟩ = some _ from hc0), fun j hj => ?_⟩
          have hcj := (hF i hi).1 j hj
          rw [adds, adds] at hcj
          rw [hg]
          exact hcj
        · intro s hs
          simp only [List.mem_map, List.mem_range] at hs
          obtain ⟨i, hi, rfl⟩ := hs
          exact (hF i hi).2

end Go.Proofs.Ytdllhjehokpefaa
