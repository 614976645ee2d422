/- At every device Lines answers as its model, and writes nothing that was there. -/
import Derived.Test.YtbkddoibefgplaaRows
import Derived.Test.YtbkddoibefgplaaLawExactLines
import Derived.WalkKit
import Derived.ProofKit
import Derived.OpenShut
import Derived.ShutString
import Derived.ChangeOld
import Derived.Below
namespace Go.Proofs.Ytbkddoibefgplaa.fnExactLines
open Go.ChangeShapes Go.WideShapes Go.ChangeAt Go.RowKit
open Go.ChangeMaps (open_string shut_string)
set_option linter.unusedVariables false

theorem laidOut : laidOutB Try.prog = true := by kernel_rfl

theorem openS {H : Type} {enc : TypeId × Value → H} {P : Program} {w : World} {held : Bool} {t e : TypeId} {fuel : Nat} {l : List Value} {x : DataW H × List MemPlace} (ht : P.underlying t = some (.slice e)) (he : P.underlying e = some (.int .u8)) (hc : P.cellsOf e = 1) (h : DataW.trod enc P w 0 (fun _ => true) held fuel t l = some x) : ∃ a n c zs, l = [.slice a n c] ∧ IsRow .u8 w a n c zs := by
  rcases open_ints ht he hc h with ⟨hcs, _⟩ | ⟨x, n, c, zs, hcs, _, hl, hm, hz, _, hcell, hwz⟩
  · exact ⟨none, 0, 0, [], hcs, .inl ⟨rfl, rfl, rfl, rfl⟩⟩
  · exact ⟨_, n, c, zs, hcs, .inr ⟨_, rfl, hl, hm, by simpa using hz, hcell, hwz⟩⟩

theorem open6 {H : Type} {enc : TypeId × Value → H} {P : Program} {w : World} {held : Bool} {t u b s e i : TypeId} {f0 f1 f2 f3 f4 f5 : Field} {fuel : Nat} {l : List Value} {x : DataW H × List MemPlace} (ht : P.underlying t = some (.struct #[f0, f1, f2, f3, f4, f5])) (hu : P.underlying u = some (.int .u64)) (hb : P.underlying b = some .bool) (hs : P.underlying s = some (.slice e)) (he : P.underlying e = some (.int .u8)) (hi : P.underlying i = some (.int .i64))
    (cu : P.cellsOf u = 1) (cb : P.cellsOf b = 1) (cs : P.cellsOf s = 1) (ce : P.cellsOf e = 1) (ci : P.cellsOf i = 1) (t0 : f0.type = u) (t1 : f1.type = u) (t2 : f2.type = b) (t3 : f3.type = s) (t4 : f4.type = s) (t5 : f5.type = i) (o0 : f0.offset = 0) (o1 : f1.offset = 1) (o2 : f2.offset = 2) (o3 : f3.offset = 3) (o4 : f4.offset = 4) (o5 : f5.offset = 5) (hl : l.length = 6)
    (h : DataW.trod enc P w 0 (fun _ => true) held fuel t l = some x) : ∃ (a c : Int) (d : Bool) (a1 : Option Addr) (n1 c1 : Nat) (z1 : List Int) (a2 : Option Addr) (n2 c2 : Nat) (z2 : List Int) (k : Int), l = [.int .u64 a, .int .u64 c, .bool d, .slice a1 n1 c1, .slice a2 n2 c2, .int .i64 k] ∧ IsRow .u8 w a1 n1 c1 z1 ∧ IsRow .u8 w a2 n2 c2 z2 := by
  obtain ⟨xs, m, _, rfl, _, hlen, hf⟩ := DataW.trod_struct ht h
  match xs, hlen with
  | [y0, y1, y2, y3, y4, y5], _ =>
    have g0 := hf 0 f0 rfl
    have g1 := hf 1 f1 rfl
    have g2 := hf 2 f2 rfl
    have g3 := hf 3 f3 rfl
    have g4 := hf 4 f4 rfl
    have g5 := hf 5 f5 rfl
    rw [t0, o0, cu] at g0
    rw [t1, o1, cu] at g1
    rw [t2, o2, cb] at g2
    rw [t3, o3, cs] at g3
    rw [t4, o4, cs] at g4
    rw [t5, o5, ci] at g5
    obtain ⟨a, e0, _⟩ := DataW.trod_int hu g0
    obtain ⟨c, e1, _⟩ := DataW.trod_int hu g1
    obtain ⟨d, e2, _⟩ := DataW.trod_bool hb g2
    obtain ⟨a1, n1, c1, z1, e3, r1⟩ := openS hs he ce g3
    obtain ⟨a2, n2, c2, z2, e4, r2⟩ := openS hs he ce g4
    obtain ⟨k, e5, _⟩ := DataW.trod_int hi g5
    match l, hl with
    | [l0, l1, l2, l3, l4, l5], _ =>
      simp at e0 e1 e2 e3 e4 e5
      exact ⟨a, c, d, a1, n1, c1, z1, a2, n2, c2, z2, k, by rw [e0, e1, e2, e3, e4, e5], r1, r2⟩

theorem cellsD : Try.prog.cellsOf 42 = 6 := by kernel_rfl
theorem cellsU : Try.prog.cellsOf 24 = 1 := by kernel_rfl
theorem cellsB : Try.prog.cellsOf 4 = 1 := by kernel_rfl
theorem cellsS : Try.prog.cellsOf 22 = 1 := by kernel_rfl
theorem cellsE : Try.prog.cellsOf 5 = 1 := by kernel_rfl
theorem cellsI : Try.prog.cellsOf 2 = 1 := by kernel_rfl

theorem own : ownKnob Try.prog.godebug = none := by kernel_rfl

set_option maxRecDepth 100000 in
set_option maxHeartbeats 4000000 in
theorem lifted (os : Os) (started : os.Started) (H : Type) (enc : TypeId × Value → H) :
    ReturnsInHanded {} Try.checked os 8 .any (Rows.fnExactLinesSpec.pre6 enc Try.prog Try.f8 Rows.fnExactLinesRow.domain false) (Rows.fnExactLinesSpec.post enc Try.prog Try.f8 false true false false) := by
  refine returnsInHanded_of_change (C := Try.checked) own started (by kernel_rfl) Try.func8
    (ChangeSpec.witness6 (enc := enc) (C := Try.checked) false ⟨#[], #[.agg #[.int .u64 0, .int .u64 0, .bool false, .slice none 0 0, .slice none 0 0, .int .i64 0]], []⟩ 8 (by kernel_rfl) (by kernel_rfl) (by kernel_rfl) (by kernel_rfl)) ?_
  intro W base args ds gs before hval0 hW hcnd _
  have hval : ∀ (j : Nat) t v, Try.f8.params[j]? = some t → args[j]? = some v → Value.okWide Try.prog W .any base t v := hval0
  have hW' := hW
  obtain ⟨p, q, hA0, hV, rfl, hfz, hnd⟩ := hW
  have hA : DataW.TrodAll enc Try.prog W 0 (fun _ => true) true Try.f8.params.toList args.toList ds p := hA0
  rw [Try.params8] at hA hval
  obtain ⟨v0, vs0, d0, ds0, p0, q0, hargs, rfl, rfl, h0, r0⟩ := trodAll_cons hA
  obtain ⟨rfl, rfl, rfl⟩ := trodAll_nil r0
  obtain rfl : args = #[v0] := by cases args; simp_all
  obtain ⟨rfl, rfl⟩ := trodVars_none hV
  obtain ⟨cs, rfl, hsz⟩ := okWide_struct Try.underlying42 (hval 0 42 v0 rfl rfl)
  rw [cellsD] at hsz
  have k0 := h0
  have lt0 : ∀ x ∈ p0, x.block < W.heap.size := by obtain ⟨m, hm⟩ := k0; exact DataW.trod_lt m _ _ _ hm
  obtain ⟨l⟩ := cs
  obtain ⟨fuel, hf⟩ := h0
  obtain ⟨t, cm, so, a1, n1, c1, z1, a2, n2, c2, z2, ir, hl, w1, w2⟩ := open6 Try.underlying42 Try.underlying24 Try.underlying4 Try.underlying22 Try.underlying5 Try.underlying2 cellsU cellsB cellsS cellsE cellsI rfl rfl rfl rfl rfl rfl rfl rfl rfl rfl rfl rfl hsz hf
  subst hl
  clear hA0 hval0
  simp only [List.append_nil] at hW'
  refine (walk t cm so a1 n1 c1 z1 a2 n2 c2 z2 ir  W w1 w2).mono fun e W' ⟨he, hg⟩ => ?_
  subst he
  exact ⟨_, rfl, _, _, _, [], _, [], hW', (trodAll_cons_mk (shut_bool Try.underlying4 _) trodAll_mk0), (trodAll_cons_mk (Below.trod laidOut (by kernel_rfl) (of_decide_eq_true (by kernel_rfl)) k0 hg lt0) trodAll_mk0), rfl, hg.frame _, fun h => by cases h⟩

theorem over : Rows.fnExactLinesRow.holds Try.pinned (OpenSpec.ofChange Rows.fnExactLinesSpec) :=
  OpenClaim.holds_of_wide 8 Try.f8 rfl rfl rfl rfl rfl rfl rfl ⟨rfl, rfl, rfl, rfl, rfl⟩ rfl rfl rfl rfl rfl (by kernel_rfl) Try.func8 (by kernel_rfl)
    (of_decide_eq_true (by kernel_rfl)) (by unfold Func.isWrapper; first | (rw [if_pos (by decide +kernel)]; kernel_rfl) | (rw [if_neg (by decide +kernel)]; exact ⟨rfl, rfl⟩))
    (fun os started H enc _ => lifted os started H enc)

theorem proved : Rows.FnExactLinesSaid := over
end Go.Proofs.Ytbkddoibefgplaa.fnExactLines
