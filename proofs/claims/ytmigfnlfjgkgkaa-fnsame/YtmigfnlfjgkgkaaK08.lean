/- Own lemmas. -/
import Derived.Test.YtmigfnlfjgkgkaaK01
import Derived.Test.YtmigfnlfjgkgkaaK04
import Derived.Test.YtmigfnlfjgkgkaaK05
import Derived.Test.YtmigfnlfjgkgkaaK06
import Derived.Test.YtmigfnlfjgkgkaaK07
import Derived.Deep.RegionWith
import Derived.Deep.Cut
import Derived.Laws.Tables
namespace Go.Proofs.Ytmigfnlfjgkgkaa
open Go.RowKit
set_option linter.unusedVariables false

theorem xOk_any (a : Option Addr) (n c : Nat) (x : List Int) (w : World) (hx : x.length = n) (hs : Sl .u64 w a x) :
    Calls Try.prog 22 #[.slice a n c] w fun e w' => e = .returned (.bool (regsB n x)) ∧ w' = w := by
  by_cases h : n = 32
  · subst h
    obtain ⟨b, off, rfl, hb, hc⟩ := hs 0 (by omega)
    have F : Hid (regsB 32 x = (x.getD 0 0 == 0)) := by show _ = _; unfold regsB; simp
    have hc2 : w.cell? ⟨b, off, none⟩ = some (.int .u64 (x.getD 0 0)) := hc
    generalize regsB 32 x = V at *
    generalize x.getD 0 0 = y at *
    clear hs hx hc
    go_enter Try.func22, Try.ntmps22
    go_wp2_with fail
    go_ret
    exact ⟨by rw [F.out]; rfl, rfl⟩
  · have F : Hid (regsB n x = false) := by show _ = _; unfold regsB; rw [decide_eq_false h]; rfl
    have d : ((n : Int) == 32) = false := by simp; omega
    generalize regsB n x = V at *
    clear hs hx h
    go_enter Try.func22, Try.ntmps22
    go_wp2_with fail
    go_ret
    exact ⟨by rw [F.out]; rfl, rfl⟩

theorem implBit2_9 (x : Int) (w : World) : Calls Try.prog 21 #[.int .u64 x, .int .i64 0, .int .i64 2] w fun e w' => e = .returned (.int .u64 (bits .and .u64 x 3)) ∧ w' = w.drew := by
  go_enter Try.func21, Try.ntmps21
  go_wp2_with fail
  go_region
  all_goals go_wp2_with fail
  all_goals go_ret
  all_goals exact ⟨rfl, rfl⟩

theorem lines_any (D : DV) (a1 : Option Addr) (c1 : Nat) (a2 : Option Addr) (c2 : Nat) (w : World) (hn1 : D.xs.length ≤ 1048576) (hn2 : D.ys.length ≤ 1048576) :
    Calls Try.prog 26 #[.agg #[.int .u64 D.t, .int .u64 D.cm, .bool D.so, .slice a1 D.xs.length c1, .slice a2 D.ys.length c2, .int .i64 D.ir]] w fun e w' => e = .returned (.int .u64 (linesD D)) ∧ Below w.heap.size w w' := by
  have HL : Hid (∀ w, Calls Try.prog 39 #[.agg #[.int .u64 D.t, .int .u64 D.cm, .bool D.so, .slice a1 D.xs.length c1, .slice a2 D.ys.length c2, .int .i64 D.ir]] w fun e w' => e = .returned (.int .u64 (linesD D)) ∧ Below w.heap.size w w') := fun w => implLines_any D a1 c1 a2 c2 w hn1 hn2
  have hB : ∀ o, Below w.heap.size w (w.alloc o) := fun o => (Below.refl _ _).alloc (Nat.le_refl _) o
  generalize linesD D = v at *
  clear hn1 hn2
  go_enter Try.func26, Try.ntmps26
  go_wp2_with fail
  refine (HL.out _).mono ?_
  rintro e w1 ⟨rfl, hb1⟩
  go_wp2_with fail
  go_ret
  exact ⟨rfl, below_trans (hB _) hb1⟩

set_option maxRecDepth 100000 in
set_option maxHeartbeats 6400000 in
theorem implMachineOk_any (M : MV) (A : MA) (w : World) (hl : MLen M) (hs : MSl w M A) (hU : ∀ j, U (M.cs.getD j 0)) :
    Calls Try.prog 8 #[.agg (mvc M A)] w fun e w' => e = .returned (.bool (machB M)) ∧ Below w.heap.size w w' := by
  have hB := fun W (_ : Below w.heap.size w W) => (implBit2_9 M.pc W).mono fun e w'' ⟨k1, k2⟩ => And.intro k1 (show Below W.heap.size W w'' by rw [k2]; exact (Below.refl _ _).drew)
  have hR := fun W hb => xOk_any A.ax M.x.length A.cx _ W rfl (hs.x.below hb)
  have hL := fun W hb => implLegal_any A.ac M.cs.length A.cc _ M.pr W rfl (hs.cs.below hb) hU
  have hM := fun W (_ : Below w.heap.size w W) => implRamOk_any A.ar M.ram.length A.cr W hl.ram
  have hD := fun W (_ : Below w.heap.size w W) => implDevOk_any M.d.t M.d.cm M.d.so A.ai M.d.xs.length A.ci A.ao M.d.ys.length A.co M.d.ir W hl.xs hl.ys
  have hN := fun W (_ : Below w.heap.size w W) => lines_any M.d A.ai A.ci A.ao A.co W hl.xs hl.ys
  have hE : machB M = ((bits .and .u64 M.pc 3 == 0) && regsB M.x.length M.x && legalB M.cs.length M.cs M.pr && ramOkB M.ram.length && okD M.d.xs.length M.d.ys.length M.d.ir && (M.hl || (M.hd == 0)) && (bits .and .u64 (M.cs.getD 9 0) 2184 == linesD M.d)) := by
    unfold machB bellsB linesD
    cases okD M.d.xs.length M.d.ys.length M.d.ir <;> simp
  rw [hE]
  clear hE
  generalize linesD M.d = ln at *
  generalize h1 : (bits .and .u64 M.pc 3 == 0) = b1
  generalize regsB M.x.length M.x = b2 at *
  generalize h3 : legalB M.cs.length M.cs M.pr = b3 at *
  generalize ramOkB M.ram.length = b4 at *
  generalize okD M.d.xs.length M.d.ys.length M.d.ir = b5 at *
  generalize h6 : (M.hd == 0) = b6
  generalize h7 : (bits .and .u64 (M.cs.getD 9 0) 2184 == ln) = b7
  cases b3 with
  | false =>
    refine wk_go (S := Bs w [(mvc M A, 29)]) [(mvc M A, 29)] Try.func8 rfl (by kernel_rfl) (by kernel_rfl) ?_
    cases b1
    case' true => cases b2
    all_goals exact wk_end (t := 2) (v := .bool false) Bs.eng { eq := [(6, eqB h1)], cv := [(5, cvW hB), (10, cvE hR), (17, cvW hL)] } 300 (Bs.start _ _) (by kernel_rfl) (by kernel_rfl) rfl (fun w' h => ⟨by simp, h.2⟩)
  | true =>
    have h22 := legal_22 h3
    obtain ⟨cb, co, hac, hcb, hcc⟩ := hs.cs 9 (by omega)
    obtain ⟨pc, x, pr, cs, ram, d, hd, hh, wt⟩ := M
    dsimp only at *
    refine wk_go (S := Bs w [(mvc ⟨pc, x, pr, cs, ram, d, hd, hh, wt⟩ A, 29)]) [(mvc ⟨pc, x, pr, cs, ram, d, hd, hh, wt⟩ A, 29)] Try.func8 rfl (by kernel_rfl) (by kernel_rfl) ?_
    have c9 : ∀ W, Bs w [(mvc ⟨pc, x, pr, cs, ram, d, hd, hh, wt⟩ A, 29)] W → W.cell? ⟨cb, co + 9, none⟩ = some (.int .u64 (cs.getD 9 0)) := fun W h => (h.2.cell (by exact hcb)).trans hcc
    cases b1
    case' true =>
      cases b2
      case' true =>
        cases b4
        case' true =>
          cases b5
          case' true => cases hh <;> cases b6 <;> cases b7
    all_goals exact wk_end (t := 2) (v := .bool _) Bs.eng { eq := [(6, eqB h1), (35, eqB h6), (47, eqB h7)], ov := [(41, ovX cs.length A.cc .i64 9 hac (by omega) Try.underlying25 (by kernel_rfl)), (42, ovL _ _ Try.underlying24 rfl c9)], cv := [(5, cvW hB), (10, cvE hR), (17, cvW hL), (22, cvE hM), (27, cvW hD), (46, cvW hN)] } 300 (Bs.start _ _) (by kernel_rfl) (by kernel_rfl) rfl (fun w' h => ⟨rfl, h.2⟩)

theorem fam_zeroM (B E : Nat) (w : World) : Fam B E w (mvF zeroM zeroA) := by
  refine ⟨fun r hr => ?_, fun r hr k e => ?_, ?_⟩
  · simp only [mvF, List.mem_cons, List.not_mem_nil, or_false] at hr
    rcases hr with rfl | rfl | rfl | rfl | rfl <;> exact ⟨rfl, .inl ⟨rfl, rfl⟩⟩
  · simp only [mvF, List.mem_cons, List.not_mem_nil, or_false] at hr
    rcases hr with rfl | rfl | rfl | rfl | rfl <;> cases e
  · simp only [mvF, List.pairwise_cons, List.mem_cons, List.not_mem_nil, or_false]
    refine ⟨fun s _ k e => ?_, fun s _ k e => ?_, fun s _ k e => ?_, fun s _ k e => ?_, fun s h => h.elim, List.Pairwise.nil⟩ <;> cases e

def rawM (ram : List Int) : MV := ⟨2147483648, List.replicate 32 0, 3, List.replicate 22 0, ram, zeroD, 0, false, false⟩

def newM (ram : List Int) : MV := if ramOkB ram.length = true then lineM (rawM ram) else zeroM

theorem zeros64 {w w' : World} {m : Nat} (hown : w'.ownsRow w.heap.size 24 1 (.slice (some ⟨w.heap.size, 0, none⟩) m m) m (madeCells (Value.int .u64 0).cells (m * 1)).toList) : w'.ownsRow w.heap.size 24 1 (.slice (some ⟨w.heap.size, 0, none⟩) m m) m ((List.replicate m (0 : Int)).map (Value.int .u64)) := by
  rw [List.map_replicate, ← toList_madeCells_one]; simpa [Value.cells] using hown

theorem wpH_make {K : Act → World → Prop} {Q : Exit → Act → World → Prop} {o : Oper} {a : Act} {W : World} {ys : Nat → Option Bool} (hw : Region.wanted o ys = true) (m : Nat) (l c : Operand) (hop : o.op = Op.makeSlice 25 l c) (hl : a.eval l = .int .i64 m) (hc : a.eval c = .int .i64 m) (hm : m ≤ 1048576)
    (h : ∀ W', W'.ownsRow W.heap.size 24 1 (.slice (some ⟨W.heap.size, 0, none⟩) m m) m ((List.replicate m (0 : Int)).map (Value.int .u64)) → Below W.heap.size W W' → K (a.put o.dst (.slice (some ⟨W.heap.size, 0, none⟩) m m)) W') :
    if Region.wanted o ys = true then Oper.wp Try.prog o a W K Q else K (a.put o.dst undef) W := by
  obtain ⟨i0, hi, hz0, hz1, hz2⟩ := info_parts infoW
  obtain ⟨w', hrun, r1, r2⟩ := run_make_full (P := Try.prog) W W.heap.size 25 24 i0 (.int .u64 0) 1 Try.underlying25 hi hz0 hz1 .i64 .i64 m (by rw [hz2]; omega) (by unfold maxLen; omega) (Nat.le_refl _)
  rw [if_pos hw]
  unfold Oper.wp
  simp [execOp, hop, hl, hc, hrun, Result.andThen]
  exact h _ (zeros64 r1) ((Below.refl _ _).grown r2 (Nat.le_refl _) (by intro k h; cases h))

theorem app8_new (ty : TypeId) {W : World} (g : Nat) (hown : W.ownsRow 0 5 1 (.slice (some ⟨g, 0, none⟩) 0 0) 0 []) (ad : Addr) (m c : Nat) (zs : List Int) (hz : zs.length = m) (h0 : 0 < m) (hm : m ≤ 1048576) (hsl : Sl .u8 W (some ad) zs) :
    ∃ (k : Nat) (W' : World), (Builtin.append_ #[22, 22] ty #[.slice (some ⟨g, 0, none⟩) 0 0, .slice (some ad) m c]).run Try.prog W = .ok (.slice (some ⟨W.heap.size, 0, none⟩) m k) W' ∧ W'.ownsRow W.heap.size 5 1 (.slice (some ⟨W.heap.size, 0, none⟩) m k) m (zs.map (Value.int .u8)) ∧ Below W.heap.size W W' := by
  obtain ⟨i0, hi, hz0, hz1, hz2⟩ := info_parts Try.info5
  have hnews : ∀ j u, (zs.map (Value.int .u8))[j]? = some u → W.cell? (ad.add j) = some u := by
    intro j u hu
    have hj : j < zs.length := by
      rcases Nat.lt_or_ge j zs.length with h | h
      · exact h
      · rw [List.getElem?_eq_none (by simpa using h)] at hu; cases hu
    obtain ⟨b, off, e, _, hc⟩ := hsl j hj
    cases e
    rw [adds, hc]
    rw [List.getElem?_map, List.getElem?_eq_getElem hj] at hu
    rw [List.getD_eq_getElem?_getD, List.getElem?_eq_getElem hj]
    exact hu
  have hl : (zs.map (Value.int .u8)).length = m * i0.size := by rw [List.length_map, hz, hz1]; omega
  obtain ⟨v', w', hr, h2, h3, h4⟩ := run_append_own (P := Try.prog) W 0 22 ty 5 i0 (.int .u8 0) 1 1 Try.underlying22 hi hz0 hz1 hz2 rfl (by decide) _ 0 [] hown ad m c (zs.map (Value.int .u8)) (by rw [List.length_map, hz]; omega) hnews (ints_oneCell _ _) (by unfold maxLen; omega) (by omega) (Nat.zero_le _)
  have hg := run_append_grow (P := Try.prog) W 22 ty 5 i0 (.int .u8 0) Try.underlying22 hi hz0 ⟨g, 0, none⟩ 0 0 [] (by simp) (fun j v h => by simp at h) ad m c (zs.map (Value.int .u8)) hl hnews (by omega) (by omega) (growslice_fits (by omega) (by rw [hz2]; omega))
  rw [hg] at hr
  simp only [Nat.zero_add, List.nil_append] at h2 hr hg
  injection hr with e1 e2
  subst e1
  subst e2
  refine ⟨_, _, hg, ?_, (Below.refl _ _).drew.alloc (by exact Nat.le_refl _) _⟩
  refine ⟨h2.1, ?_⟩
  rcases h2.2 with ⟨e, e0⟩ | ⟨g', cap, cur, e, hg', r⟩
  · cases e
  · refine .inr ⟨g', cap, cur, e, ?_, r⟩
    simp only [Value.slice.injEq, Option.some.injEq, Addr.mk.injEq] at e
    omega

theorem wpH_app8 {K : Act → World → Prop} {Q : Exit → Act → World → Prop} {o : Oper} {a : Act} {W : World} {ys : Nat → Option Bool} (hw : Region.wanted o ys = true) (s x : Operand) (hop : o.op = .call { callee := .builtin .append, args := #[s, x], argTypes := #[22, 22] }) (g : Nat) (hs : a.eval s = .slice (some ⟨g, 0, none⟩) 0 0) (ad : Addr) (m c : Nat) (zs : List Int) (hx : a.eval x = .slice (some ad) m c)
    (hown : W.ownsRow 0 5 1 (.slice (some ⟨g, 0, none⟩) 0 0) 0 []) (hz : zs.length = m) (h0 : 0 < m) (hm : m ≤ 1048576) (hsl : Sl .u8 W (some ad) zs)
    (h : ∀ k W', W'.ownsRow W.heap.size 5 1 (.slice (some ⟨W.heap.size, 0, none⟩) m k) m (zs.map (Value.int .u8)) → Below W.heap.size W W' → K (a.put o.dst (.slice (some ⟨W.heap.size, 0, none⟩) m k)) W') :
    if Region.wanted o ys = true then Oper.wp Try.prog o a W K Q else K (a.put o.dst undef) W := by
  obtain ⟨k, W', hr, h1, h2⟩ := app8_new o.type g hown ad m c zs hz h0 hm hsl
  rw [if_pos hw]
  unfold Oper.wp execOp
  simp only [hop, resolve, invoke, builtin, Sem.run_bind, Sem.run_pure, Result.andThen_ok, List.map_toArray, List.map_cons, List.map_nil, hs, hx, hr]
  exact h _ _ h1 h2

theorem raw_len (ram : List Int) (h : ram.length ≤ 1048576) : MLen (rawM ram) := ⟨by simp [rawM], by simp [rawM], h, by simp [rawM, zeroD], by simp [rawM, zeroD]⟩

theorem ramOk_pos {n : Nat} (h : ramOkB n = true) : 0 < n := by
  rcases Nat.eq_zero_or_pos n with h0 | h0
  · subst h0; revert h; decide
  · exact h0

theorem fam_setRow {B E : Nat} {w : World} {L : List FRow} (h : Fam B E w L) (g : Nat) (hg : ∀ q ∈ L, q.v.ownBlock ≠ some g) (cs : Array Value) : Fam B E (w.setRow g cs) L :=
  ⟨fun r hr => fown_of (h.own r hr) (fun k e => setRow_other w g k cs (fun e2 => hg r hr (by rw [← e2]; exact e))), h.hi, h.ne⟩

theorem below_row9 {B : Nat} {v w : World} (h : Below B v w) {g : Nat} (hg : B ≤ g) (cs : Array Value) : Below B v (w.setRow g cs) :=
  ⟨h.os, h.tape, h.output, by rw [setRow_size]; exact h.size, fun k hk => (setRow_other w g k cs (by omega)).trans (h.block k hk)⟩

theorem yields_build {P : Program} {o : Oper} {a : Act} {w : World} (t : TypeId) (parts : Array (Nat × Operand)) (ho : o.op = .build t parts) (vs : List (Nat × Value)) (hv : parts.toList.map (fun p => (p.1, a.eval p.2)) = vs) (cells : Array Value) (h : P.built t vs = some cells) : (execOp a.eval o).run P w = .ok (.value (.agg cells)) w := by
  have hv2 : (parts.map fun (i, x) => (i, a.eval x)).toList = vs := by rw [Array.toList_map]; exact hv
  subst hv2
  clear hv
  unfold execOp
  simp only [ho, Sem.run_bind, run_build w t _ cells h, Result.andThen_ok]
  rfl

end Go.Proofs.Ytmigfnlfjgkgkaa
