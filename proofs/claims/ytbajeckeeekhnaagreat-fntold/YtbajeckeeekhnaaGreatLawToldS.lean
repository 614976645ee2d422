/- The walk of laws.FnTold: what is told of a trap to the machine is what its registers hold. By reckoning. -/
import Derived.Test.YtbajeckeeekhnaaGreatK40
import Derived.Test.YtbajeckeeekhnaaGreatK50
import Derived.Test.YtbajeckeeekhnaaGreatK51
namespace Go.Proofs.YtbajeckeeekhnaaGreat.fnTold
open Go.RowKit
set_option linter.unusedVariables false

theorem any_fit {M : MV} (h : Ma M) : Fit M := ⟨⟨h.ucs, h.bram, h.d.by_.1, h.d.by_.2⟩, h.ux, h.pc, h.hd, h.d.t, h.d.cm⟩

theorem fam_sl {B E : Nat} {W : World} {M : MV} {A : MA} (f : Fam B E W (mvF M A)) : MSl W M A :=
  ⟨own_sl' (f.own (wRow A.ax M.x.length A.cx M.x) (by simp [mvF])), own_sl' (f.own (wRow A.ac M.cs.length A.cc M.cs) (by simp [mvF])), own_sl' (f.own (bRow A.ar M.ram.length A.cr M.ram) (by simp [mvF])), own_sl' (f.own (bRow A.ai M.d.xs.length A.ci M.d.xs) (by simp [mvF])), own_sl' (f.own (bRow A.ao M.d.ys.length A.co M.d.ys) (by simp [mvF]))⟩

set_option maxRecDepth 100000 in
set_option maxHeartbeats 3200000 in
theorem DrawTold_c {a : Option Addr} {n : Nat} (cap : Nat) {zs : List Int} (w : World) (hcd : Code w a n zs) :
    Calls Tryz.prog 5 #[.slice a n cap] w fun e w' => ∃ (M : MV) (A : MA), e = .returned (.agg (mvc M A)) ∧ MLen M ∧ (∀ j, U (M.cs.getD j 0)) ∧ MSl w' M A ∧ Below w.heap.size w w' := by
  refine wk_go (S := fun _ => True) (args := [.slice a n cap]) [(mvc zeroM zeroA, 29)] Tryz.func5 rfl (by kernel_rfl) (by kernel_rfl) ?_
  have hB0 : Below w.heap.size w (allocs w [(mvc zeroM zeroA, 29)]) := (Below.refl _ _).alloc (Nat.le_refl _) _
  have hS0 : (allocs w [(mvc zeroM zeroA, 29)]).heap.size = w.heap.size + 1 := by simp [allocs]
  have hA0 := (Bs.start w [(mvc zeroM zeroA, 29)]).1 0 _ rfl
  generalize allocs w [(mvc zeroM zeroA, 29)] = w1 at *
  have hcd1 : Code w1 a n zs := ⟨hcd.len, hcd.few, hcd.sl.below hB0, hcd.bd⟩
  refine wx_call (R := []) trivial {} 40 (l1New_c cap w1 hcd1) (by kernel_rfl) (by kernel_rfl) ?_
  rintro e w2 ⟨g, rfl, hc0⟩
  refine ⟨_, 0, rfl, ?_⟩
  have hc2 : Cur w w2 g a n cap := ⟨by have := hc0.out.new; omega, hB0.trans (hc0.out.below.mono (by omega)), hc0.out.row⟩
  refine wx_call (R := []) trivial {} 40 (l9DrawAny_c hcd w2 hc2) (by kernel_rfl) (by kernel_rfl) ?_
  rintro e w3 ⟨M, A, rfl, hma, hsl, _, hnew, hcs⟩
  refine ⟨_, 0, rfl, ?_⟩
  have hg1 := hc0.out.new
  have hg2 := hc2.lt
  have hg3 := hcs.out.2.size
  have hz0 := hc0.out.below.size
  have hr3 : w3.heap[w.heap.size]? = some (.cells (mvc zeroM zeroA) 29 (0, 0)) := hcs.out.keep (by rw [hc0.out.below.block _ (by omega)]; exact hA0) (by omega)
  have hb3 : Below w.heap.size w w3 := hcs.out.1.below
  refine wx_op (R := []) trivial {} 10 1 (run_al (T := 29) (z := .agg (mvc zeroM zeroA)) (by kernel_rfl) w3) (by kernel_rfl) (by kernel_rfl) ?_
  refine wx_sk (R := []) trivial {} 10 (run_stRow (ty := 29) (cells := mvc M A) (heap_alloc_new w3 _) (by kernel_rfl) (by kernel_rfl) (mvc_one M A)) (by kernel_rfl) (by kernel_rfl) ?_
  rw [World.setRow_alloc_new]
  have hma' := hma.out
  have hsl' := hsl.out
  have hnw' := hnew.out
  clear hcd1 hcs hma hsl hnew
  have fin : ∀ (N : MV) (C : MA) (B' : Nat) (W : World), W.heap[w3.heap.size]? = some (.cells (mvc N C) 29 (0, 0)) → W.heap[w.heap.size]? = some (.cells (mvc zeroM zeroA) 29 (0, 0)) → Below w.heap.size w W → MSl W N C → MNew B' C → w.heap.size < B' → MLen N → (∀ j, U (N.cs.getD j 0)) → Wg Tryz.prog (Bs w3 [(mvc M A, 29)]) (bodyPost Tryz.prog Tryz.f5 fun e w' => ∃ (M : MV) (A : MA), e = .returned (.agg (mvc M A)) ∧ MLen M ∧ (∀ j, U (M.cs.getD j 0)) ∧ MSl w' M A ∧ Below w.heap.size w w') Tryz.f5.ntmps [.code (dropC 4 (bodyOf Tryz.f5))] [(2, .pointer (some ⟨w.heap.size, 0, none⟩), 0), (4, .pointer (some ⟨w3.heap.size, 0, none⟩), 1)] W := by
    intro N C B' W h1 h2 h3 h4 h5 h6 h7 h8
    refine wx_sk (R := [⟨w3.heap.size, mvc N C, []⟩]) ⟨⟨_, _, h1⟩, trivial⟩ {} 40 (run_stRow (g := w.heap.size) (t := 29) (ty := 29) (cells := mvc N C) h2 (by kernel_rfl) rfl (mvc_one N C)) (by kernel_rfl) (by kernel_rfl) ?_
    refine wx_ret (R := []) trivial {} 40 (by kernel_rfl) (by kernel_rfl) fun b hk => ⟨_, results_cell_row rfl b.tmps _ w.heap.size 29 (mvc N C) (0, 0) _ (hk.slot (by kernel_rfl)) (setRow_heap _ _ _ _ _ _ h2) Tryz.underlying29 rfl (by kernel_rfl), N, C, rfl, h7, h8, msl_heap h4 h5 (fun k hk => setRow_other _ _ _ _ (by omega)) (by rw [setRow_size]; exact Nat.le_refl _), row_below h3 (Nat.le_refl _) _⟩
  have h4 := Bs.start w3 [(mvc M A, 29)]
  change Bs w3 [(mvc M A, 29)] (w3.alloc (.cells (mvc M A) 29)) at h4
  refine wx_adv (R := []) trivial {} 1 (by kernel_rfl) (by kernel_rfl) ?_
  refine wk_S (Bs w3 [(mvc M A, 29)]) (by kernel_rfl) ?_
  refine wk_join [.code (dropC 3 (bodyOf Tryz.f5))] [(2, .pointer (some ⟨w.heap.size, 0, none⟩), 0), (4, .pointer (some ⟨w3.heap.size, 0, none⟩), 1)] (by kernel_rfl) (by kernel_rfl) ?_
  have HM := fun W (hb : Below w3.heap.size w3 W) => specMachineOk_any M A W hma'.len (hsl'.below hb)
  cases ok : machB M with
  | false =>
    rw [ok] at HM
    refine wk_adv Bs.eng { cv := [(10, cvW HM)] } 8 h4 (by kernel_rfl) (by kernel_rfl) fun W hW => ?_
    exact wk_join _ _ (by kernel_rfl) (by kernel_rfl) (fin M A w2.heap.size W (hW.1 0 _ rfl) (dstays hW.2 hr3) (hb3.trans (hW.2.mono (by omega))) (hsl'.below hW.2) hnw' (by omega) hma'.len hma'.ucs)
  | true =>
    rw [ok] at HM
    have hst : stepsA M 5 = stepsM 5 M := by unfold stepsA; rw [ok]; rfl
    have hgw := steps_gw 5 (M := M) ⟨(any_fit hma').gd ok, (any_fit hma').ud⟩
    refine wk_ac Bs.eng { cv := [(10, cvW HM)] } 40 h4 (fun W hW => hst ▸ specSteps_any M A 5 W hma'.len (hsl'.below hW.2) (any_fit hma')) (by kernel_rfl) (by kernel_rfl) ?_
    generalize stepsM 5 M = V at hgw
    rintro W5 e W6 h5 ⟨C, a', c', rfl, f6, o6, b6⟩
    refine ⟨_, 0, rfl, nob (by kernel_rfl), ?_⟩
    have h6 := h5.below b6
    have z5 := h5.2.size
    have sl6 := fam_sl f6
    have nw6 := fam_from f6
    refine wx_sk (R := []) trivial {} 40 (run_stRow (g := w3.heap.size) (t := 29) (ty := 29) (old := mvc M A) (cells := mvc V.1 C) (h6.1 0 _ rfl) (by kernel_rfl) rfl (mvc_one _ _)) (by kernel_rfl) (by kernel_rfl) ?_
    refine wx_adv (R := []) trivial {} 1 (by kernel_rfl) (by kernel_rfl) ?_
    have z7 := (Array.getElem?_eq_some_iff.1 (h5.1 0 _ rfl)).1
    exact wk_join _ _ (by kernel_rfl) (by kernel_rfl) (fin V.1 C W5.heap.size _ (setRow_heap _ _ _ _ _ _ (h6.1 0 _ rfl)) ((setRow_other _ _ _ _ (by omega)).trans (dstays h6.2 hr3)) (row_below (hb3.trans (h6.2.mono (by omega))) (by omega) _) (msl_heap sl6 nw6 (fun k hk => setRow_other _ _ _ _ (by omega)) (by rw [setRow_size]; exact Nat.le_refl _)) nw6 (by omega) hgw.1.len hgw.1.mw.cs)

set_option maxRecDepth 20000 in
set_option maxHeartbeats 3200000 in
theorem walk (a0 : Option Addr) (len0 cap0 : Nat) (z0 : List Int) (w : World) (w0 : IsRow .u8 w a0 len0 cap0 z0) :
    Calls Tryz.prog 3 #[.slice a0 len0 cap0] w fun e w' => e = .returned (.bool true) ∧ Below w.heap.size w w' := by
  obtain ⟨bg, hbg⟩ : ∃ bg, decide (4096 < len0) = bg := ⟨_, rfl⟩
  have hbig := big_any a0 len0 cap0 w
  rw [hbg] at hbig
  refine wk_go (S := fun _ => True) (args := [.slice a0 len0 cap0]) [] Tryz.func3 rfl (by kernel_rfl) (by kernel_rfl) ?_
  refine wx_call (R := []) trivial {} 40 hbig (by kernel_rfl) (by kernel_rfl) ?_
  rintro e w1 ⟨rfl, rfl⟩
  refine ⟨_, 0, rfl, ?_⟩
  cases bg with
  | true => exact wx_end (R := []) trivial {} 40 (t := 2) (v := .bool true) (by kernel_rfl) (by kernel_rfl) rfl ⟨rfl, Below.refl _ _⟩
  | false =>
    obtain ⟨zs, hcd⟩ := code_of w0 (by have := of_decide_eq_false hbg; omega)
    refine wx_call (R := []) trivial {} 40 (DrawTold_c cap0 w1 hcd) (by kernel_rfl) (by kernel_rfl) ?_
    rintro e w2 ⟨M, A, rfl, hM, hU, hs, hb2⟩
    refine ⟨_, 0, rfl, ?_⟩
    refine wx_op (R := []) trivial {} 10 1 (run_al (T := 29) (z := .agg (mvc zeroM zeroA)) (by kernel_rfl) w2) (by kernel_rfl) (by kernel_rfl) ?_
    refine wx_sk (R := []) trivial {} 10 (run_stRow (ty := 29) (cells := mvc M A) (heap_alloc_new w2 _) (by kernel_rfl) (by kernel_rfl) (mvc_one M A)) (by kernel_rfl) (by kernel_rfl) ?_
    rw [World.setRow_alloc_new]
    have h3 := Bs.start w2 [(mvc M A, 29)]
    change Bs w2 [(mvc M A, 29)] (w2.alloc (.cells (mvc M A) 29)) at h3
    refine wx_adv (R := []) trivial {} 1 (by kernel_rfl) (by kernel_rfl) ?_
    refine wk_S (Bs w2 [(mvc M A, 29)]) (by kernel_rfl) ?_
    refine wk_join [.code (dropC 3 (bodyOf Tryz.f3))] [(3, .pointer (some ⟨w2.heap.size, 0, none⟩), 1)] (by kernel_rfl) (by kernel_rfl) ?_
    have HI := fun W (hb : Below w2.heap.size w2 W) => implTold_any M A W hM (hs.below hb) hU
    have HS := fun W (hb : Below w2.heap.size w2 W) => specTold_any M A W hM (hs.below hb) hU
    have HK := fun W (hb : Below w2.heap.size w2 W) => implMachineOk_any M A W hM (hs.below hb) hU
    unfold tellM at HI HS
    cases ok : machB M with
    | false =>
      rw [ok] at HI HS HK
      exact wk_end (t := 2) (v := .bool true) Bs.eng { cv := [(16, cvW HI), (22, cvW HS), (42, cvW HK)] } 200 h3 (by kernel_rfl) (by kernel_rfl) rfl fun W h => ⟨rfl, hb2.trans (h.2.mono hb2.size)⟩
    | true =>
      rw [ok] at HI HS
      obtain ⟨h22, _⟩ := told_parts ok
      obtain ⟨b, off, hac, hblt, _⟩ := hs.cs 0 (by omega)
      have cc : ∀ j, j < 22 → ∀ W, Bs w2 [(mvc M A, 29)] W → W.cell? ⟨b, off + j, none⟩ = some (.int .u64 (M.cs.getD j 0)) := fun j hj W h => by
        obtain ⟨b', o', e', hb', hc'⟩ := hs.cs j (by omega)
        rw [hac] at e'
        cases e'
        exact (h.2.cell (by exact hblt)).trans hc'
      have lo := told_low (M.cs.getD 7 0)
      have c6 := cc 6 (by omega)
      have c7 := cc 7 (by omega)
      have c8 := cc 8 (by omega)
      have sh : ∀ x : Int, x.fdiv (2 ^ 63) = x / 9223372036854775808 := fun x => shr_d x 63 _ rfl
      have ex : ∀ x : Int, (x != x) = false := fun x => by simp
      have ee : ∀ x : Int, (x == x) = true := fun x => by simp
      generalize M.cs.getD 6 0 = x6 at *
      generalize M.cs.getD 7 0 = x7 at *
      generalize M.cs.getD 8 0 = x8 at *
      generalize hy : bits .and .u64 x7 15 = y at *
      have sx := sh x7
      clear sh hU HK
      have d0 : ∀ z : Int, 0 ≤ z → decide (z < 0) = false := fun z hz => by rw [decide_eq_false_iff_not]; omega
      cases ht : (x7 / 9223372036854775808 == 1) <;> rw [ht] at HI HS
      · have m0 : IntKind.u64.wrap (y.tmod 100) = y := by rw [Int.tmod_eq_emod_of_nonneg lo.1, IntKind.wrap_u64]; omega
        have g0 : decide (100 ≤ y) = false := by rw [decide_eq_false_iff_not]; omega
        exact wk_end (t := 2) (v := .bool true) Bs.eng { cv := [(16, cvW HI), (22, cvW HS)], eq := [(28, eqB (ex y)), (32, eqB (ex x6)), (37, eqB (ex x8)), (40, eqB (d0 y lo.1)), (57, eqB (ee x6)), (64, eqB (ee x8)), (69, eqI .u64 m0), (74, eqI .u64 hy), (75, eqB (ee y)), (79, eqB g0), (84, eqI .u64 sx), (85, eqB ht)], ov := [(55, ovX M.cs.length A.cc .i64 6 hac ⟨by omega, by omega⟩ Tryz.underlying25 (by kernel_rfl)), (56, ovL ⟨b, off + (6 : Int).toNat, none⟩ (.int .u64 x6) Tryz.underlying24 rfl c6), (62, ovX M.cs.length A.cc .i64 8 hac ⟨by omega, by omega⟩ Tryz.underlying25 (by kernel_rfl)), (63, ovL ⟨b, off + (8 : Int).toNat, none⟩ (.int .u64 x8) Tryz.underlying24 rfl c8), (68, ovR .i64 y 100 (by decide)), (72, ovX M.cs.length A.cc .i64 7 hac ⟨by omega, by omega⟩ Tryz.underlying25 (by kernel_rfl)), (73, ovL ⟨b, off + (7 : Int).toNat, none⟩ (.int .u64 x7) Tryz.underlying24 rfl c7), (82, ovX M.cs.length A.cc .i64 7 hac ⟨by omega, by omega⟩ Tryz.underlying25 (by kernel_rfl)), (83, ovL ⟨b, off + (7 : Int).toNat, none⟩ (.int .u64 x7) Tryz.underlying24 rfl c7)] } 300 h3 (by kernel_rfl) (by kernel_rfl) rfl fun W h => ⟨rfl, hb2.trans (h.2.mono hb2.size)⟩
      · have m0 : IntKind.u64.wrap ((y + 100).tmod 100) = y := by rw [Int.tmod_eq_emod_of_nonneg (by omega), IntKind.wrap_u64]; omega
        have g0 : decide (100 ≤ y + 100) = true := by rw [decide_eq_true_eq]; omega
        exact wk_end (t := 2) (v := .bool true) Bs.eng { cv := [(16, cvW HI), (22, cvW HS)], eq := [(28, eqB (ex (y + 100))), (32, eqB (ex x6)), (37, eqB (ex x8)), (40, eqB (d0 (y + 100) (by omega))), (57, eqB (ee x6)), (64, eqB (ee x8)), (69, eqI .u64 m0), (74, eqI .u64 hy), (75, eqB (ee y)), (79, eqB g0), (84, eqI .u64 sx), (85, eqB ht)], ov := [(55, ovX M.cs.length A.cc .i64 6 hac ⟨by omega, by omega⟩ Tryz.underlying25 (by kernel_rfl)), (56, ovL ⟨b, off + (6 : Int).toNat, none⟩ (.int .u64 x6) Tryz.underlying24 rfl c6), (62, ovX M.cs.length A.cc .i64 8 hac ⟨by omega, by omega⟩ Tryz.underlying25 (by kernel_rfl)), (63, ovL ⟨b, off + (8 : Int).toNat, none⟩ (.int .u64 x8) Tryz.underlying24 rfl c8), (68, ovR .i64 (y + 100) 100 (by decide)), (72, ovX M.cs.length A.cc .i64 7 hac ⟨by omega, by omega⟩ Tryz.underlying25 (by kernel_rfl)), (73, ovL ⟨b, off + (7 : Int).toNat, none⟩ (.int .u64 x7) Tryz.underlying24 rfl c7), (82, ovX M.cs.length A.cc .i64 7 hac ⟨by omega, by omega⟩ Tryz.underlying25 (by kernel_rfl)), (83, ovL ⟨b, off + (7 : Int).toNat, none⟩ (.int .u64 x7) Tryz.underlying24 rfl c7)] } 300 h3 (by kernel_rfl) (by kernel_rfl) rfl fun W h => ⟨rfl, hb2.trans (h.2.mono hb2.size)⟩

end Go.Proofs.YtbajeckeeekhnaaGreat.fnTold
