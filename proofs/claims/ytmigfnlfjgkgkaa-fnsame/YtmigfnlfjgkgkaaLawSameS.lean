/- The walk of laws.FnSame: to be the same goes both ways, and no machine that is not right is the same as any. By reckoning. -/
import Derived.Test.YtmigfnlfjgkgkaaK16
import Derived.Test.YtmigfnlfjgkgkaaK18
import Derived.Test.YtmigfnlfjgkgkaaK20
import Derived.Test.YtmigfnlfjgkgkaaK21
namespace Go.Proofs.Ytmigfnlfjgkgkaa.fnSame
open Go.RowKit
set_option linter.unusedVariables false

theorem ucs_wf {l : List Int} (h : ∀ j, U (l.getD j 0)) : ∀ y ∈ l, (Lit.int .u64 y).wf = true := by
  intro y hy
  obtain ⟨j, hj, rfl⟩ := List.getElem_of_mem hy
  have h1 := h j
  rw [List.getD_eq_getElem?_getD, List.getElem?_eq_getElem hj, Option.getD_some] at h1
  have h2 := h1.1
  have h3 := h1.2
  simp [Lit.wf, IntKind.min, IntKind.max, IntKind.signed, IntKind.bits]
  omega

/-- Two machines that were drawn, in variables of one's own. -/
structure Sw (w2 : World) (b : Nat) (M N : MV) (A C : MA) (W : World) : Prop where
  r1 : W.heap[b]? = some (.cells (mvc M A) 29 (0, 0))
  r2 : W.heap[b + 1]? = some (.cells (mvc N C) 29 (0, 0))
  bel : Below w2.heap.size w2 W

theorem Sw.below {w2 W W' : World} {b : Nat} {M N : MV} {A C : MA} (h : Sw w2 b M N A C W) (k : Below W.heap.size W W') : Sw w2 b M N A C W' := ⟨dstays k h.r1, dstays k h.r2, below_trans h.bel k⟩

theorem Sw.eng {P : Program} {fn : Func} {Rs : Ending → World → Prop} {w2 : World} {b : Nat} {M N : MV} {A C : MA} : Eng P (Sw w2 b M N A C) (Sw w2 b M N A C) [⟨b, mvc M A, []⟩, ⟨b + 1, mvc N C, []⟩] true (bodyPost P fn Rs) :=
  ⟨fun _ h => h, fun W h r hr => by
    rcases List.mem_cons.1 hr with rfl | hr
    · exact ⟨_, _, h.r1⟩
    · rw [List.mem_singleton.1 hr]; exact ⟨_, _, h.r2⟩, fun _ W h => h.below (Below.refl _ _).drew, pan_body⟩

set_option maxRecDepth 20000 in
set_option maxHeartbeats 3200000 in
theorem walk (a0 : Option Addr) (len0 cap0 : Nat) (z0 : List Int) (w : World) (w0 : IsRow .u8 w a0 len0 cap0 z0) :
    Calls Try.prog 3 #[.slice a0 len0 cap0] w fun e w' => e = .returned (.bool true) ∧ Below w.heap.size w w' := by
  obtain ⟨bg, hbg⟩ : ∃ bg, decide (4096 < len0) = bg := ⟨_, rfl⟩
  have hbig := big_any a0 len0 cap0 w
  rw [hbg] at hbig
  refine wk_go (S := fun _ => True) (args := [.slice a0 len0 cap0]) [] Try.func3 rfl (by kernel_rfl) (by kernel_rfl) ?_
  refine wx_call (R := []) trivial {} 40 hbig (by kernel_rfl) (by kernel_rfl) ?_
  rintro e w1 ⟨rfl, rfl⟩
  refine ⟨_, 0, rfl, ?_⟩
  cases bg with
  | true => exact wx_end (R := []) trivial {} 40 (t := 2) (v := .bool true) (by kernel_rfl) (by kernel_rfl) rfl ⟨rfl, Below.refl _ _⟩
  | false =>
    obtain ⟨zs, hcd⟩ := code_of w0 (by have := of_decide_eq_false hbg; omega)
    refine wx_call (R := []) trivial {} 40 (DrawSame_c cap0 w1 hcd) (by kernel_rfl) (by kernel_rfl) ?_
    rintro e w2 ⟨M, N, A, C, rfl, hM, hN, hsM, hsN, hb2⟩
    refine ⟨_, 0, rfl, ?_⟩
    refine wx_op (R := []) (w' := w2.alloc (.cells (mvc zeroM zeroA) 29)) trivial {} 10 1 (run_al (T := 29) (z := .agg (mvc zeroM zeroA)) (by kernel_rfl) w2) (by kernel_rfl) (by kernel_rfl) ?_
    refine wx_op (R := []) (w' := (w2.alloc (.cells (mvc zeroM zeroA) 29)).alloc (.cells (mvc zeroM zeroA) 29)) trivial {} 10 2 (run_al (T := 29) (z := .agg (mvc zeroM zeroA)) (by kernel_rfl) (w2.alloc (.cells (mvc zeroM zeroA) 29))) (by kernel_rfl) (by kernel_rfl) ?_
    have hb3 := (Below.refl w2.heap.size w2).alloc (Nat.le_refl _) (.cells (mvc zeroM zeroA) 29)
    have ha3 := heap_alloc_new w2 (.cells (mvc zeroM zeroA) 29)
    have hz3 : (w2.alloc (.cells (mvc zeroM zeroA) 29)).heap.size = w2.heap.size + 1 := World.size_alloc _ _
    rw [hz3]
    generalize w2.alloc (.cells (mvc zeroM zeroA) 29) = w3 at *
    have hb4 := (Below.refl w3.heap.size w3).alloc (Nat.le_refl _) (.cells (mvc zeroM zeroA) 29)
    have ha4 := heap_alloc_new w3 (.cells (mvc zeroM zeroA) 29)
    rw [hz3] at ha4
    have ha34 := dstays hb4 ha3
    generalize w3.alloc (.cells (mvc zeroM zeroA) 29) = w4 at *
    refine wx_sk (R := []) trivial {} 10 (run_stRow (ty := 29) (cells := mvc M A) ha34 (by kernel_rfl) (by kernel_rfl) (mvc_oneM M A)) (by kernel_rfl) (by kernel_rfl) ?_
    have ha5 : (w4.setRow w2.heap.size (mvc M A)).heap[w2.heap.size + 1]? = some (.cells (mvc zeroM zeroA) 29 (0, 0)) := by rw [setRow_other _ _ _ _ (by omega)]; exact ha4
    refine wx_sk (R := []) trivial {} 10 (run_stRow (ty := 29) (cells := mvc N C) ha5 (by kernel_rfl) (by kernel_rfl) (mvc_oneM N C)) (by kernel_rfl) (by kernel_rfl) ?_
    have hS : Sw w2 w2.heap.size M N A C ((w4.setRow w2.heap.size (mvc M A)).setRow (w2.heap.size + 1) (mvc N C)) := by
      have h24 := below_trans hb3 hb4
      refine ⟨by rw [setRow_other _ _ _ _ (by omega)]; exact setRow_heap _ _ _ _ _ _ ha34, setRow_heap _ _ _ _ _ _ (by rw [setRow_other _ _ _ _ (by omega)]; exact ha4), ⟨h24.os, h24.tape, h24.output, by rw [setRow_size, setRow_size]; exact h24.size, fun k hk => by rw [setRow_other _ _ _ _ (by omega), setRow_other _ _ _ _ (by omega)]; exact h24.block k hk⟩⟩
    generalize (w4.setRow w2.heap.size (mvc M A)).setRow (w2.heap.size + 1) (mvc N C) = w5 at *
    clear ha34 ha4 ha3 hb3 hb4 ha5
    have HM := fun W (hW : Sw w2 w2.heap.size M N A C W) => hsM.below hW.bel
    have HN := fun W (hW : Sw w2 w2.heap.size M N A C W) => hsN.below hW.bel
    have bM : Bx M := ⟨hM.ram, hM.xs, hM.ys⟩
    have bN : Bx N := ⟨hN.ram, hN.xs, hN.ys⟩
    have cM := ucs_wf hM.ucs
    have cN := ucs_wf hN.ucs
    have H1 := fun W hW => implSame_any M N A C W hM.len hN.len bM bN cM cN (HM W hW) (HN W hW)
    have H2 := fun W hW => specSame_any M N A C W hM.len hN.len (HM W hW) (HN W hW)
    have H3 := fun W hW => implSame_any N M C A W hN.len hM.len bN bM cN cM (HN W hW) (HM W hW)
    have H4 := fun W hW => implSame_any M M A A W hM.len hM.len bM bM cM cM (HM W hW) (HM W hW)
    have H5 := fun W hW => implMachineOk_any M A W hM.len (HM W hW) hM.ucs
    rw [sameM_comm M N] at H3
    rw [sameM_self] at H4
    obtain ⟨mb, hmb⟩ : ∃ mb, machB M = mb := ⟨_, rfl⟩
    rw [hmb] at H4 H5
    have hend : ∀ W, Sw w2 w2.heap.size M N A C W → Below w1.heap.size w1 W := fun W hW => below_trans hb2 hW.bel
    refine wk_S (Sw w2 w2.heap.size M N A C) (by kernel_rfl) ?_
    obtain ⟨s, hs⟩ : ∃ s, sameM M N = s := ⟨_, rfl⟩
    rw [hs] at H1 H2 H3
    cases s with
    | false => cases mb <;> exact wk_end (t := 2) (v := .bool true) Sw.eng { cv := [(15, cvC Sw.below H1), (19, cvC Sw.below H2), (24, cvC Sw.below H3), (31, cvC Sw.below H4), (33, cvC Sw.below H5)] } 200 hS (by kernel_rfl) (by kernel_rfl) rfl (fun W hW => ⟨rfl, hend W hW⟩)
    | true =>
      have hMN := sameM_eq hs
      subst hMN
      have H6 := fun W hW => likeMachine_same M A C W hM.len (HM W hW) (HN W hW)
      cases mb <;> exact wk_end (t := 2) (v := .bool true) Sw.eng { cv := [(15, cvC Sw.below H1), (19, cvC Sw.below H2), (24, cvC Sw.below H3), (31, cvC Sw.below H4), (33, cvC Sw.below H5), (42, cvC Sw.below H6)] } 200 hS (by kernel_rfl) (by kernel_rfl) rfl (fun W hW => ⟨rfl, hend W hW⟩)

end Go.Proofs.Ytmigfnlfjgkgkaa.fnSame
