/- The model's machines that are right. By reckoning. -/
import Derived.Test.YtdcihpbggknhgaaRMacC
import Derived.Test.YtdcihpbggknhgaaRCsrT
import Derived.Test.YtdcihpbggknhgaaRDevW
import Derived.Test.YtdcihpbggknhgaaRSymB
namespace Go.Proofs.YtdcihpbggknhgaaR
open Go.RowKit
set_option linter.unusedVariables false

def regsB (n : Nat) (x : List Int) : Bool := decide (n = 32) && (x.getD 0 0 == 0)

theorem l9Regs_any (a : Option Addr) (n c : Nat) (x : List Int) (w : World) (hx : x.length = n) (hs : Sl .u64 w a x) :
    Calls Try.prog 34 #[.slice a n c] w fun e w' => e = .returned (.bool (regsB n x)) ∧ w' = w := by
  by_cases h : n = 32
  · subst h
    obtain ⟨b, off, rfl, hb, hc⟩ := hs 0 (by omega)
    have F : Hid (regsB 32 x = (x.getD 0 0 == 0)) := by show _ = _; unfold regsB; simp
    have hc2 : w.cell? ⟨b, off, none⟩ = some (.int .u64 (x.getD 0 0)) := hc
    generalize regsB 32 x = V at *
    generalize x.getD 0 0 = y at *
    clear hs hx hc
    go_enter Try.func34, Try.ntmps34
    go_wp2_with fail
    go_ret
    exact ⟨by rw [F.out]; rfl, rfl⟩
  · have F : Hid (regsB n x = false) := by show _ = _; unfold regsB; rw [decide_eq_false h]; rfl
    have d : ((n : Int) == 32) = false := by simp; omega
    generalize regsB n x = V at *
    clear hs hx h
    go_enter Try.func34, Try.ntmps34
    go_wp2_with fail
    go_ret
    exact ⟨by rw [F.out]; rfl, rfl⟩

def bellsB (M : MV) : Bool := bits .and .u64 (M.cs.getD 9 0) 2184 == linesV M.d

/-- What a right machine is. -/
def machB (M : MV) : Bool := (bits .and .u64 M.pc 3 == 0) && regsB M.x.length M.x && legalB M.cs.length M.cs M.pr && ramOkB M.ram.length && okD M.d.xs.length M.d.ys.length M.d.ir && (M.hl || (M.hd == 0)) && bellsB M

theorem legal_22 {n : Nat} {l : List Int} {p : Int} (h : legalB n l p = true) : n = 22 := by
  unfold legalB csrsOk at h
  simp only [Bool.and_eq_true, decide_eq_true_eq] at h
  exact h.1.1

set_option maxRecDepth 100000 in
set_option maxHeartbeats 6400000 in
theorem specMachineOk_any (M : MV) (A : MA) (w : World) (hl : MLen M) (hs : MSl w M A) :
    Calls Try.prog 19 #[.agg (mvc M A)] w fun e w' => e = .returned (.bool (machB M)) ∧ Below w.heap.size w w' := by
  have hR := fun W hb => l9Regs_any A.ax M.x.length A.cx _ W rfl (hs.x.below hb)
  have hL := fun W hb => specLegal_any A.ac M.cs.length A.cc _ M.pr W rfl (hs.cs.below hb)
  have hM := fun W (_ : Below w.heap.size w W) => specRamOk_any A.ar M.ram.length A.cr W hl.ram
  have hD := fun W (_ : Below w.heap.size w W) => specDevOk_any M.d.t M.d.cm M.d.so A.ai M.d.xs.length A.ci A.ao M.d.ys.length A.co M.d.ir W hl.xs hl.ys
  have hN := fun W (_ : Below w.heap.size w W) => l8Lines_any M.d.t M.d.cm M.d.so A.ai M.d.xs.length A.ci A.ao M.d.ys.length A.co M.d.ir W hl.xs
  unfold machB bellsB
  generalize h1 : (bits .and .u64 M.pc 3 == 0) = b1
  generalize regsB M.x.length M.x = b2 at *
  generalize h3 : legalB M.cs.length M.cs M.pr = b3 at *
  generalize ramOkB M.ram.length = b4 at *
  generalize okD M.d.xs.length M.d.ys.length M.d.ir = b5 at *
  generalize h6 : (M.hd == 0) = b6
  generalize h7 : (bits .and .u64 (M.cs.getD 9 0) 2184 == linesV M.d) = b7
  cases b3 with
  | false =>
    refine wk_go (S := Bs w [(mvc M A, 33)]) [(mvc M A, 33)] Try.func19 rfl (by kernel_rfl) (by kernel_rfl) ?_
    cases b1
    case' true => cases b2
    all_goals exact wk_end (t := 2) (v := .bool false) Bs.eng { eq := [(6, eqB h1)], cv := [(10, cvE hR), (17, cvE hL)] } 300 (Bs.start _ _) (by kernel_rfl) (by kernel_rfl) rfl (fun w' h => ⟨by simp, h.2⟩)
  | true =>
    have h22 := legal_22 h3
    obtain ⟨cb, co, hac, hcb, hcc⟩ := hs.cs 9 (by omega)
    obtain ⟨pc, x, pr, cs, ram, d, hd, hh, wt⟩ := M
    dsimp only at *
    refine wk_go (S := Bs w [(mvc ⟨pc, x, pr, cs, ram, d, hd, hh, wt⟩ A, 33)]) [(mvc ⟨pc, x, pr, cs, ram, d, hd, hh, wt⟩ A, 33)] Try.func19 rfl (by kernel_rfl) (by kernel_rfl) ?_
    have c9 : ∀ W, Bs w [(mvc ⟨pc, x, pr, cs, ram, d, hd, hh, wt⟩ A, 33)] W → W.cell? ⟨cb, co + 9, none⟩ = some (.int .u64 (cs.getD 9 0)) := fun W h => (h.2.cell (by exact hcb)).trans hcc
    cases b1
    case' true =>
      cases b2
      case' true =>
        cases b4
        case' true =>
          cases b5
          case' true => cases hh <;> cases b6 <;> cases b7
    all_goals exact wk_end (t := 2) (v := .bool _) Bs.eng { eq := [(6, eqB h1), (35, eqB h6), (47, eqB h7)], ov := [(41, ovX cs.length A.cc .i64 9 hac (by omega) Try.underlying23 (by kernel_rfl)), (42, ovL _ _ Try.underlying22 rfl c9)], cv := [(10, cvE hR), (17, cvE hL), (22, cvE hM), (27, cvW hD), (46, cvW hN)] } 300 (Bs.start _ _) (by kernel_rfl) (by kernel_rfl) rfl (fun w' h => ⟨rfl, h.2⟩)

end Go.Proofs.YtdcihpbggknhgaaR
