/- The program's Legal. -/
import Derived.Test.YtdcihpbggknhgaaRCsrV
import Derived.Test.YtdcihpbggknhgaaRCsrQ
import Derived.Test.YtdcihpbggknhgaaRCsrT
namespace Go.Proofs.YtdcihpbggknhgaaR
open Go.RowKit
set_option linter.unusedVariables false

theorem implLegal_any (a : Option Addr) (n cap : Nat) (l : List Int) (p : Int) (w : World) (hz : l.length = n) (hs : Sl .u64 w a l) (hl : ∀ j, U (l.getD j 0)) :
    Calls Try.prog 41 #[.slice a n cap, .int .i64 p] w fun e w' => e = .returned (.bool (legalB n l p)) ∧ Below w.heap.size w w' := by
  have HO : Hid (Calls Try.prog 49 #[.slice a n cap] w fun e w' => e = .returned (.bool (csrsOk n l)) ∧ Below w.heap.size w w') := by
    have := implCsrsOk_any a n cap l w hz hs hl
    rw [fitsOk_eq n l hl] at this
    exact this
  have HP : Hid (∀ w, Calls Try.prog 50 #[.int .i64 p] w fun e w' => e = .returned (.bool (privB p)) ∧ w' = w) := privOk_any p
  have F : Hid (legalB n l p = (csrsOk n l && privB p)) := (rfl : legalB n l p = _)
  clear hs hz hl
  generalize csrsOk n l = q at *
  generalize privB p = r at *
  cases q with
  | false =>
    go_enter Try.func41, Try.ntmps41
    go_wp2_with fail
    refine HO.out.mono ?_
    rintro e w1 ⟨rfl, hb⟩
    go_wp2_with fail
    go_ret
    exact ⟨by rw [F.out]; rfl, hb⟩
  | true =>
    go_enter Try.func41, Try.ntmps41
    go_wp2_with fail
    refine HO.out.mono ?_
    rintro e w1 ⟨rfl, hb⟩
    go_wp2_with fail
    refine (HP.out _).mono ?_
    rintro e w2 ⟨rfl, hw2⟩
    subst hw2
    go_wp2_with fail
    go_ret
    exact ⟨by rw [F.out]; rfl, hb⟩

end Go.Proofs.YtdcihpbggknhgaaR
