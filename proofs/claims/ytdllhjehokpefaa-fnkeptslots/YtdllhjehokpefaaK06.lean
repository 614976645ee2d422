/- Own lemmas. -/
import Derived.Test.YtdllhjehokpefaaK03
import Derived.Test.YtdllhjehokpefaaK04
import Derived.Test.YtdllhjehokpefaaK05
import Derived.Deep.CutRange
namespace Go.Proofs.Ytdllhjehokpefaa
open Go.RowKit
set_option linter.unusedVariables false

end Go.Proofs.Ytdllhjehokpefaa

namespace Go.Proofs.Ytdllhjehokpefaa
open Go.RowKit
set_option linter.unusedVariables false

end Go.Proofs.Ytdllhjehokpefaa

namespace Go.Proofs.Ytdllhjehokpefaa
open Go.RowKit
set_option linter.unusedVariables false

end Go.Proofs.Ytdllhjehokpefaa

namespace Go.Proofs.Ytdllhjehokpefaa
open Go.RowKit
set_option linter.unusedVariables false

theorem l6DrawKind_c {w0 : World} {g : Nat} {a : Option Addr} {n cap : Nat} {zs : List Int} (hcd : Code w0 a n zs) (w : World) (hc : Cur w0 w g a n cap) :
    Calls Try.prog 52 #[.pointer (some ⟨g, 0, none⟩)] w fun e w' => ∃ x : Int, e = .returned (.int .i64 x) ∧ Hid (Cs w0 g a n cap w w') := by
  have HD : Hid (Code w0 a n zs) := hcd
  have HC : Hid (Cur w0 w g a n cap) := hc
  clear hcd hc
  go_enter Try.func52, Try.ntmps52
  go_wp2_with fail
  refine (l1Once_c HD.out 20 (by omega) _ HC.out).mono ?_
  rintro e w1 ⟨c, rfl, hs1⟩
  cases c with
  | true =>
    go_wp2_with fail
    have HA := Cs.alloc hs1.out.1 (.cells #[.int .i64 0, .int .i64 4, .int .i64 (-1)] 2)
    refine (l1Below_c HD.out 3 (by omega) _ HA.1).mono ?_
    rintro e w2 ⟨x, rfl, ⟨hx0, hx1⟩, hs2⟩
    obtain ⟨k, rfl⟩ := Int.eq_ofNat_of_zero_le hx0
    obtain ⟨v, hv, hcell⟩ := few_ints [0, 4, -1] 2 (hs2.out.keep (heap_alloc_new _ _) (Nat.ne_of_gt hs1.out.1.lt)) (by decide) (k := k) (by simp; omega)
    have HS : Hid (Cs w0 g a n cap w w2) := hs1.out.trans (HA.trans hs2.out)
    clear hv hs1 hs2 HA HC
    go_wp2_with fail
    go_ret
    exact ⟨_, rfl, HS⟩
  | false =>
    go_wp2_with fail
    refine (l1Below_c HD.out 3 (by omega) _ hs1.out.1).mono ?_
    rintro e w2 ⟨x, rfl, ⟨hx0, hx1⟩, hs2⟩
    have HS : Hid (Cs w0 g a n cap w w2) := hs1.out.trans hs2.out
    clear hs1 hs2 HC
    go_wp2_with fail
    go_ret
    exact ⟨_, rfl, HS⟩

end Go.Proofs.Ytdllhjehokpefaa
