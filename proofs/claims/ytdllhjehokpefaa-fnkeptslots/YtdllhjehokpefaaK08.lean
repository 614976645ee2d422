/- Own lemmas. -/
import Derived.Test.YtdllhjehokpefaaK03
import Derived.Test.YtdllhjehokpefaaK06
import Derived.Test.YtdllhjehokpefaaK07
namespace Go.Proofs.Ytdllhjehokpefaa
open Go.RowKit
set_option linter.unusedVariables false

theorem five_U : ∀ x ∈ ([274877906944, 18446743798831644672, 549755813888, 18446743523953737728, 18446744073709551615] : List Int), U x := by
  intro x hx
  simp only [List.mem_cons, List.not_mem_nil, or_false] at hx
  rcases hx with rfl | rfl | rfl | rfl | rfl <;> (constructor <;> decide)

set_option maxHeartbeats 3200000 in
theorem l7DrawVa_c {w0 : World} {g : Nat} {a : Option Addr} {n cap : Nat} {zs : List Int} (hcd : Code w0 a n zs) (w : World) (hc : Cur w0 w g a n cap) :
    Calls Try.prog 53 #[.pointer (some ⟨g, 0, none⟩)] w fun e w' => ∃ x : Int, e = .returned (.int .u64 x) ∧ Hid (U x) ∧ Hid (Cs w0 g a n cap w w') := by
  have HD : Hid (Code w0 a n zs) := hcd
  have S0 : Hid (Cs w0 g a n cap w w) := Cs.refl hc
  clear hcd hc
  go_enter Try.func53, Try.ntmps53
  go_wp2_with fail
  refine (l1Below_c HD.out 4 (by omega) _ S0.out.1).mono ?_
  rintro e w1 ⟨x1, rfl, -, hs⟩
  have S1 : Hid (Cs w0 g a n cap w w1) := S0.out.trans hs.out
  clear hs
  go_wp2_with fail
  refine (l1Below_c HD.out 4 (by omega) _ S1.out.1).mono ?_
  rintro e w2 ⟨x2, rfl, -, hs⟩
  have S2 : Hid (Cs w0 g a n cap w w2) := S1.out.trans hs.out
  clear hs
  go_wp2_with fail
  refine (l1Below_c HD.out 4 (by omega) _ S2.out.1).mono ?_
  rintro e w3 ⟨x3, rfl, -, hs⟩
  have S3 : Hid (Cs w0 g a n cap w w3) := S2.out.trans hs.out
  clear hs
  go_wp2_with fail
  refine (l1Below_c HD.out 512 (by omega) _ S3.out.1).mono ?_
  rintro e w4 ⟨x4, rfl, -, hs⟩
  have S4 : Hid (Cs w0 g a n cap w w4) := S3.out.trans hs.out
  clear hs
  go_wp2_with fail
  refine (l1Once_c HD.out 3 (by omega) _ S4.out.1).mono ?_
  rintro e w5 ⟨c5, rfl, hs⟩
  have S5 : Hid (Cs w0 g a n cap w w5) := S4.out.trans hs.out
  clear hs
  cases c5 with
  | true =>
    go_wp2_with fail
    refine (l1Below_c HD.out 1024 (by omega) _ S5.out.1).mono ?_
    rintro e w6 ⟨x6, rfl, -, hs⟩
    have S6 : Hid (Cs w0 g a n cap w w6) := S5.out.trans hs.out
    clear hs
    go_wp2_with fail
    refine (l1Once_c HD.out 14 (by omega) _ S6.out.1).mono ?_
    rintro e w8 ⟨c8, rfl, hs⟩
    have S8 : Hid (Cs w0 g a n cap w w8) := S6.out.trans hs.out
    clear hs
    cases c8 with
    | true =>
      go_wp2_with fail
      have HA := Cs.alloc S8.out.1 (.cells #[.int .u64 274877906944, .int .u64 18446743798831644672, .int .u64 549755813888, .int .u64 18446743523953737728, .int .u64 18446744073709551615] 27)
      refine (l1Below_c HD.out 5 (by omega) _ HA.1).mono ?_
      rintro e w9 ⟨x9, rfl, ⟨h0, h1⟩, hs9⟩
      obtain ⟨k, rfl⟩ := Int.eq_ofNat_of_zero_le h0
      obtain ⟨v, hv, hcell⟩ := few_words [274877906944, 18446743798831644672, 549755813888, 18446743523953737728, 18446744073709551615] 27 (hs9.out.keep (heap_alloc_new _ _) (Nat.ne_of_gt S8.out.1.lt)) five_U (k := k) (by simp; omega)
      have HV : Hid (U v) := hv
      have HS : Hid (Cs w0 g a n cap w w9) := S8.out.trans (HA.trans hs9.out)
      clear hv hs9 HA S8
      go_wp2_with fail
      go_ret
      exact ⟨_, rfl, HV, HS⟩
    | false =>
      go_wp2_with fail
      go_ret
      exact ⟨_, rfl, (U_wrap _), S8⟩
  | false =>
    go_wp2_with fail
    refine (l1Once_c HD.out 14 (by omega) _ S5.out.1).mono ?_
    rintro e w8 ⟨c8, rfl, hs⟩
    have S8 : Hid (Cs w0 g a n cap w w8) := S5.out.trans hs.out
    clear hs
    cases c8 with
    | true =>
      go_wp2_with fail
      have HA := Cs.alloc S8.out.1 (.cells #[.int .u64 274877906944, .int .u64 18446743798831644672, .int .u64 549755813888, .int .u64 18446743523953737728, .int .u64 18446744073709551615] 27)
      refine (l1Below_c HD.out 5 (by omega) _ HA.1).mono ?_
      rintro e w9 ⟨x9, rfl, ⟨h0, h1⟩, hs9⟩
      obtain ⟨k, rfl⟩ := Int.eq_ofNat_of_zero_le h0
      obtain ⟨v, hv, hcell⟩ := few_words [274877906944, 18446743798831644672, 549755813888, 18446743523953737728, 18446744073709551615] 27 (hs9.out.keep (heap_alloc_new _ _) (Nat.ne_of_gt S8.out.1.lt)) five_U (k := k) (by simp; omega)
      have HV : Hid (U v) := hv
      have HS : Hid (Cs w0 g a n cap w w9) := S8.out.trans (HA.trans hs9.out)
      clear hv hs9 HA S8
      go_wp2_with fail
      go_ret
      exact ⟨_, rfl, HV, HS⟩
    | false =>
      go_wp2_with fail
      go_ret
      exact ⟨_, rfl, (U_bits _ _ _), S8⟩

theorem Rg.cs {w0 : World} {g : Nat} {a : Option Addr} {n cap : Nat} {w wr : World} (h : Rg w0 g a n cap w wr) : Cs w0 g a n cap w wr := by
  obtain ⟨zs, hu, ho, hc, hg⟩ := h
  exact hc

end Go.Proofs.Ytdllhjehokpefaa
