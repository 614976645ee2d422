/- What Region and Permits are drawn. -/
import Derived.Test.YtaicnnkcdpdhaabDoorDrawV
import Derived.Test.YtaicnnkcdpdhaabDoorDrawM
import Derived.Test.YtaicnnkcdpdhaabDoorRegG
namespace Go.Proofs.YtaicnnkcdpdhaabDoor
open Go.RowKit
set_option linter.unusedVariables false

theorem results_d5 {fn : Func} {t u v x y : Tmp} (h : fn.results = #[.tmp t, .tmp u, .tmp v, .tmp x, .tmp y]) (tmps : Array Value) (P : Program) (w : World) :
    (results fn tmps).run P w = .ok (.tuple #[tmps.getD t undef, tmps.getD u undef, tmps.getD v undef, tmps.getD x undef, tmps.getD y undef]) w := by
  simp only [results, h]
  simp

set_option maxHeartbeats 3200000 in
theorem DrawRegion_c {a : Option Addr} {n : Nat} (cap : Nat) {zs : List Int} (w : World) (hcd : Code w a n zs) :
    Calls Tryd.prog 5 #[.slice a n cap] w fun e w' => ∃ (b : Option Addr) (m c : Nat) (l : List Int) (i : Int), e = .returned (.tuple #[.slice b m c, .int .i64 i]) ∧ l.length = m ∧ m ≤ 22 ∧ Hid (∀ j, U (l.getD j 0)) ∧ Hid (Sl .u64 w' b l) ∧ Hid (Below w.heap.size w w') := by
  have HD : Hid (Code w a n zs) := hcd
  clear hcd
  go_enter Tryd.func5, Tryd.ntmps5
  go_wp2_with fail
  refine (l1New_c cap _ HD.out).mono ?_
  rintro e w1 ⟨g, rfl, hc⟩
  go_wp2_with fail
  refine (l6DrawCsrs_c HD.out _ hc.out).mono ?_
  rintro e w2 ⟨s, rfl, R2⟩
  go_wp2_with fail
  refine (l1Below_c HD.out 4 (by omega) _ R2.out.cur).mono ?_
  rintro e w3 ⟨i, rfl, hi, hs3⟩
  have R3 : Hid (Rg w g a n cap w1 w3) := R2.out.next hs3.out
  clear R2 hs3 hi
  go_wp2_with fail
  refine (l1Once_c HD.out 14 (by omega) _ R3.out.cur).mono ?_
  rintro e w4 ⟨c, rfl, hs4⟩
  have R4 : Hid (Rg w g a n cap w1 w4) := R3.out.next hs4.out
  clear R3 hs4
  cases c with
  | false =>
    obtain ⟨b, m, c, l, hv, hl, hm, hu, hsl⟩ := any_list R4.out s
    rw [hv]
    have HU : Hid (∀ j, U (l.getD j 0)) := hu
    have HSL : Hid (Sl .u64 w4 b l) := hsl
    clear hu hsl
    go_wp2_with fail
    go_ret2
    exact ⟨b, m, c, l, i, rfl, hl, hm, HU, HSL, R4.out.cur.below⟩
  | true =>
    go_wp2_with fail
    have HA := Cs.alloc R4.out.cur (.cells #[.int .i64 (-1), .int .i64 4, .int .i64 4611686018427387904] 2)
    refine (l1Below_c HD.out 3 (by omega) _ HA.1).mono ?_
    rintro e w5 ⟨x, rfl, ⟨hx0, hx1⟩, hs5⟩
    obtain ⟨k, rfl⟩ := Int.eq_ofNat_of_zero_le hx0
    obtain ⟨v, hv0, hcell⟩ := few_ints [-1, 4, 4611686018427387904] 2 (hs5.out.keep (heap_alloc_new _ _) (Nat.ne_of_gt R4.out.cur.lt)) (by decide) (k := k) (by simp; omega)
    have R5 : Hid (Rg w g a n cap w1 w5) := (R4.out.next HA).next hs5.out
    clear hs5 HA hv0
    obtain ⟨b, m, c, l, hv, hl, hm, hu, hsl⟩ := any_list R5.out s
    rw [hv]
    have HU : Hid (∀ j, U (l.getD j 0)) := hu
    have HSL : Hid (Sl .u64 w5 b l) := hsl
    clear hu hsl
    go_wp2_with fail
    go_ret2
    exact ⟨b, m, c, l, _, rfl, hl, hm, HU, HSL, R5.out.cur.below⟩

theorem U_region (l : List Int) (i : Nat) : U (regionV l i).1 ∧ U (regionV l i).2.1 := by
  have hf : U (regFrom l i) := by
    unfold regFrom
    split
    · exact U_wrap _
    · exact U0
  unfold regionV
  split
  · split
    · exact ⟨U0, U0⟩
    · exact ⟨hf, U_wrap _⟩
  · split
    · exact ⟨U_wrap _, U_wrap _⟩
    · split
      · exact ⟨U_wrap _, U_wrap _⟩
      · exact ⟨U0, U0⟩

theorem three_U : ∀ x ∈ ([0, 18446744073709551615, 18446744073709551608] : List Int), U x := by
  intro x hx
  simp only [List.mem_cons, List.not_mem_nil, or_false] at hx
  rcases hx with rfl | rfl | rfl <;> constructor <;> decide

theorem six_U (lo hi : Int) (h0 : U lo) (h1 : U hi) : ∀ x ∈ ([lo, hi, IntKind.u64.wrap (lo - 1), IntKind.u64.wrap (hi + 1), IntKind.u64.wrap (lo + 4), IntKind.u64.wrap (hi - 7)] : List Int), U x := by
  intro x hx
  simp only [List.mem_cons, List.not_mem_nil, or_false] at hx
  rcases hx with rfl | rfl | rfl | rfl | rfl | rfl
  · exact h0
  · exact h1
  · exact U_wrap _
  · exact U_wrap _
  · exact U_wrap _
  · exact U_wrap _

end Go.Proofs.YtaicnnkcdpdhaabDoor
