/- Registers that are drawn, right or not; what WriteCsr is drawn. -/
import Derived.Test.YtgcbdlfljplkbabDrawR
namespace Go.Proofs.Ytgcbdlfljplkbab
open Go.RowKit
set_option linter.unusedVariables false

/-- The slice that l4DrawAny hands back: all of it, or all but the first. -/
def anyV (w : World) (s : Bool) : Value := if s = true then .slice (some ⟨w.heap.size, 1, none⟩) 21 21 else .slice (some ⟨w.heap.size, 0, none⟩) 22 22

set_option maxHeartbeats 3200000 in
theorem l4DrawAny_c {w0 : World} {g : Nat} {a : Option Addr} {n cap : Nat} {zs : List Int} (hcd : Code w0 a n zs) (w : World) (hc : Cur w0 w g a n cap) :
    Calls Try.prog 41 #[.pointer (some ⟨g, 0, none⟩)] w fun e w' => ∃ s : Bool, e = .returned (anyV w s) ∧ Hid (Rg w0 g a n cap w w') := by
  have HD : Hid (Code w0 a n zs) := hcd
  have HC : Hid (Cur w0 w g a n cap) := hc
  have FT : Hid (anyV w true = .slice (some ⟨w.heap.size, 1, none⟩) 21 21) := (rfl : anyV w true = _)
  have FF : Hid (anyV w false = .slice (some ⟨w.heap.size, 0, none⟩) 22 22) := (rfl : anyV w false = _)
  clear hcd hc
  go_enter Try.func41, Try.ntmps41
  go_wp2_with fail
  refine (l4DrawCsrs_c HD.out _ HC.out).mono ?_
  rintro e w1 ⟨rfl, R1⟩
  go_wp2_with fail
  refine (l1Once_c HD.out 14 (by omega) _ R1.out.cur).mono ?_
  rintro e w2 ⟨c, rfl, hs2⟩
  have R2 : Hid (Rg w0 g a n cap w w2) := R1.out.next hs2.out
  clear R1 hs2
  cases c with
  | false =>
    go_wp2_with fail
    go_ret
    exact ⟨false, by rw [FF.out]; rfl, R2⟩
  | true =>
    go_wp2_with fail
    refine (l1Below_c HD.out 3 (by omega) _ R2.out.cur).mono ?_
    rintro e w3 ⟨x, rfl, ⟨hx0, hx1⟩, hs3⟩
    have R3 : Hid (Rg w0 g a n cap w w3) := R2.out.next hs3.out
    clear R2 hs3
    obtain ⟨k, rfl⟩ := Int.eq_ofNat_of_zero_le hx0
    match k, hx1 with
    | 0, _ =>
      go_wp2_with fail
      go_ret
      exact ⟨true, by rw [FT.out]; rfl, R3⟩
    | 1, _ =>
      go_wp2_with fail
      refine (l1Below_c HD.out 22 (by omega) _ R3.out.cur).mono ?_
      rintro e w4 ⟨x, rfl, ⟨hx0, hx1⟩, hs4⟩
      have R4 : Hid (Rg w0 g a n cap w w4) := R3.out.next hs4.out
      clear R3 hs4
      obtain ⟨k, rfl⟩ := Int.eq_ofNat_of_zero_le hx0
      go_wp2_with fail
      refine (l1DrawWord_c HD.out _ R4.out.cur).mono ?_
      rintro e w5 ⟨y, rfl, hy, hs5⟩
      have R5 : Hid (Rg w0 g a n cap w w5) := R4.out.next hs5.out
      have HY : Hid (U y) := hy
      clear R4 hs5 hy
      obtain ⟨v9, _, hc9, hf9⟩ := R5.out.cell k (by omega)
      go_wp2_with fail
      go_ret
      exact ⟨false, by rw [FF.out]; rfl, R5.out.put k _ HY.out⟩
    | 2, _ =>
      obtain ⟨v9, _, hc9, hf9⟩ := R3.out.cell 9 (by omega)
      go_wp2_with fail
      go_ret
      exact ⟨false, by rw [FF.out]; rfl, R3.out.put 9 _ (U_bits _ _ _)⟩
    | k + 3, h => exact absurd h (by omega)

/-- What is drawn, as its users see it: a list of words, memory of its own. -/
theorem any_list {w0 : World} {g : Nat} {a : Option Addr} {n cap : Nat} {w wr : World} (h : Rg w0 g a n cap w wr) (s : Bool) : ∃ (b : Option Addr) (m c : Nat) (l : List Int), anyV w s = .slice b m c ∧ l.length = m ∧ m ≤ 22 ∧ (∀ j, U (l.getD j 0)) ∧ Sl .u64 wr b l := by
  obtain ⟨⟨zs, h1, h2, h3⟩, ys, k1, k2, k3⟩ := h.sl
  cases s with
  | true => exact ⟨_, _, _, ys, rfl, k1, by omega, k2, k3⟩
  | false => exact ⟨_, _, _, zs, rfl, h1, by omega, h2, h3⟩

theorem results_tmp4 {fn : Func} {t u v x : Tmp} (h : fn.results = #[.tmp t, .tmp u, .tmp v, .tmp x]) (tmps : Array Value) (P : Program) (w : World) :
    (results fn tmps).run P w = .ok (.tuple #[tmps.getD t undef, tmps.getD u undef, tmps.getD v undef, tmps.getD x undef]) w := by
  simp only [results, h]
  simp

set_option maxHeartbeats 3200000 in
theorem DrawWriteCsr_c {a : Option Addr} {n : Nat} (cap : Nat) {zs : List Int} (w : World) (hcd : Code w a n zs) :
    Calls Try.prog 13 #[.slice a n cap] w fun e w' => ∃ (b : Option Addr) (m c : Nat) (l : List Int) (x1 x2 x3 : Int), e = .returned (.tuple #[.slice b m c, .int .i64 x1, .int .i64 x2, .int .u64 x3]) ∧ l.length = m ∧ m ≤ 22 ∧ Hid (∀ j, U (l.getD j 0)) ∧ Hid (Sl .u64 w' b l) ∧ (Lit.int .i64 x1).wf = true ∧ (Lit.int .i64 x2).wf = true ∧ Hid (U x3) ∧ Hid (Below w.heap.size w w') := by
  have HD : Hid (Code w a n zs) := hcd
  clear hcd
  go_enter Try.func13, Try.ntmps13
  go_wp2_with fail
  refine (l1New_c cap _ HD.out).mono ?_
  rintro e w1 ⟨g, rfl, hc⟩
  go_wp2_with fail
  refine (l4DrawAny_c HD.out _ hc.out).mono ?_
  rintro e w2 ⟨s, rfl, R2⟩
  go_wp2_with fail
  refine (l4DrawNumber_c HD.out _ R2.out.cur).mono ?_
  rintro e w3 ⟨x1, rfl, h1, hs3⟩
  have R3 : Hid (Rg w g a n cap w1 w3) := R2.out.next hs3.out
  have H1 : Hid ((Lit.int .i64 x1).wf = true) := h1
  clear R2 hs3 h1
  go_wp2_with fail
  refine (l4DrawPriv_c HD.out _ R3.out.cur).mono ?_
  rintro e w4 ⟨x2, rfl, h2, hs4⟩
  have R4 : Hid (Rg w g a n cap w1 w4) := R3.out.next hs4.out
  have H2 : Hid ((Lit.int .i64 x2).wf = true) := h2
  clear R3 hs4 h2
  go_wp2_with fail
  refine (l1DrawWord_c HD.out _ R4.out.cur).mono ?_
  rintro e w5 ⟨x3, rfl, h3, hs5⟩
  have R5 : Hid (Rg w g a n cap w1 w5) := R4.out.next hs5.out
  have H3 : Hid (U x3) := h3
  clear R4 hs5 h3
  go_wp2_with fail
  refine (l1Once_c HD.out 3 (by omega) _ R5.out.cur).mono ?_
  rintro e w6 ⟨c, rfl, hs6⟩
  have R6 : Hid (Rg w g a n cap w1 w6) := R5.out.next hs6.out
  clear R5 hs6
  cases c with
  | false =>
    obtain ⟨b, m, c, l, hv, hl, hm, hu, hsl⟩ := any_list R6.out s
    rw [hv]
    have HU : Hid (∀ j, U (l.getD j 0)) := hu
    have HSL : Hid (Sl .u64 w6 b l) := hsl
    clear hu hsl
    go_wp2_with fail
    refine bodyPost_ret (results_tmp4 Try.results13 _ _ _) rfl ?_
    exact ⟨b, m, c, l, x1, x2, x3, rfl, hl, hm, HU, HSL, H1.out, H2.out, H3, R6.out.cur.below⟩
  | true =>
    go_wp2_with fail
    refine (l1Byte_c HD.out _ R6.out.cur).mono ?_
    rintro e w7 ⟨y1, rfl, ⟨p1, q1⟩, hs7⟩
    have R7 : Hid (Rg w g a n cap w1 w7) := R6.out.next hs7.out
    clear R6 hs7
    go_wp2_with fail
    refine (l1Byte_c HD.out _ R7.out.cur).mono ?_
    rintro e w8 ⟨y2, rfl, ⟨p2, q2⟩, hs8⟩
    have R8 : Hid (Rg w g a n cap w1 w8) := R7.out.next hs8.out
    clear R7 hs8
    go_wp2_with fail
    refine (l1Byte_c HD.out _ R8.out.cur).mono ?_
    rintro e w9 ⟨y3, rfl, ⟨p3, q3⟩, hs9⟩
    have R9 : Hid (Rg w g a n cap w1 w9) := R8.out.next hs9.out
    clear R8 hs9
    obtain ⟨b, m, c, l, hv, hl, hm, hu, hsl⟩ := any_list R9.out s
    rw [hv]
    have HU : Hid (∀ j, U (l.getD j 0)) := hu
    have HSL : Hid (Sl .u64 w9 b l) := hsl
    clear hu hsl
    go_wp2_with fail
    refine bodyPost_ret (results_tmp4 Try.results13 _ _ _) rfl ?_
    exact ⟨b, m, c, l, x1, x2, _, rfl, hl, hm, HU, HSL, H1.out, H2.out, U_bits _ _ _, R9.out.cur.below⟩

end Go.Proofs.Ytgcbdlfljplkbab
