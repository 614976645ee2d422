/- What Leave and Enter are drawn. By tools/genDrawT.py. -/
import Derived.Test.YtgcbdlfljplkbabDrawS
namespace Go.Proofs.Ytgcbdlfljplkbab
open Go.RowKit
set_option linter.unusedVariables false

theorem results_d3 {fn : Func} {t u v : Tmp} (h : fn.results = #[.tmp t, .tmp u, .tmp v]) (tmps : Array Value) (P : Program) (w : World) :
    (results fn tmps).run P w = .ok (.tuple #[tmps.getD t undef, tmps.getD u undef, tmps.getD v undef]) w := by
  simp only [results, h]
  simp

theorem results_d6 {fn : Func} {t u v x y z : Tmp} (h : fn.results = #[.tmp t, .tmp u, .tmp v, .tmp x, .tmp y, .tmp z]) (tmps : Array Value) (P : Program) (w : World) :
    (results fn tmps).run P w = .ok (.tuple #[tmps.getD t undef, tmps.getD u undef, tmps.getD v undef, tmps.getD x undef, tmps.getD y undef, tmps.getD z undef]) w := by
  simp only [results, h]
  simp

set_option maxHeartbeats 3200000 in
theorem DrawLeave_c {a : Option Addr} {n : Nat} (cap : Nat) {zs : List Int} (w : World) (hcd : Code w a n zs) :
    Calls Try.prog 25 #[.slice a n cap] w fun e w' => ∃ (b : Option Addr) (m c : Nat) (l : List Int) (p : Int) (q : Bool), e = .returned (.tuple #[.slice b m c, .int .i64 p, .bool q]) ∧ l.length = m ∧ m ≤ 22 ∧ Hid (∀ j, U (l.getD j 0)) ∧ Hid (Sl .u64 w' b l) ∧ Hid (Below w.heap.size w w') := by
  have HD : Hid (Code w a n zs) := hcd
  clear hcd
  go_enter Try.func25, Try.ntmps25
  go_wp2_with fail
  refine (l1New_c cap _ HD.out).mono ?_
  rintro e w1 ⟨g, rfl, hc⟩
  go_wp2_with fail
  refine (l4DrawAny_c HD.out _ hc.out).mono ?_
  rintro e w2 ⟨s, rfl, R2⟩
  go_wp2_with fail
  refine (l4DrawPriv_c HD.out _ R2.out.cur).mono ?_
  rintro e w3 ⟨p, rfl, h1, hs3⟩
  have R3 : Hid (Rg w g a n cap w1 w3) := R2.out.next hs3.out
  clear R2 hs3 h1
  go_wp2_with fail
  refine (l1Once_c HD.out 2 (by omega) _ R3.out.cur).mono ?_
  rintro e w4 ⟨q, rfl, hs4⟩
  have R4 : Hid (Rg w g a n cap w1 w4) := R3.out.next hs4.out
  clear R3 hs4
  obtain ⟨b, m, c, l, hv, hl, hm, hu, hsl⟩ := any_list R4.out s
  rw [hv]
  have HU : Hid (∀ j, U (l.getD j 0)) := hu
  have HSL : Hid (Sl .u64 w4 b l) := hsl
  clear hu hsl
  go_wp2_with fail
  refine bodyPost_ret (results_d3 Try.results25 _ _ _) rfl ?_
  exact ⟨b, m, c, l, p, q, rfl, hl, hm, HU, HSL, R4.out.cur.below⟩

set_option maxHeartbeats 6400000 in
theorem DrawEnter_c {a : Option Addr} {n : Nat} (cap : Nat) {zs : List Int} (w : World) (hcd : Code w a n zs) :
    Calls Try.prog 21 #[.slice a n cap] w fun e w' => ∃ (b : Option Addr) (m c : Nat) (l : List Int) (p pc k : Int) (i : Bool) (v : Int), e = .returned (.tuple #[.slice b m c, .int .i64 p, .int .u64 pc, .int .i64 k, .bool i, .int .u64 v]) ∧ l.length = m ∧ m ≤ 22 ∧ Hid (∀ j, U (l.getD j 0)) ∧ Hid (Sl .u64 w' b l) ∧ Hid (U pc) ∧ Hid (U v) ∧ Hid (Below w.heap.size w w') := by
  have HD : Hid (Code w a n zs) := hcd
  clear hcd
  go_enter Try.func21, Try.ntmps21
  go_wp2_with fail
  refine (l1New_c cap _ HD.out).mono ?_
  rintro e w1 ⟨g, rfl, hc⟩
  go_wp2_with fail
  refine (l4DrawAny_c HD.out _ hc.out).mono ?_
  rintro e w2 ⟨s, rfl, R2⟩
  go_wp2_with fail
  refine (l4DrawPriv_c HD.out _ R2.out.cur).mono ?_
  rintro e w3 ⟨p, rfl, h1, hs3⟩
  have R3 : Hid (Rg w g a n cap w1 w3) := R2.out.next hs3.out
  clear R2 hs3 h1
  go_wp2_with fail
  refine (l1Below_c HD.out 16 (by omega) _ R3.out.cur).mono ?_
  rintro e w4 ⟨kk, rfl, hkk, hs4⟩
  have R4 : Hid (Rg w g a n cap w1 w4) := R3.out.next hs4.out
  clear R3 hs4 hkk
  go_wp2_with fail
  refine (l1Once_c HD.out 14 (by omega) _ R4.out.cur).mono ?_
  rintro e w5 ⟨c, rfl, hs5⟩
  have R5 : Hid (Rg w g a n cap w1 w5) := R4.out.next hs5.out
  clear R4 hs5
  cases c with
  | false =>
    go_wp2_with fail
    refine (l1Once_c HD.out 3 (by omega) _ R5.out.cur).mono ?_
    rintro e w6 ⟨i, rfl, hs6⟩
    have R6 : Hid (Rg w g a n cap w1 w6) := R5.out.next hs6.out
    clear hs6
    cases i with
    | false =>
      go_wp2_with fail
      refine (l1DrawWord_c HD.out _ R6.out.cur).mono ?_
      rintro e w8 ⟨pc, rfl, h8, hs8⟩
      have R8 : Hid (Rg w g a n cap w1 w8) := R6.out.next hs8.out
      have HPC : Hid (U pc) := h8
      clear hs8 h8
      go_wp2_with fail
      refine (l1DrawWord_c HD.out _ R8.out.cur).mono ?_
      rintro e w9 ⟨v, rfl, h9, hs9⟩
      have R9 : Hid (Rg w g a n cap w1 w9) := R8.out.next hs9.out
      have HV : Hid (U v) := h9
      clear hs9 h9
      obtain ⟨b, m, c, l, hv, hl, hm, hu, hsl⟩ := any_list R9.out s
      rw [hv]
      have HU : Hid (∀ j, U (l.getD j 0)) := hu
      have HSL : Hid (Sl .u64 w9 b l) := hsl
      clear hu hsl
      go_wp2_with fail
      refine bodyPost_ret (results_d6 Try.results21 _ _ _) rfl ?_
      exact ⟨b, m, c, l, p, pc, _, false, v, rfl, hl, hm, HU, HSL, HPC, HV, R9.out.cur.below⟩
    | true =>
      go_wp2_with fail
      refine (l1Once_c HD.out 2 (by omega) _ R6.out.cur).mono ?_
      rintro e w7 ⟨o, rfl, hs7⟩
      have R7 : Hid (Rg w g a n cap w1 w7) := R6.out.next hs7.out
      clear hs7
      cases o with
      | false =>
        go_wp2_with fail
        refine (l1DrawWord_c HD.out _ R7.out.cur).mono ?_
        rintro e w8 ⟨pc, rfl, h8, hs8⟩
        have R8 : Hid (Rg w g a n cap w1 w8) := R7.out.next hs8.out
        have HPC : Hid (U pc) := h8
        clear hs8 h8
        go_wp2_with fail
        refine (l1DrawWord_c HD.out _ R8.out.cur).mono ?_
        rintro e w9 ⟨v, rfl, h9, hs9⟩
        have R9 : Hid (Rg w g a n cap w1 w9) := R8.out.next hs9.out
        have HV : Hid (U v) := h9
        clear hs9 h9
        obtain ⟨b, m, c, l, hv, hl, hm, hu, hsl⟩ := any_list R9.out s
        rw [hv]
        have HU : Hid (∀ j, U (l.getD j 0)) := hu
        have HSL : Hid (Sl .u64 w9 b l) := hsl
        clear hu hsl
        go_wp2_with fail
        refine bodyPost_ret (results_d6 Try.results21 _ _ _) rfl ?_
        exact ⟨b, m, c, l, p, pc, _, true, v, rfl, hl, hm, HU, HSL, HPC, HV, R9.out.cur.below⟩
      | true =>
        go_wp2_with fail
        have HA := Cs.alloc R7.out.cur (.cells #[.int .i64 (11), .int .i64 (3), .int .i64 (7), .int .i64 (9), .int .i64 (1), .int .i64 (5)] 2)
        refine (l1Below_c HD.out 6 (by omega) _ HA.1).mono ?_
        rintro e w7b ⟨x, rfl, ⟨hx0, hx1⟩, hsx⟩
        obtain ⟨k, rfl⟩ := Int.eq_ofNat_of_zero_le hx0
        obtain ⟨u, hu0, hcell⟩ := few_ints [11, 3, 7, 9, 1, 5] 2 (hsx.out.keep (heap_alloc_new _ _) (Nat.ne_of_gt R7.out.cur.lt)) (by decide) (k := k) (by simp; omega)
        have R7b : Hid (Rg w g a n cap w1 w7b) := (R7.out.next HA).next hsx.out
        clear hsx HA hu0
        go_wp2_with fail
        refine (l1DrawWord_c HD.out _ R7b.out.cur).mono ?_
        rintro e w8 ⟨pc, rfl, h8, hs8⟩
        have R8 : Hid (Rg w g a n cap w1 w8) := R7b.out.next hs8.out
        have HPC : Hid (U pc) := h8
        clear hs8 h8
        go_wp2_with fail
        refine (l1DrawWord_c HD.out _ R8.out.cur).mono ?_
        rintro e w9 ⟨v, rfl, h9, hs9⟩
        have R9 : Hid (Rg w g a n cap w1 w9) := R8.out.next hs9.out
        have HV : Hid (U v) := h9
        clear hs9 h9
        obtain ⟨b, m, c, l, hv, hl, hm, hu, hsl⟩ := any_list R9.out s
        rw [hv]
        have HU : Hid (∀ j, U (l.getD j 0)) := hu
        have HSL : Hid (Sl .u64 w9 b l) := hsl
        clear hu hsl
        go_wp2_with fail
        refine bodyPost_ret (results_d6 Try.results21 _ _ _) rfl ?_
        exact ⟨b, m, c, l, p, pc, _, true, v, rfl, hl, hm, HU, HSL, HPC, HV, R9.out.cur.below⟩
  | true =>
    go_wp2_with fail
    have HA := Cs.alloc R5.out.cur (.cells #[.int .i64 (-1), .int .i64 (16), .int .i64 (4611686018427387904)] 2)
    refine (l1Below_c HD.out 3 (by omega) _ HA.1).mono ?_
    rintro e w5b ⟨x, rfl, ⟨hx0, hx1⟩, hsx⟩
    obtain ⟨k, rfl⟩ := Int.eq_ofNat_of_zero_le hx0
    obtain ⟨u, hu0, hcell⟩ := few_ints [-1, 16, 4611686018427387904] 2 (hsx.out.keep (heap_alloc_new _ _) (Nat.ne_of_gt R5.out.cur.lt)) (by decide) (k := k) (by simp; omega)
    have R5b : Hid (Rg w g a n cap w1 w5b) := (R5.out.next HA).next hsx.out
    clear hsx HA hu0
    go_wp2_with fail
    refine (l1Once_c HD.out 3 (by omega) _ R5b.out.cur).mono ?_
    rintro e w6 ⟨i, rfl, hs6⟩
    have R6 : Hid (Rg w g a n cap w1 w6) := R5b.out.next hs6.out
    clear hs6
    cases i with
    | false =>
      go_wp2_with fail
      refine (l1DrawWord_c HD.out _ R6.out.cur).mono ?_
      rintro e w8 ⟨pc, rfl, h8, hs8⟩
      have R8 : Hid (Rg w g a n cap w1 w8) := R6.out.next hs8.out
      have HPC : Hid (U pc) := h8
      clear hs8 h8
      go_wp2_with fail
      refine (l1DrawWord_c HD.out _ R8.out.cur).mono ?_
      rintro e w9 ⟨v, rfl, h9, hs9⟩
      have R9 : Hid (Rg w g a n cap w1 w9) := R8.out.next hs9.out
      have HV : Hid (U v) := h9
      clear hs9 h9
      obtain ⟨b, m, c, l, hv, hl, hm, hu, hsl⟩ := any_list R9.out s
      rw [hv]
      have HU : Hid (∀ j, U (l.getD j 0)) := hu
      have HSL : Hid (Sl .u64 w9 b l) := hsl
      clear hu hsl
      go_wp2_with fail
      refine bodyPost_ret (results_d6 Try.results21 _ _ _) rfl ?_
      exact ⟨b, m, c, l, p, pc, _, false, v, rfl, hl, hm, HU, HSL, HPC, HV, R9.out.cur.below⟩
    | true =>
      go_wp2_with fail
      refine (l1Once_c HD.out 2 (by omega) _ R6.out.cur).mono ?_
      rintro e w7 ⟨o, rfl, hs7⟩
      have R7 : Hid (Rg w g a n cap w1 w7) := R6.out.next hs7.out
      clear hs7
      cases o with
      | false =>
        go_wp2_with fail
        refine (l1DrawWord_c HD.out _ R7.out.cur).mono ?_
        rintro e w8 ⟨pc, rfl, h8, hs8⟩
        have R8 : Hid (Rg w g a n cap w1 w8) := R7.out.next hs8.out
        have HPC : Hid (U pc) := h8
        clear hs8 h8
        go_wp2_with fail
        refine (l1DrawWord_c HD.out _ R8.out.cur).mono ?_
        rintro e w9 ⟨v, rfl, h9, hs9⟩
        have R9 : Hid (Rg w g a n cap w1 w9) := R8.out.next hs9.out
        have HV : Hid (U v) := h9
        clear hs9 h9
        obtain ⟨b, m, c, l, hv, hl, hm, hu, hsl⟩ := any_list R9.out s
        rw [hv]
        have HU : Hid (∀ j, U (l.getD j 0)) := hu
        have HSL : Hid (Sl .u64 w9 b l) := hsl
        clear hu hsl
        go_wp2_with fail
        refine bodyPost_ret (results_d6 Try.results21 _ _ _) rfl ?_
        exact ⟨b, m, c, l, p, pc, _, true, v, rfl, hl, hm, HU, HSL, HPC, HV, R9.out.cur.below⟩
      | true =>
        go_wp2_with fail
        have HA := Cs.alloc R7.out.cur (.cells #[.int .i64 (11), .int .i64 (3), .int .i64 (7), .int .i64 (9), .int .i64 (1), .int .i64 (5)] 2)
        refine (l1Below_c HD.out 6 (by omega) _ HA.1).mono ?_
        rintro e w7b ⟨x, rfl, ⟨hx0, hx1⟩, hsx⟩
        obtain ⟨k, rfl⟩ := Int.eq_ofNat_of_zero_le hx0
        obtain ⟨u, hu0, hcell⟩ := few_ints [11, 3, 7, 9, 1, 5] 2 (hsx.out.keep (heap_alloc_new _ _) (Nat.ne_of_gt R7.out.cur.lt)) (by decide) (k := k) (by simp; omega)
        have R7b : Hid (Rg w g a n cap w1 w7b) := (R7.out.next HA).next hsx.out
        clear hsx HA hu0
        go_wp2_with fail
        refine (l1DrawWord_c HD.out _ R7b.out.cur).mono ?_
        rintro e w8 ⟨pc, rfl, h8, hs8⟩
        have R8 : Hid (Rg w g a n cap w1 w8) := R7b.out.next hs8.out
        have HPC : Hid (U pc) := h8
        clear hs8 h8
        go_wp2_with fail
        refine (l1DrawWord_c HD.out _ R8.out.cur).mono ?_
        rintro e w9 ⟨v, rfl, h9, hs9⟩
        have R9 : Hid (Rg w g a n cap w1 w9) := R8.out.next hs9.out
        have HV : Hid (U v) := h9
        clear hs9 h9
        obtain ⟨b, m, c, l, hv, hl, hm, hu, hsl⟩ := any_list R9.out s
        rw [hv]
        have HU : Hid (∀ j, U (l.getD j 0)) := hu
        have HSL : Hid (Sl .u64 w9 b l) := hsl
        clear hu hsl
        go_wp2_with fail
        refine bodyPost_ret (results_d6 Try.results21 _ _ _) rfl ?_
        exact ⟨b, m, c, l, p, pc, _, true, v, rfl, hl, hm, HU, HSL, HPC, HV, R9.out.cur.below⟩

end Go.Proofs.Ytgcbdlfljplkbab
