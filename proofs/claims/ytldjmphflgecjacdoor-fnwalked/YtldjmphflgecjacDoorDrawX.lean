/- The draws of chapter 7: a memory with tables, registers, an address. -/
import Derived.Test.YtldjmphflgecjacDoorDrawW
import Derived.Test.YtldjmphflgecjacDoorWalkS
namespace Go.Proofs.YtldjmphflgecjacDoor
open Go.RowKit
set_option linter.unusedVariables false

set_option maxHeartbeats 1600000 in
theorem l7DrawCsrs_c {w0 : World} {g : Nat} {a : Option Addr} {n cap : Nat} {zs : List Int} (hcd : Code w0 a n zs) (w : World) (hc : Cur w0 w g a n cap) :
    Calls Tryd.prog 41 #[.pointer (some ⟨g, 0, none⟩)] w fun e w' => ∃ s : Bool, e = .returned (anyV w s) ∧ Hid (Rg w0 g a n cap w w') := by
  have HD : Hid (Code w0 a n zs) := hcd
  have HC0 : Hid (Cur w0 w g a n cap) := hc
  have FT : Hid (anyV w true = .slice (some ⟨w.heap.size, 1, none⟩) 21 21) := (rfl : anyV w true = _)
  have FF : Hid (anyV w false = .slice (some ⟨w.heap.size, 0, none⟩) 22 22) := (rfl : anyV w false = _)
  have hU : ∀ x : Int, x = 9223372036855300096 ∨ x = 31 ∨ x = 18014398509481983 → U x := by rintro x (rfl | rfl | rfl) <;> (constructor <;> decide)
  have HU : Hid (∀ x : Int, x = 9223372036855300096 ∨ x = 31 ∨ x = 18014398509481983 → U x) := hU
  clear hcd hc hU
  go_enter Tryd.func41, Tryd.ntmps41
  go_wp2_with fail
  refine (l4DrawAny_c HD.out _ HC0.out).mono ?_
  rintro e w2 ⟨s, rfl, R2⟩
  clear HC0
  cases s with
  | true =>
    rw [FT.out]
    go_wp2_with fail
    go_ret
    exact ⟨true, by rw [FT.out]; rfl, R2⟩
  | false =>
    rw [FF.out]
    go_wp2_with fail
    refine (l1Once_c HD.out 3 (by omega) _ R2.out.cur).mono ?_
    rintro e w3 ⟨c, rfl, hs3⟩
    have R3 : Hid (Rg w0 g a n cap w w3) := R2.out.next hs3.out
    clear R2 hs3
    cases c with
    | true =>
      go_wp2_with fail
      go_ret
      exact ⟨false, by rw [FF.out]; rfl, R3⟩
    | false =>
      obtain ⟨v15, -, c15, f15⟩ := R3.out.cell 15 (by omega)
      obtain ⟨v16, -, c16, f16⟩ := R3.out.cell 16 (by omega)
      obtain ⟨v17, -, c17, f17⟩ := R3.out.cell 17 (by omega)
      have R6 : Hid (Rg w0 g a n cap w (((w3.setCell ⟨w.heap.size, 15, none⟩ (.int .u64 9223372036855300096)).setCell ⟨w.heap.size, 16, none⟩ (.int .u64 31)).setCell ⟨w.heap.size, 17, none⟩ (.int .u64 18014398509481983))) := ((R3.out.put 15 _ (HU.out _ (.inl rfl))).put 16 _ (HU.out _ (.inr (.inl rfl)))).put 17 _ (HU.out _ (.inr (.inr rfl)))
      clear R3
      go_wp2_with fail
      go_ret
      exact ⟨false, by rw [FF.out]; rfl, R6⟩

theorem five_U : ∀ x ∈ ([274877906944, 18446743798831644672, 549755813888, 18446743523953737728, 18446744073709551615] : List Int), U x := by
  intro x hx
  simp only [List.mem_cons, List.not_mem_nil, or_false] at hx
  rcases hx with rfl | rfl | rfl | rfl | rfl <;> (constructor <;> decide)

set_option maxHeartbeats 3200000 in
theorem l7DrawVa_c {w0 : World} {g : Nat} {a : Option Addr} {n cap : Nat} {zs : List Int} (hcd : Code w0 a n zs) (w : World) (hc : Cur w0 w g a n cap) :
    Calls Tryd.prog 43 #[.pointer (some ⟨g, 0, none⟩)] w fun e w' => ∃ x : Int, e = .returned (.int .u64 x) ∧ Hid (U x) ∧ Hid (Cs w0 g a n cap w w') := by
  have HD : Hid (Code w0 a n zs) := hcd
  have S0 : Hid (Cs w0 g a n cap w w) := Cs.refl hc
  clear hcd hc
  go_enter Tryd.func43, Tryd.ntmps43
  go_wp2_with fail
  refine (l1Below_c HD.out 4 (by omega) _ S0.out.1).mono ?_
  rintro e w1 ⟨x1, rfl, -, hs⟩
  have S1 : Hid (Cs w0 g a n cap w w1) := S0.out.trans hs.out
  clear hs
  go_wp2_with fail
  refine (l1Below_c HD.out 4 (by omega) _ S1.out.1).mono ?_
  rintro e w2 ⟨x2, rfl, -, hs⟩
  have S2 : Hid (Cs w0 g a n cap w w2) := S1.out.trans hs.out
  clear hs
  go_wp2_with fail
  refine (l1Below_c HD.out 4 (by omega) _ S2.out.1).mono ?_
  rintro e w3 ⟨x3, rfl, -, hs⟩
  have S3 : Hid (Cs w0 g a n cap w w3) := S2.out.trans hs.out
  clear hs
  go_wp2_with fail
  refine (l1Below_c HD.out 512 (by omega) _ S3.out.1).mono ?_
  rintro e w4 ⟨x4, rfl, -, hs⟩
  have S4 : Hid (Cs w0 g a n cap w w4) := S3.out.trans hs.out
  clear hs
  go_wp2_with fail
  refine (l1Once_c HD.out 3 (by omega) _ S4.out.1).mono ?_
  rintro e w5 ⟨c5, rfl, hs⟩
  have S5 : Hid (Cs w0 g a n cap w w5) := S4.out.trans hs.out
  clear hs
  cases c5 with
  | true =>
    go_wp2_with fail
    refine (l1Below_c HD.out 1024 (by omega) _ S5.out.1).mono ?_
    rintro e w6 ⟨x6, rfl, -, hs⟩
    have S6 : Hid (Cs w0 g a n cap w w6) := S5.out.trans hs.out
    clear hs
    go_wp2_with fail
    refine (l1Once_c HD.out 14 (by omega) _ S6.out.1).mono ?_
    rintro e w8 ⟨c8, rfl, hs⟩
    have S8 : Hid (Cs w0 g a n cap w w8) := S6.out.trans hs.out
    clear hs
    cases c8 with
    | true =>
      go_wp2_with fail
      have HA := Cs.alloc S8.out.1 (.cells #[.int .u64 274877906944, .int .u64 18446743798831644672, .int .u64 549755813888, .int .u64 18446743523953737728, .int .u64 18446744073709551615] 25)
      refine (l1Below_c HD.out 5 (by omega) _ HA.1).mono ?_
      rintro e w9 ⟨x9, rfl, ⟨h0, h1⟩, hs9⟩
      obtain ⟨k, rfl⟩ := Int.eq_ofNat_of_zero_le h0
      obtain ⟨v, hv, hcell⟩ := few_words [274877906944, 18446743798831644672, 549755813888, 18446743523953737728, 18446744073709551615] 25 (hs9.out.keep (heap_alloc_new _ _) (Nat.ne_of_gt S8.out.1.lt)) five_U (k := k) (by simp; omega)
      have HV : Hid (U v) := hv
      have HS : Hid (Cs w0 g a n cap w w9) := S8.out.trans (HA.trans hs9.out)
      clear hv hs9 HA S8
      go_wp2_with fail
      go_ret
      exact ⟨_, rfl, HV, HS⟩
    | false =>
      go_wp2_with fail
      go_ret
      exact ⟨_, rfl, (U_wrap _), S8⟩
  | false =>
    go_wp2_with fail
    refine (l1Once_c HD.out 14 (by omega) _ S5.out.1).mono ?_
    rintro e w8 ⟨c8, rfl, hs⟩
    have S8 : Hid (Cs w0 g a n cap w w8) := S5.out.trans hs.out
    clear hs
    cases c8 with
    | true =>
      go_wp2_with fail
      have HA := Cs.alloc S8.out.1 (.cells #[.int .u64 274877906944, .int .u64 18446743798831644672, .int .u64 549755813888, .int .u64 18446743523953737728, .int .u64 18446744073709551615] 25)
      refine (l1Below_c HD.out 5 (by omega) _ HA.1).mono ?_
      rintro e w9 ⟨x9, rfl, ⟨h0, h1⟩, hs9⟩
      obtain ⟨k, rfl⟩ := Int.eq_ofNat_of_zero_le h0
      obtain ⟨v, hv, hcell⟩ := few_words [274877906944, 18446743798831644672, 549755813888, 18446743523953737728, 18446744073709551615] 25 (hs9.out.keep (heap_alloc_new _ _) (Nat.ne_of_gt S8.out.1.lt)) five_U (k := k) (by simp; omega)
      have HV : Hid (U v) := hv
      have HS : Hid (Cs w0 g a n cap w w9) := S8.out.trans (HA.trans hs9.out)
      clear hv hs9 HA S8
      go_wp2_with fail
      go_ret
      exact ⟨_, rfl, HV, HS⟩
    | false =>
      go_wp2_with fail
      go_ret
      exact ⟨_, rfl, (U_bits _ _ _), S8⟩

theorem Rg.cs {w0 : World} {g : Nat} {a : Option Addr} {n cap : Nat} {w wr : World} (h : Rg w0 g a n cap w wr) : Cs w0 g a n cap w wr := by
  obtain ⟨zs, hu, ho, hc, hg⟩ := h
  exact hc

theorem U_entry (f b : Int) : U (entryV f b) := by
  unfold entryV
  split
  · exact U0
  · split
    · exact U_bits _ _ _
    · exact U0

theorem wf8_bd {zs : List Int} (h : ∀ y ∈ zs, (Lit.int .u8 y).wf = true) : ∀ y ∈ zs, 0 ≤ y ∧ y ≤ 255 := fun y hy => by
  have := h y hy
  simpa [Lit.wf, IntKind.min, IntKind.max, IntKind.signed, IntKind.bits] using this

/-- A word put into the memory that was drawn. -/
theorem rm_word {w0 : World} {g : Nat} {a : Option Addr} {n cap : Nat} {w wr : World} {b m : Nat} (h : Rm w0 g a n cap w b m wr) (f : Nat) (v : Int) (hv : U v) (hm : m ≤ 1048576) (hf : f + 8 ≤ m) :
    Calls Tryd.prog 52 #[.slice (some ⟨b, 0, none⟩) m m, .int .u64 (2147483648 + (f : Int)), .int .i64 8, .int .u64 v] wr fun e w' => e = .returned (.tuple #[]) ∧ Hid (Rm w0 g a n cap w b m w') := by
  obtain ⟨zs, hu, ho, hc, hg, hb⟩ := h
  refine (l1Put_any b m m f 8 _ zs v wr hm (by omega) hf hv.1 (by have := hv.2; omega) ho).mono ?_
  rintro e w' ⟨rfl, ho', hgr⟩
  refine ⟨rfl, put zs f v 8, fun y hy => ?_, ho', ⟨?_, ?_⟩, hg, hb⟩
  · obtain ⟨h0, h1⟩ := put_bd zs (wf8_bd hu) f v 8 y hy
    exact wf8 h0 h1
  · obtain ⟨i, x, hi, hrow⟩ := hc.1.row
    have hgl := hc.1.lt
    refine ⟨hc.1.new, ⟨hgr.os.trans hc.1.below.os, hgr.tape.trans hc.1.below.tape, hgr.output.trans hc.1.below.output, Nat.le_trans hc.1.below.size hgr.size, fun k hk => ?_⟩, i, x, hi, ?_⟩
    · have := hc.1.new
      exact (hgr.block k (Nat.lt_of_lt_of_le hk hc.1.below.size) (by simp; omega)).trans (hc.1.below.block k hk)
    · exact (hgr.block g hgl (by simp; omega)).trans hrow
  · refine ⟨hgr.os.trans hc.2.os, hgr.tape.trans hc.2.tape, hgr.output.trans hc.2.output, Nat.le_trans hc.2.size hgr.size, fun j hj hne => ?_⟩
    exact (hgr.block j (Nat.lt_of_lt_of_le hj hc.2.size) (by simp; omega)).trans (hc.2.block j hj hne)

end Go.Proofs.YtldjmphflgecjacDoor
