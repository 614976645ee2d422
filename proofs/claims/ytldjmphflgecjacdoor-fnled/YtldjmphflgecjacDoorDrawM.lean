/- Memory that is drawn: bytes of our own, an address, a size. -/
import Derived.Test.YtldjmphflgecjacDoorDrawN
import Derived.Test.YtldjmphflgecjacDoorMemC
namespace Go.Proofs.YtldjmphflgecjacDoor
open Go.RowKit
set_option linter.unusedVariables false

/-- m bytes of our own in block b, beside the cursor. -/
def Rm (w0 : World) (g : Nat) (a : Option Addr) (n cap : Nat) (w : World) (b m : Nat) (wr : World) : Prop :=
  ∃ zs : List Int, (∀ y ∈ zs, (Lit.int .u8 y).wf = true) ∧ wr.ownsRow w.heap.size 5 1 (.slice (some ⟨b, 0, none⟩) m m) m (zs.map (Value.int .u8)) ∧ Cs w0 g a n cap w wr ∧ g < w.heap.size ∧ w.heap.size ≤ b

theorem Rm.next {w0 : World} {g : Nat} {a : Option Addr} {n cap : Nat} {w wr wx : World} {b m : Nat} (h : Rm w0 g a n cap w b m wr) (k : Cs w0 g a n cap wr wx) : Rm w0 g a n cap w b m wx := by
  obtain ⟨zs, hu, ho, hc, hg, hb⟩ := h
  refine ⟨zs, hu, kept_of ho k.2 ?_, hc.trans k, hg, hb⟩
  intro j hj hne
  simp [Value.ownBlock] at hj hne
  omega

theorem Rm.cur {w0 : World} {g : Nat} {a : Option Addr} {n cap : Nat} {w wr : World} {b m : Nat} (h : Rm w0 g a n cap w b m wr) : Cur w0 wr g a n cap := by
  obtain ⟨zs, hu, ho, hc, hg, hb⟩ := h
  exact hc.1

theorem Rm.cs {w0 : World} {g : Nat} {a : Option Addr} {n cap : Nat} {w wr : World} {b m : Nat} (h : Rm w0 g a n cap w b m wr) : Cs w0 g a n cap w wr := by
  obtain ⟨zs, hu, ho, hc, hg, hb⟩ := h
  exact hc

theorem wf8 {y : Int} (h0 : 0 ≤ y) (h1 : y ≤ 255) : (Lit.int .u8 y).wf = true := by
  have hmin : IntKind.u8.min = 0 := rfl
  have hmax : IntKind.u8.max = 255 := rfl
  simp only [Lit.wf, Bool.and_eq_true, decide_eq_true_eq]
  omega

theorem Rm.put {w0 : World} {g : Nat} {a : Option Addr} {n cap : Nat} {w wr : World} {b m : Nat} (h : Rm w0 g a n cap w b m wr) (k : Nat) (y : Int) (hy : (Lit.int .u8 y).wf = true) : Rm w0 g a n cap w b m (wr.setCell ⟨b, k, none⟩ (.int .u8 y)) := by
  obtain ⟨zs, hu, ho, hc, hg, hb⟩ := h
  have hst := ho.stored k (.int .u8 y)
  rw [map_set_u8] at hst
  refine ⟨zs.set k y, fun x hx => ?_, hst.1, ⟨?_, ?_⟩, hg, hb⟩
  · rcases List.mem_or_eq_of_mem_set hx with h | h
    · exact hu x h
    · rw [h]; exact hy
  · obtain ⟨i, x, hi, hrow⟩ := hc.1.row
    refine ⟨hc.1.new, hc.1.below.setCell ?_ _, i, x, hi, ?_⟩
    · show w0.heap.size ≤ b
      have := hc.1.new; omega
    · rw [heap_setCell_other _ _ _ _ (by show g ≠ b; omega)]; exact hrow
  · refine ⟨hc.2.os, hc.2.tape, hc.2.output, by simpa [World.setCell] using hc.2.size, fun j hj hne => ?_⟩
    rw [heap_setCell_other _ _ _ _ (by show j ≠ b; omega)]
    exact hc.2.block j hj hne

theorem Rm.cell {w0 : World} {g : Nat} {a : Option Addr} {n cap : Nat} {w wr : World} {b m : Nat} (h : Rm w0 g a n cap w b m wr) (k : Nat) (hk : k < m) : ∃ v, wr.cell? ⟨b, k, none⟩ = some (.int .u8 v) ∧ wr.frozen? ⟨b, k, none⟩ = false := by
  obtain ⟨zs, hu, ho, hc, hg, hb⟩ := h
  have hl : zs.length = m := by have := ho.1; simpa using this
  obtain ⟨b', off, e, _, hcl⟩ := own_sl ho k (by omega)
  simp only [Option.some.injEq, Addr.mk.injEq, and_true] at e
  obtain ⟨rfl, rfl⟩ := e
  rw [Nat.zero_add] at hcl
  exact ⟨_, hcl, ho.frozenAt k⟩

theorem Rm.sl {w0 : World} {g : Nat} {a : Option Addr} {n cap : Nat} {w wr : World} {b m : Nat} (h : Rm w0 g a n cap w b m wr) : ∃ zs : List Int, zs.length = m ∧ (∀ y ∈ zs, (Lit.int .u8 y).wf = true) ∧ Sl .u8 wr (some ⟨b, 0, none⟩) zs := by
  obtain ⟨zs, hu, ho, hc, hg, hb⟩ := h
  exact ⟨zs, by have := ho.1; simpa using this, hu, own_sl ho⟩

theorem zeros_wf (m : Nat) : ∀ y ∈ List.replicate m (0 : Int), (Lit.int .u8 y).wf = true := by
  intro y hy
  rw [(List.mem_replicate.mp hy).2]; decide

set_option maxHeartbeats 3200000 in
theorem l1DrawRam_c {w0 : World} {g : Nat} {a : Option Addr} {n cap : Nat} {zs : List Int} (hcd : Code w0 a n zs) (w : World) (hc : Cur w0 w g a n cap) :
    Calls Tryd.prog 38 #[.pointer (some ⟨g, 0, none⟩)] w fun e w' => ∃ b m : Nat, e = .returned (.slice (some ⟨b, 0, none⟩) m m) ∧ m ≤ 69632 ∧ Hid (Rm w0 g a n cap w b m w') := by
  have HD : Hid (Code w0 a n zs) := hcd
  have HC : Hid (Cur w0 w g a n cap) := hc
  have hgw := hc.lt
  obtain ⟨i0, hi, hz0, hz1, hz2⟩ := info_parts Tryd.info5
  clear hcd hc
  go_enter Tryd.func38, Tryd.ntmps38
  go_wp2_with fail
  refine (l1Below_c HD.out 2 (by omega) _ HC.out).mono ?_
  rintro e w1 ⟨x, rfl, ⟨hx0, hx1⟩, hs1⟩
  obtain ⟨m0, hm0⟩ : ∃ m : Nat, 4096 * (1 + x) = (m : Int) ∧ m ≤ 69632 := ⟨(4096 * (1 + x)).toNat, by omega, by omega⟩
  have hm0' := hm0.1
  have hm1 := hm0.2
  clear hm0
  go_wp2_with fail
  refine (l1Once_c HD.out 40 (by omega) _ hs1.out.1).mono ?_
  rintro e w2 ⟨c, rfl, hs2⟩
  have C2 : Hid (Cs w0 g a n cap w w2) := hs1.out.trans hs2.out
  clear hs1 hs2
  cases c
  case' true =>
    go_wp2_with fail
    have HA := Cs.alloc C2.out.1 (.cells #[.int .i64 0, .int .i64 4095, .int .i64 4097, .int .i64 65536, .int .i64 69632, .int .i64 2048] 2)
    refine (l1Below_c HD.out 6 (by omega) _ HA.1).mono ?_
    rintro e w3 ⟨y, rfl, ⟨hy0, hy1⟩, hs3⟩
    obtain ⟨k, rfl⟩ := Int.eq_ofNat_of_zero_le hy0
    have hrow := hs3.out.keep (heap_alloc_new w2 (.cells #[.int .i64 0, .int .i64 4095, .int .i64 4097, .int .i64 65536, .int .i64 69632, .int .i64 2048] 2)) (Nat.ne_of_gt C2.out.1.lt)
    obtain ⟨mv, hmv, hcell⟩ : ∃ mv : Nat, mv ≤ 69632 ∧ w3.cell? ⟨w2.heap.size, k, none⟩ = some (.int .i64 (mv : Int)) := by
      have ec := cell_of_row w3 w2.heap.size k _ _ _ hrow
      match k, hy1 with
      | 0, _ => exact ⟨0, by omega, ec⟩
      | 1, _ => exact ⟨4095, by omega, ec⟩
      | 2, _ => exact ⟨4097, by omega, ec⟩
      | 3, _ => exact ⟨65536, by omega, ec⟩
      | 4, _ => exact ⟨69632, by omega, ec⟩
      | 5, _ => exact ⟨2048, by omega, ec⟩
      | k + 6, h => exact absurd h (by omega)
    have C3 : Hid (Cs w0 g a n cap w w3) := C2.out.trans (HA.trans hs3.out)
    clear hs3 HA hrow C2 hm1 hm0'
    have hb2 : i0.bytes * mv ≤ 281474976710656 := by rw [hz2]; omega
    have hb3 : mv ≤ maxLen := by unfold maxLen; omega
    go_wp2_with (first | (at_make; refine wpList_make_full _ rfl (.tmp 17) (.tmp 17) 22 rfl w3.heap.size 5 i0 (.int .u8 0) 1 Tryd.underlying22 hi hz0 hz1 .i64 .i64 _ _ mv rfl rfl rfl rfl hb2 hb3 (Nat.le_refl _) ?_; intro w4 hown hgrow))
    have ho4 : w4.ownsRow w3.heap.size 5 1 (.slice (some ⟨w3.heap.size, 0, none⟩) mv mv) mv ((List.replicate mv (0 : Int)).map (Value.int .u8)) := by
      rw [List.map_replicate, ← toList_madeCells_one]; simpa [Value.cells] using hown
    have hb4 : Below w3.heap.size w3 w4 := (Below.refl _ _).grown hgrow (Nat.le_refl _) (by intro k h; cases h)
    have hle : w.heap.size ≤ w3.heap.size := C3.out.2.size
    have R4 : Hid (Rm w0 g a n cap w w3.heap.size mv w4) := ⟨List.replicate mv 0, zeros_wf _, own_low ho4 hle, C3.out.trans (Cs.of_below C3.out.1 hb4), hgw, hle⟩
    have hmm : mv ≤ 69632 := by omega
    obtain ⟨bb, hbb⟩ : ∃ bb, w3.heap.size = bb := ⟨_, rfl⟩
    rw [hbb] at R4
    clear hown hgrow ho4 hb4 hle hb2 hb3 C3
    rw [hbb]
    clear hbb
    generalize mv = mm at *
  case' false =>
    clear hx0 hx1
    have hb2 : i0.bytes * m0 ≤ 281474976710656 := by rw [hz2]; omega
    have hb3 : m0 ≤ maxLen := by unfold maxLen; omega
    go_wp2_with (first | (at_make; refine wpList_make_full _ rfl (.tmp 17) (.tmp 17) 22 rfl w2.heap.size 5 i0 (.int .u8 0) 1 Tryd.underlying22 hi hz0 hz1 .i64 .i64 _ _ m0 rfl rfl rfl rfl hb2 hb3 (Nat.le_refl _) ?_; intro w4 hown hgrow))
    have ho4 : w4.ownsRow w2.heap.size 5 1 (.slice (some ⟨w2.heap.size, 0, none⟩) m0 m0) m0 ((List.replicate m0 (0 : Int)).map (Value.int .u8)) := by
      rw [List.map_replicate, ← toList_madeCells_one]; simpa [Value.cells] using hown
    have hb4 : Below w2.heap.size w2 w4 := (Below.refl _ _).grown hgrow (Nat.le_refl _) (by intro k h; cases h)
    have hle : w.heap.size ≤ w2.heap.size := C2.out.2.size
    have R4 : Hid (Rm w0 g a n cap w w2.heap.size m0 w4) := ⟨List.replicate m0 0, zeros_wf _, own_low ho4 hle, C2.out.trans (Cs.of_below C2.out.1 hb4), hgw, hle⟩
    have hmm : m0 ≤ 69632 := by omega
    obtain ⟨bb, hbb⟩ : ∃ bb, w2.heap.size = bb := ⟨_, rfl⟩
    rw [hbb] at R4
    clear hown hgrow ho4 hb4 hle hb2 hb3 C2
    rw [hbb]
    clear hbb
    generalize m0 = mm at *
  all_goals refine (l1Below_c HD.out 40 (by omega) _ R4.out.cur).mono ?_
  all_goals rintro e w5 ⟨q, rfl, ⟨hq0, hq1⟩, hs5⟩
  all_goals have R5 : Hid (Rm w0 g a n cap w bb mm w5) := R4.out.next hs5.out
  all_goals obtain ⟨qq, rfl⟩ := Int.eq_ofNat_of_zero_le hq0
  all_goals clear R4 hs5
  all_goals go_wp2_with fail
  all_goals (
    go_loopw [5] (fun i wr => ∃ k : Nat, k ≤ 40 ∧ i = .int .i64 k ∧ Hid (Rm w0 g a n cap w bb mm wr)) (fun i _ => (intOf i).toNat)
    case atStart => exact ⟨qq, by omega, rfl, R5⟩
    case round =>
      obtain ⟨k, hk, rfl, hR⟩ := hrel
      by_cases hlt : 0 < k
      · obtain ⟨j, rfl⟩ : ∃ j, k = j + 1 := ⟨k - 1, by omega⟩
        have dk : decide ((0 : Int) < ((j + 1 : Nat) : Int)) = true := by rw [decide_eq_true_eq]; omega
        by_cases hmz : 0 < mm
        · have dm : decide ((0 : Int) < (mm : Int)) = true := by simp; omega
          go_wp2_with fail
          refine (l1Below_c HD.out (mm : Int) (by omega) _ hR.out.cur).mono ?_
          rintro e w6 ⟨y, rfl, ⟨hy0, hy1⟩, hs6⟩
          have R6 : Hid (Rm w0 g a n cap w bb mm w6) := hR.out.next hs6.out
          obtain ⟨yy, rfl⟩ := Int.eq_ofNat_of_zero_le hy0
          clear hs6 hR
          go_wp2_with fail
          refine (l1Byte_c HD.out _ R6.out.cur).mono ?_
          rintro e w7 ⟨z, rfl, ⟨hz8, hz9⟩, hs7⟩
          have R7 : Hid (Rm w0 g a n cap w bb mm w7) := R6.out.next hs7.out
          obtain ⟨v9, hc9, hf9⟩ := R7.out.cell yy (by omega)
          have hzw : IntKind.u8.wrap z = z := by rw [IntKind.wrap_u8']; omega
          have HZ : Hid ((Lit.int .u8 z).wf = true) := wf8 hz8 hz9
          clear hs7 R6
          go_wp2_with fail
          go_roundw
          case rel => exact ⟨j, by omega, by go_num, R7.out.put yy _ HZ.out⟩
          case measure => simp [intOf]
        · have dm : decide ((0 : Int) < (mm : Int)) = false := by simp; omega
          go_wp2_with fail
          go_ret
          exact ⟨bb, mm, rfl, hmm, hR⟩
      · have hk0 : k = 0 := by omega
        subst hk0
        go_wp2_with fail
        go_ret
        exact ⟨bb, mm, rfl, hmm, hR⟩)

theorem l1DrawSize_c {w0 : World} {g : Nat} {a : Option Addr} {n cap : Nat} {zs : List Int} (hcd : Code w0 a n zs) (w : World) (hc : Cur w0 w g a n cap) :
    Calls Tryd.prog 22 #[.pointer (some ⟨g, 0, none⟩)] w fun e w' => ∃ x : Int, e = .returned (.int .i64 x) ∧ (Lit.int .i64 x).wf = true ∧ Hid (Cs w0 g a n cap w w') := by
  have HD : Hid (Code w0 a n zs) := hcd
  have HC : Hid (Cur w0 w g a n cap) := hc
  clear hcd hc
  go_enter Tryd.func22, Tryd.ntmps22
  go_wp2_with fail
  refine (l1Once_c HD.out 20 (by omega) _ HC.out).mono ?_
  rintro e w1 ⟨c, rfl, hs1⟩
  cases c with
  | true =>
    go_wp2_with fail
    have HA := Cs.alloc hs1.out.1 (.cells #[.int .i64 0, .int .i64 3, .int .i64 16, .int .i64 (-1)] 2)
    refine (l1Below_c HD.out 4 (by omega) _ HA.1).mono ?_
    rintro e w2 ⟨x, rfl, ⟨hx0, hx1⟩, hs2⟩
    obtain ⟨k, rfl⟩ := Int.eq_ofNat_of_zero_le hx0
    obtain ⟨v, hv, hcell⟩ := few_ints [0, 3, 16, -1] 2 (hs2.out.keep (heap_alloc_new _ _) (Nat.ne_of_gt hs1.out.1.lt)) (by decide) (k := k) (by simp; omega)
    have HV : Hid ((Lit.int .i64 v).wf = true) := hv
    have HS : Hid (Cs w0 g a n cap w w2) := hs1.out.trans (HA.trans hs2.out)
    clear hv hs1 hs2 HA HC
    go_wp2_with fail
    go_ret
    exact ⟨_, rfl, HV.out, HS⟩
  | false =>
    go_wp2_with fail
    have HA := Cs.alloc hs1.out.1 (.cells #[.int .i64 1, .int .i64 2, .int .i64 4, .int .i64 8] 2)
    refine (l1Below_c HD.out 4 (by omega) _ HA.1).mono ?_
    rintro e w2 ⟨x, rfl, ⟨hx0, hx1⟩, hs2⟩
    obtain ⟨k, rfl⟩ := Int.eq_ofNat_of_zero_le hx0
    obtain ⟨v, hv, hcell⟩ := few_ints [1, 2, 4, 8] 2 (hs2.out.keep (heap_alloc_new _ _) (Nat.ne_of_gt hs1.out.1.lt)) (by decide) (k := k) (by simp; omega)
    have HV : Hid ((Lit.int .i64 v).wf = true) := hv
    have HS : Hid (Cs w0 g a n cap w w2) := hs1.out.trans (HA.trans hs2.out)
    clear hv hs1 hs2 HA HC
    go_wp2_with fail
    go_ret
    exact ⟨_, rfl, HV.out, HS⟩

theorem results_4 {fn : Func} {t u v x : Tmp} (h : fn.results = #[.tmp t, .tmp u, .tmp v, .tmp x]) (tmps : Array Value) (P : Program) (w : World) :
    (results fn tmps).run P w = .ok (.tuple #[tmps.getD t undef, tmps.getD u undef, tmps.getD v undef, tmps.getD x undef]) w := by
  simp only [results, h]
  simp

end Go.Proofs.YtldjmphflgecjacDoor
