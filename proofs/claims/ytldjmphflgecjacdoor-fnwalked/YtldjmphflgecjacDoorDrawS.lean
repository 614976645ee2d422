/- Registers that are drawn: a list of 22 words of our own, a part of it, numbers and privileges. Registers that are drawn, right or not; what WriteCsr is drawn. -/
import Derived.Test.YtldjmphflgecjacDoorDrawN
import Derived.Test.YtldjmphflgecjacDoorCsrV
import Derived.Test.YtldjmphflgecjacDoorBitP
namespace Go.Proofs.YtldjmphflgecjacDoor
open Go.RowKit
set_option linter.unusedVariables false

/-- 22 words in the block that came at w, beside the cursor. -/
def Rg (w0 : World) (g : Nat) (a : Option Addr) (n cap : Nat) (w wr : World) : Prop :=
  ∃ zs : List Int, (∀ j, U (zs.getD j 0)) ∧ wr.ownsRow w.heap.size 25 1 (.slice (some ⟨w.heap.size, 0, none⟩) 22 22) 22 (zs.map (Value.int .u64)) ∧ Cs w0 g a n cap w wr ∧ g < w.heap.size

theorem Rg.next {w0 : World} {g : Nat} {a : Option Addr} {n cap : Nat} {w wr wx : World} (h : Rg w0 g a n cap w wr) (k : Cs w0 g a n cap wr wx) : Rg w0 g a n cap w wx := by
  obtain ⟨zs, hu, ho, hc, hg⟩ := h
  refine ⟨zs, hu, kept_of ho k.2 ?_, hc.trans k, hg⟩
  intro j hj hne
  simp [Value.ownBlock] at hj hne
  omega

theorem Rg.cur {w0 : World} {g : Nat} {a : Option Addr} {n cap : Nat} {w wr : World} (h : Rg w0 g a n cap w wr) : Cur w0 wr g a n cap := by
  obtain ⟨zs, hu, ho, hc, hg⟩ := h
  exact hc.1

theorem getD_set (zs : List Int) (k j : Nat) (y : Int) (hu : ∀ j, U (zs.getD j 0)) (hy : U y) : U ((zs.set k y).getD j 0) := by
  by_cases hkj : k = j
  · subst hkj
    by_cases hl : k < zs.length
    · have e : (zs.set k y).getD k 0 = y := by simp [List.getD, hl]
      rw [e]; exact hy
    · have e : (zs.set k y).getD k 0 = 0 := by simp [List.getD, hl]
      rw [e]; constructor <;> decide
  · have e : (zs.set k y).getD j 0 = zs.getD j 0 := by simp [List.getD, hkj]
    rw [e]; exact hu j

theorem Rg.put {w0 : World} {g : Nat} {a : Option Addr} {n cap : Nat} {w wr : World} (h : Rg w0 g a n cap w wr) (k : Nat) (y : Int) (hy : U y) : Rg w0 g a n cap w (wr.setCell ⟨w.heap.size, k, none⟩ (.int .u64 y)) := by
  obtain ⟨zs, hu, ho, hc, hg⟩ := h
  have hst := ho.stored k (.int .u64 y)
  rw [map_set_u64] at hst
  refine ⟨zs.set k y, fun j => getD_set zs k j y hu hy, hst.1, ⟨?_, ?_⟩, hg⟩
  · obtain ⟨i, x, hi, hrow⟩ := hc.1.row
    refine ⟨hc.1.new, hc.1.below.setCell ?_ _, i, x, hi, ?_⟩
    · show w0.heap.size ≤ w.heap.size
      have := hc.1.new; omega
    · rw [heap_setCell_other _ _ _ _ (by show g ≠ w.heap.size; omega)]; exact hrow
  · refine ⟨hc.2.os, hc.2.tape, hc.2.output, by simpa [World.setCell] using hc.2.size, fun j hj hne => ?_⟩
    rw [heap_setCell_other _ _ _ _ (by show j ≠ w.heap.size; omega)]
    exact hc.2.block j hj hne

theorem Rg.cell {w0 : World} {g : Nat} {a : Option Addr} {n cap : Nat} {w wr : World} (h : Rg w0 g a n cap w wr) (k : Nat) (hk : k < 22) : ∃ v, U v ∧ wr.cell? ⟨w.heap.size, k, none⟩ = some (.int .u64 v) ∧ wr.frozen? ⟨w.heap.size, k, none⟩ = false := by
  obtain ⟨zs, hu, ho, hc, hg⟩ := h
  have hl : zs.length = 22 := by have := ho.1; simpa using this
  obtain ⟨b, off, e, _, hcl⟩ := own_sl ho k (by omega)
  simp only [Option.some.injEq, Addr.mk.injEq, and_true] at e
  obtain ⟨rfl, rfl⟩ := e
  rw [Nat.zero_add] at hcl
  exact ⟨_, hu k, hcl, ho.frozenAt k⟩

theorem Rg.sl {w0 : World} {g : Nat} {a : Option Addr} {n cap : Nat} {w wr : World} (h : Rg w0 g a n cap w wr) :
    (∃ zs : List Int, zs.length = 22 ∧ (∀ j, U (zs.getD j 0)) ∧ Sl .u64 wr (some ⟨w.heap.size, 0, none⟩) zs) ∧ ∃ zs : List Int, zs.length = 21 ∧ (∀ j, U (zs.getD j 0)) ∧ Sl .u64 wr (some ⟨w.heap.size, 1, none⟩) zs := by
  obtain ⟨zs, hu, ho, hc, hg⟩ := h
  have hl : zs.length = 22 := by have := ho.1; simpa using this
  refine ⟨⟨zs, hl, hu, own_sl ho⟩, zs.drop 1, by simp [hl], fun j => ?_, fun i hi => ?_⟩
  · have e : (zs.drop 1).getD j 0 = zs.getD (1 + j) 0 := by simp [List.getD, Nat.add_comm]
    rw [e]; exact hu _
  · rw [List.length_drop] at hi
    obtain ⟨b, off, e, hb, hcl⟩ := own_sl ho (1 + i) (by omega)
    simp only [Option.some.injEq, Addr.mk.injEq, and_true] at e
    obtain ⟨rfl, rfl⟩ := e
    refine ⟨_, _, rfl, hb, ?_⟩
    have e : (zs.drop 1).getD i 0 = zs.getD (1 + i) 0 := by simp [List.getD, Nat.add_comm]
    rw [e]
    rw [Nat.zero_add] at hcl
    exact hcl

theorem U_legal (p x : Int) (h : U x) : U (legal p x) := by
  unfold legal
  split
  · unfold mst; split <;> exact U_bits _ _ _
  · split
    · exact U_bits _ _ _
    · split
      · exact U_bits _ _ _
      · split
        · exact U_bits _ _ _
        · split
          · exact U_bits _ _ _
          · split
            · exact U_bits _ _ _
            · split
              · exact U_bits _ _ _
              · split
                · exact U_bits _ _ _
                · split
                  · exact U_bits _ _ _
                  · exact h

theorem U_add (x y : Int) : U (IntKind.u64.wrap (x + y)) := U_wrap _

set_option maxHeartbeats 1600000 in
theorem l4DrawPriv_c {w0 : World} {g : Nat} {a : Option Addr} {n cap : Nat} {zs : List Int} (hcd : Code w0 a n zs) (w : World) (hc : Cur w0 w g a n cap) :
    Calls Tryd.prog 20 #[.pointer (some ⟨g, 0, none⟩)] w fun e w' => ∃ x : Int, e = .returned (.int .i64 x) ∧ (Lit.int .i64 x).wf = true ∧ Hid (Cs w0 g a n cap w w') := by
  have HD : Hid (Code w0 a n zs) := hcd
  have HC : Hid (Cur w0 w g a n cap) := hc
  clear hcd hc
  go_enter Tryd.func20, Tryd.ntmps20
  go_wp2_with fail
  refine (l1Once_c HD.out 20 (by omega) _ HC.out).mono ?_
  rintro e w1 ⟨c, rfl, hs1⟩
  cases c with
  | true =>
    go_wp2_with fail
    have HA := Cs.alloc hs1.out.1 (.cells #[.int .i64 2, .int .i64 (-1), .int .i64 4] 2)
    refine (l1Below_c HD.out 3 (by omega) _ HA.1).mono ?_
    rintro e w2 ⟨x, rfl, ⟨hx0, hx1⟩, hs2⟩
    obtain ⟨k, rfl⟩ := Int.eq_ofNat_of_zero_le hx0
    obtain ⟨v, hv, hcell⟩ := few_ints [2, -1, 4] 2 (hs2.out.keep (heap_alloc_new _ _) (Nat.ne_of_gt hs1.out.1.lt)) (by decide) (k := k) (by simp; omega)
    have HV : Hid ((Lit.int .i64 v).wf = true) := hv
    have HS : Hid (Cs w0 g a n cap w w2) := hs1.out.trans (HA.trans hs2.out)
    clear hv hs1 hs2 HA HC
    go_wp2_with fail
    go_ret
    exact ⟨_, rfl, HV.out, HS⟩
  | false =>
    go_wp2_with fail
    have HA := Cs.alloc hs1.out.1 (.cells #[.int .i64 0, .int .i64 1, .int .i64 3, .int .i64 3] 2)
    refine (l1Below_c HD.out 4 (by omega) _ HA.1).mono ?_
    rintro e w2 ⟨x, rfl, ⟨hx0, hx1⟩, hs2⟩
    obtain ⟨k, rfl⟩ := Int.eq_ofNat_of_zero_le hx0
    obtain ⟨v, hv, hcell⟩ := few_ints [0, 1, 3, 3] 2 (hs2.out.keep (heap_alloc_new _ _) (Nat.ne_of_gt hs1.out.1.lt)) (by decide) (k := k) (by simp; omega)
    have HV : Hid ((Lit.int .i64 v).wf = true) := hv
    have HS : Hid (Cs w0 g a n cap w w2) := hs1.out.trans (HA.trans hs2.out)
    clear hv hs1 hs2 HA HC
    go_wp2_with fail
    go_ret
    exact ⟨_, rfl, HV.out, HS⟩

theorem U0 : U 0 := ⟨by decide, by decide⟩

theorem zeros_at (m j : Nat) : (List.replicate m (0 : Int)).getD j 0 = 0 := by
  by_cases hj : j < m
  · simp [List.getD, hj]
  · simp [List.getD, hj]

theorem zeros_U (j : Nat) : U ((List.replicate 22 (0 : Int)).getD j 0) := by
  rw [zeros_at]; exact U0

theorem l4Legal_U (p x : Int) (h : U x) (w : World) : Calls Tryd.prog 62 #[.int .i64 p, .int .u64 x] w fun e w' => ∃ v, e = .returned (.int .u64 v) ∧ Hid (U v) ∧ w' = w :=
  (l4Legal_any p x w).mono fun e w' h2 => ⟨_, h2.1, U_legal p x h, h2.2⟩

set_option maxRecDepth 20000 in
set_option maxHeartbeats 6400000 in
theorem l4DrawCsrs_c {w0 : World} {g : Nat} {a : Option Addr} {n cap : Nat} {zs : List Int} (hcd : Code w0 a n zs) (w : World) (hc : Cur w0 w g a n cap) :
    Calls Tryd.prog 79 #[.pointer (some ⟨g, 0, none⟩)] w fun e w' => e = .returned (.slice (some ⟨w.heap.size, 0, none⟩) 22 22) ∧ Hid (Rg w0 g a n cap w w') := by
  have HD : Hid (Code w0 a n zs) := hcd
  have HC : Hid (Cur w0 w g a n cap) := hc
  clear hcd hc
  go_enter Tryd.func79, Tryd.ntmps79
  go_wp2_with fail
  refine (specNewCsrs_any _).mono ?_
  rintro e w1 ⟨rfl, ho1, hb1⟩
  have R1 : Hid (Rg w0 g a n cap w w1) := ⟨List.replicate 22 0, zeros_U, ho1, Cs.of_below HC.out hb1, HC.out.lt⟩
  clear ho1 hb1
  go_wp2_with fail
  refine (l1Below_c HD.out 16 (by omega) _ R1.out.cur).mono ?_
  rintro e w2 ⟨m, rfl, ⟨hm0, hm1⟩, hs2⟩
  have R2 : Hid (Rg w0 g a n cap w w2) := R1.out.next hs2.out
  obtain ⟨mm, rfl⟩ := Int.eq_ofNat_of_zero_le hm0
  clear R1 hs2
  go_wp2_with fail
  go_loopw [4] (fun i wr => ∃ k : Nat, k ≤ 16 ∧ i = .int .i64 k ∧ Hid (Rg w0 g a n cap w wr)) (fun i _ => (intOf i).toNat)
  case atStart => exact ⟨mm, by omega, rfl, R2⟩
  case round =>
    obtain ⟨k, hk, rfl, hR⟩ := hrel
    by_cases hlt : 0 < k
    · go_wp2_with fail
      refine (l1Below_c HD.out 22 (by omega) _ hR.out.cur).mono ?_
      rintro e w3 ⟨p, rfl, ⟨hp0, hp1⟩, hs3⟩
      have R3 : Hid (Rg w0 g a n cap w w3) := hR.out.next hs3.out
      obtain ⟨pp, rfl⟩ := Int.eq_ofNat_of_zero_le hp0
      clear hs3 hR
      go_wp2_with fail
      refine (l1DrawWord_c HD.out _ R3.out.cur).mono ?_
      rintro e w4 ⟨x, rfl, hx, hs4⟩
      have R4 : Hid (Rg w0 g a n cap w w4) := R3.out.next hs4.out
      have HX : Hid (U x) := hx
      clear hs4 R3 hx
      obtain ⟨j, rfl⟩ : ∃ j, k = j + 1 := ⟨k - 1, by omega⟩
      by_cases h4 : pp = 4 ∨ pp = 10
      · rcases h4 with rfl | rfl
        · go_wp2_with fail
          refine (l1Below_c HD.out 512 (by omega) _ R4.out.cur).mono ?_
          rintro e w5 ⟨y, rfl, ⟨hy0, hy1⟩, hs5⟩
          have R5 : Hid (Rg w0 g a n cap w w5) := R4.out.next hs5.out
          clear hs5 R4
          go_wp2_with fail
          refine (l1Below_c HD.out 2 (by omega) _ R5.out.cur).mono ?_
          rintro e w6 ⟨z, rfl, ⟨hz0, hz1⟩, hs6⟩
          have R6 : Hid (Rg w0 g a n cap w w6) := R5.out.next hs6.out
          clear hs6 R5 HX
          obtain ⟨v9, _, hc9, hf9⟩ := R6.out.cell 4 (by omega)
          go_wp2_with fail
          refine (l4Legal_U _ _ ?_ _).mono ?_
          · first | exact U_wrap _ | (constructor <;> omega)
          rintro e wl ⟨lv, rfl, HLV, hwl⟩
          have hwl2 := hwl.symm
          subst hwl2
          go_wp2_with fail
          go_roundw
          case rel => exact ⟨j, by omega, by go_num, R6.out.put 4 _ HLV.out⟩
          case measure => simp [intOf]
        · go_wp2_with fail
          refine (l1Below_c HD.out 512 (by omega) _ R4.out.cur).mono ?_
          rintro e w5 ⟨y, rfl, ⟨hy0, hy1⟩, hs5⟩
          have R5 : Hid (Rg w0 g a n cap w w5) := R4.out.next hs5.out
          clear hs5 R4
          go_wp2_with fail
          refine (l1Below_c HD.out 2 (by omega) _ R5.out.cur).mono ?_
          rintro e w6 ⟨z, rfl, ⟨hz0, hz1⟩, hs6⟩
          have R6 : Hid (Rg w0 g a n cap w w6) := R5.out.next hs6.out
          clear hs6 R5 HX
          obtain ⟨v9, _, hc9, hf9⟩ := R6.out.cell 10 (by omega)
          go_wp2_with fail
          refine (l4Legal_U _ _ ?_ _).mono ?_
          · first | exact U_wrap _ | (constructor <;> omega)
          rintro e wl ⟨lv, rfl, HLV, hwl⟩
          have hwl2 := hwl.symm
          subst hwl2
          go_wp2_with fail
          go_roundw
          case rel => exact ⟨j, by omega, by go_num, R6.out.put 10 _ HLV.out⟩
          case measure => simp [intOf]
      by_cases h16 : pp = 16
      · subst h16
        go_wp2_with fail
        go_loopw [6, 7] (fun y i wx => ∃ (q : Nat) (v : Int), q ≤ 4 ∧ y = .int .u64 v ∧ U v ∧ i = .int .i64 q ∧ Hid (Rg w0 g a n cap w wx)) (fun _ i _ => 4 - (intOf i).toNat)
        case atStart => exact ⟨0, 0, by omega, rfl, U0, rfl, R4⟩
        case round =>
          obtain ⟨q, v, hq, rfl, hv, rfl, hR⟩ := hrel
          have HVV : Hid (U v) := hv
          clear hv
          by_cases hq4 : q < 4
          · go_wp2_with fail
            have HA := Cs.alloc hR.out.cur (.cells #[.int .u64 0, .int .u64 15, .int .u64 31, .int .u64 27, .int .u64 25, .int .u64 7, .int .u64 24, .int .u64 159, .int .u64 143, .int .u64 153] 25)
            refine (l1Below_c HD.out 10 (by omega) _ HA.1).mono ?_
            rintro e w5 ⟨y, rfl, ⟨hy0, hy1⟩, hs5⟩
            obtain ⟨yy, rfl⟩ := Int.eq_ofNat_of_zero_le hy0
            obtain ⟨v2, hv2, hcell⟩ := few_words [0, 15, 31, 27, 25, 7, 24, 159, 143, 153] 25 (hs5.out.keep (heap_alloc_new _ _) (Nat.ne_of_gt hR.out.cur.lt)) (by intro x hx; simp at hx; constructor <;> omega) (k := yy) (by simp; omega)
            have R5 : Hid (Rg w0 g a n cap w w5) := (hR.out.next HA).next hs5.out
            clear hs5 hR HA hv2
            go_wp2_with fail
            go_roundw
            case rel => exact ⟨q + 1, _, by omega, rfl, U_bits _ _ _, by go_num, R5⟩
            case measure => simp [intOf]; omega
          · go_wp2_with fail
            refine (l1Once_c HD.out 3 (by omega) _ hR.out.cur).mono ?_
            rintro e w5 ⟨c, rfl, hs5⟩
            have R5 : Hid (Rg w0 g a n cap w w5) := hR.out.next hs5.out
            clear hs5 hR
            cases c with
            | true =>
                obtain ⟨v9, _, hc9, hf9⟩ := R5.out.cell 16 (by omega)
                go_wp2_with fail
                refine (l4Legal_U _ _ ?_ _).mono ?_
                · first | exact HVV.out | exact U_bits _ _ _
                rintro e wl ⟨lv, rfl, HLV, hwl⟩
                have hwl2 := hwl.symm
                subst hwl2
                go_wp2_with fail
                go_roundw
                case rel => exact ⟨j, by omega, by go_num, R5.out.put 16 _ HLV.out⟩
                case measure => simp [intOf]
              | false =>
                obtain ⟨v9, _, hc9, hf9⟩ := R5.out.cell 16 (by omega)
                go_wp2_with fail
                refine (l4Legal_U _ _ ?_ _).mono ?_
                · first | exact U_bits _ _ _ | exact HVV.out
                rintro e wl ⟨lv, rfl, HLV, hwl⟩
                have hwl2 := hwl.symm
                subst hwl2
                go_wp2_with fail
                go_roundw
                case rel => exact ⟨j, by omega, by go_num, R5.out.put 16 _ HLV.out⟩
                case measure => simp [intOf]
      by_cases h17 : pp = 17 ∨ pp = 18 ∨ pp = 19 ∨ pp = 20
      · rcases h17 with rfl | rfl | rfl | rfl
        · go_wp2_with fail
          refine (l1Below_c HD.out 2048 (by omega) _ R4.out.cur).mono ?_
          rintro e w5 ⟨y, rfl, ⟨hy0, hy1⟩, hs5⟩
          have R5 : Hid (Rg w0 g a n cap w w5) := R4.out.next hs5.out
          clear hs5 R4
          go_wp2_with fail
          refine (l1Once_c HD.out 2 (by omega) _ R5.out.cur).mono ?_
          rintro e w6 ⟨c, rfl, hs6⟩
          have R6 : Hid (Rg w0 g a n cap w w6) := R5.out.next hs6.out
          clear hs6 R5 HX
          cases c with
          | _ =>
            go_wp2_with fail
            refine (l1Once_c HD.out 3 (by omega) _ R6.out.cur).mono ?_
            rintro e w7 ⟨c, rfl, hs7⟩
            have R7 : Hid (Rg w0 g a n cap w w7) := R6.out.next hs7.out
            clear hs7 R6
            cases c with
            | _ =>
              obtain ⟨v9, _, hc9, hf9⟩ := R7.out.cell 17 (by omega)
              go_wp2_with fail
              refine (l4Legal_U _ _ ?_ _).mono ?_
              · first | exact U_wrap _ | (constructor <;> omega)
              rintro e wl ⟨lv, rfl, HLV, hwl⟩
              have hwl2 := hwl.symm
              subst hwl2
              go_wp2_with fail
              go_roundw
              case rel => exact ⟨j, by omega, by go_num, R7.out.put 17 _ HLV.out⟩
              case measure => simp [intOf]
        · go_wp2_with fail
          refine (l1Below_c HD.out 2048 (by omega) _ R4.out.cur).mono ?_
          rintro e w5 ⟨y, rfl, ⟨hy0, hy1⟩, hs5⟩
          have R5 : Hid (Rg w0 g a n cap w w5) := R4.out.next hs5.out
          clear hs5 R4
          go_wp2_with fail
          refine (l1Once_c HD.out 2 (by omega) _ R5.out.cur).mono ?_
          rintro e w6 ⟨c, rfl, hs6⟩
          have R6 : Hid (Rg w0 g a n cap w w6) := R5.out.next hs6.out
          clear hs6 R5 HX
          cases c with
          | _ =>
            go_wp2_with fail
            refine (l1Once_c HD.out 3 (by omega) _ R6.out.cur).mono ?_
            rintro e w7 ⟨c, rfl, hs7⟩
            have R7 : Hid (Rg w0 g a n cap w w7) := R6.out.next hs7.out
            clear hs7 R6
            cases c with
            | _ =>
              obtain ⟨v9, _, hc9, hf9⟩ := R7.out.cell 18 (by omega)
              go_wp2_with fail
              refine (l4Legal_U _ _ ?_ _).mono ?_
              · first | exact U_wrap _ | (constructor <;> omega)
              rintro e wl ⟨lv, rfl, HLV, hwl⟩
              have hwl2 := hwl.symm
              subst hwl2
              go_wp2_with fail
              go_roundw
              case rel => exact ⟨j, by omega, by go_num, R7.out.put 18 _ HLV.out⟩
              case measure => simp [intOf]
        · go_wp2_with fail
          refine (l1Below_c HD.out 2048 (by omega) _ R4.out.cur).mono ?_
          rintro e w5 ⟨y, rfl, ⟨hy0, hy1⟩, hs5⟩
          have R5 : Hid (Rg w0 g a n cap w w5) := R4.out.next hs5.out
          clear hs5 R4
          go_wp2_with fail
          refine (l1Once_c HD.out 2 (by omega) _ R5.out.cur).mono ?_
          rintro e w6 ⟨c, rfl, hs6⟩
          have R6 : Hid (Rg w0 g a n cap w w6) := R5.out.next hs6.out
          clear hs6 R5 HX
          cases c with
          | _ =>
            go_wp2_with fail
            refine (l1Once_c HD.out 3 (by omega) _ R6.out.cur).mono ?_
            rintro e w7 ⟨c, rfl, hs7⟩
            have R7 : Hid (Rg w0 g a n cap w w7) := R6.out.next hs7.out
            clear hs7 R6
            cases c with
            | _ =>
              obtain ⟨v9, _, hc9, hf9⟩ := R7.out.cell 19 (by omega)
              go_wp2_with fail
              refine (l4Legal_U _ _ ?_ _).mono ?_
              · first | exact U_wrap _ | (constructor <;> omega)
              rintro e wl ⟨lv, rfl, HLV, hwl⟩
              have hwl2 := hwl.symm
              subst hwl2
              go_wp2_with fail
              go_roundw
              case rel => exact ⟨j, by omega, by go_num, R7.out.put 19 _ HLV.out⟩
              case measure => simp [intOf]
        · go_wp2_with fail
          refine (l1Below_c HD.out 2048 (by omega) _ R4.out.cur).mono ?_
          rintro e w5 ⟨y, rfl, ⟨hy0, hy1⟩, hs5⟩
          have R5 : Hid (Rg w0 g a n cap w w5) := R4.out.next hs5.out
          clear hs5 R4
          go_wp2_with fail
          refine (l1Once_c HD.out 2 (by omega) _ R5.out.cur).mono ?_
          rintro e w6 ⟨c, rfl, hs6⟩
          have R6 : Hid (Rg w0 g a n cap w w6) := R5.out.next hs6.out
          clear hs6 R5 HX
          cases c with
          | _ =>
            go_wp2_with fail
            refine (l1Once_c HD.out 3 (by omega) _ R6.out.cur).mono ?_
            rintro e w7 ⟨c, rfl, hs7⟩
            have R7 : Hid (Rg w0 g a n cap w w7) := R6.out.next hs7.out
            clear hs7 R6
            cases c with
            | _ =>
              obtain ⟨v9, _, hc9, hf9⟩ := R7.out.cell 20 (by omega)
              go_wp2_with fail
              refine (l4Legal_U _ _ ?_ _).mono ?_
              · first | exact U_wrap _ | (constructor <;> omega)
              rintro e wl ⟨lv, rfl, HLV, hwl⟩
              have hwl2 := hwl.symm
              subst hwl2
              go_wp2_with fail
              go_roundw
              case rel => exact ⟨j, by omega, by go_num, R7.out.put 20 _ HLV.out⟩
              case measure => simp [intOf]
      by_cases h15 : pp = 15
      · subst h15
        go_wp2_with fail
        refine (l1Below_c HD.out 2 (by omega) _ R4.out.cur).mono ?_
        rintro e w5 ⟨y, rfl, ⟨hy0, hy1⟩, hs5⟩
        have R5 : Hid (Rg w0 g a n cap w w5) := R4.out.next hs5.out
        clear hs5 R4
        go_wp2_with fail
        refine (l1Below_c HD.out 2 (by omega) _ R5.out.cur).mono ?_
        rintro e w6 ⟨z, rfl, ⟨hz0, hz1⟩, hs6⟩
        have R6 : Hid (Rg w0 g a n cap w w6) := R5.out.next hs6.out
        clear hs6 R5 HX
        obtain ⟨v9, _, hc9, hf9⟩ := R6.out.cell 15 (by omega)
        go_wp2_with fail
        refine (l4Legal_U _ _ ?_ _).mono ?_
        · first | exact U_wrap _ | (constructor <;> omega)
        rintro e wl ⟨lv, rfl, HLV, hwl⟩
        have hwl2 := hwl.symm
        subst hwl2
        go_wp2_with fail
        go_roundw
        case rel => exact ⟨j, by omega, by go_num, R6.out.put 15 _ HLV.out⟩
        case measure => simp [intOf]
      have d4 : ((pp : Int) == 4) = false := by simp; omega
      have d10 : ((pp : Int) == 10) = false := by simp; omega
      have d16 : ((pp : Int) == 16) = false := by simp; omega
      have d17 : ((pp : Int) == 17) = false := by simp; omega
      have d18 : ((pp : Int) == 18) = false := by simp; omega
      have d19 : ((pp : Int) == 19) = false := by simp; omega
      have d20 : ((pp : Int) == 20) = false := by simp; omega
      have d15 : ((pp : Int) == 15) = false := by simp; omega
      by_cases h9 : pp = 9
      · subst h9
        clear h4 h16 h17 h15
        obtain ⟨v9, _, hc9, hf9⟩ := R4.out.cell 9 (by omega)
        go_wp2_with fail
        go_roundw
        case rel => exact ⟨j, by omega, by go_num, R4.out.put 9 _ (U_bits _ _ _)⟩
        case measure => simp [intOf]
      · have d9 : ((pp : Int) == 9) = false := by simp; omega
        have hp22 : pp < 22 := by omega
        clear h4 h16 h17 h15 h9
        obtain ⟨v9, _, hc9, hf9⟩ := R4.out.cell pp (by omega)
        go_wp2_with fail
        refine (l4Legal_U _ _ ?_ _).mono ?_
        · exact HX.out
        rintro e wl ⟨lv, rfl, HLV, hwl⟩
        have hwl2 := hwl.symm
        subst hwl2
        go_wp2_with fail
        go_roundw
        case rel => exact ⟨j, by omega, by go_num, R4.out.put pp _ HLV.out⟩
        case measure => simp [intOf]
    · have hk0 : k = 0 := by omega
      subst hk0
      go_wp2_with fail
      go_ret
      exact ⟨rfl, hR⟩

end Go.Proofs.YtldjmphflgecjacDoor

namespace Go.Proofs.YtldjmphflgecjacDoor
open Go.RowKit
set_option linter.unusedVariables false

/-- The slice that l4DrawAny hands back: all of it, or all but the first. -/
def anyV (w : World) (s : Bool) : Value := if s = true then .slice (some ⟨w.heap.size, 1, none⟩) 21 21 else .slice (some ⟨w.heap.size, 0, none⟩) 22 22

set_option maxHeartbeats 3200000 in
theorem l4DrawAny_c {w0 : World} {g : Nat} {a : Option Addr} {n cap : Nat} {zs : List Int} (hcd : Code w0 a n zs) (w : World) (hc : Cur w0 w g a n cap) :
    Calls Tryd.prog 54 #[.pointer (some ⟨g, 0, none⟩)] w fun e w' => ∃ s : Bool, e = .returned (anyV w s) ∧ Hid (Rg w0 g a n cap w w') := by
  have HD : Hid (Code w0 a n zs) := hcd
  have HC : Hid (Cur w0 w g a n cap) := hc
  have FT : Hid (anyV w true = .slice (some ⟨w.heap.size, 1, none⟩) 21 21) := (rfl : anyV w true = _)
  have FF : Hid (anyV w false = .slice (some ⟨w.heap.size, 0, none⟩) 22 22) := (rfl : anyV w false = _)
  clear hcd hc
  go_enter Tryd.func54, Tryd.ntmps54
  go_wp2_with fail
  refine (l4DrawCsrs_c HD.out _ HC.out).mono ?_
  rintro e w1 ⟨rfl, R1⟩
  go_wp2_with fail
  refine (l1Once_c HD.out 14 (by omega) _ R1.out.cur).mono ?_
  rintro e w2 ⟨c, rfl, hs2⟩
  have R2 : Hid (Rg w0 g a n cap w w2) := R1.out.next hs2.out
  clear R1 hs2
  cases c with
  | false =>
    go_wp2_with fail
    go_ret
    exact ⟨false, by rw [FF.out]; rfl, R2⟩
  | true =>
    go_wp2_with fail
    refine (l1Below_c HD.out 3 (by omega) _ R2.out.cur).mono ?_
    rintro e w3 ⟨x, rfl, ⟨hx0, hx1⟩, hs3⟩
    have R3 : Hid (Rg w0 g a n cap w w3) := R2.out.next hs3.out
    clear R2 hs3
    obtain ⟨k, rfl⟩ := Int.eq_ofNat_of_zero_le hx0
    match k, hx1 with
    | 0, _ =>
      go_wp2_with fail
      go_ret
      exact ⟨true, by rw [FT.out]; rfl, R3⟩
    | 1, _ =>
      go_wp2_with fail
      refine (l1Below_c HD.out 22 (by omega) _ R3.out.cur).mono ?_
      rintro e w4 ⟨x, rfl, ⟨hx0, hx1⟩, hs4⟩
      have R4 : Hid (Rg w0 g a n cap w w4) := R3.out.next hs4.out
      clear R3 hs4
      obtain ⟨k, rfl⟩ := Int.eq_ofNat_of_zero_le hx0
      go_wp2_with fail
      refine (l1DrawWord_c HD.out _ R4.out.cur).mono ?_
      rintro e w5 ⟨y, rfl, hy, hs5⟩
      have R5 : Hid (Rg w0 g a n cap w w5) := R4.out.next hs5.out
      have HY : Hid (U y) := hy
      clear R4 hs5 hy
      obtain ⟨v9, _, hc9, hf9⟩ := R5.out.cell k (by omega)
      go_wp2_with fail
      go_ret
      exact ⟨false, by rw [FF.out]; rfl, R5.out.put k _ HY.out⟩
    | 2, _ =>
      obtain ⟨v9, _, hc9, hf9⟩ := R3.out.cell 9 (by omega)
      go_wp2_with fail
      go_ret
      exact ⟨false, by rw [FF.out]; rfl, R3.out.put 9 _ (U_bits _ _ _)⟩
    | k + 3, h => exact absurd h (by omega)

/-- What is drawn, as its users see it: a list of words, memory of its own. -/
theorem any_list {w0 : World} {g : Nat} {a : Option Addr} {n cap : Nat} {w wr : World} (h : Rg w0 g a n cap w wr) (s : Bool) : ∃ (b : Option Addr) (m c : Nat) (l : List Int), anyV w s = .slice b m c ∧ l.length = m ∧ m ≤ 22 ∧ (∀ j, U (l.getD j 0)) ∧ Sl .u64 wr b l := by
  obtain ⟨⟨zs, h1, h2, h3⟩, ys, k1, k2, k3⟩ := h.sl
  cases s with
  | true => exact ⟨_, _, _, ys, rfl, k1, by omega, k2, k3⟩
  | false => exact ⟨_, _, _, zs, rfl, h1, by omega, h2, h3⟩

theorem results_tmp4 {fn : Func} {t u v x : Tmp} (h : fn.results = #[.tmp t, .tmp u, .tmp v, .tmp x]) (tmps : Array Value) (P : Program) (w : World) :
    (results fn tmps).run P w = .ok (.tuple #[tmps.getD t undef, tmps.getD u undef, tmps.getD v undef, tmps.getD x undef]) w := by
  simp only [results, h]
  simp

end Go.Proofs.YtldjmphflgecjacDoor
