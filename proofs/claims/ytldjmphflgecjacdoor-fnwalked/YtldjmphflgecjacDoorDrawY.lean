/- The draws of chapter 7: a memory with tables; all that a walk takes. By tools/genDrawX.py. -/
import Derived.Test.YtldjmphflgecjacDoorDrawX
namespace Go.Proofs.YtldjmphflgecjacDoor
open Go.RowKit
set_option linter.unusedVariables false

set_option maxRecDepth 100000 in
set_option maxHeartbeats 6400000 in
theorem l7DrawTables_c {w0 : World} {g : Nat} {a : Option Addr} {n cap : Nat} {zs : List Int} (hcd : Code w0 a n zs) (wB w : World) (b m : Nat) (h : Rm w0 g a n cap wB b m w) (hm : ramOkB m = true) :
    Calls Tryd.prog 40 #[.pointer (some ⟨g, 0, none⟩), .slice (some ⟨b, 0, none⟩) m m] w fun e w' => e = .returned (.tuple #[]) ∧ Hid (Rm w0 g a n cap wB b m w') := by
  have HD : Hid (Code w0 a n zs) := hcd
  have R0 : Hid (Rm w0 g a n cap wB b m w) := h
  obtain ⟨q, hq, hq1, hq2⟩ : ∃ q : Nat, m = 4096 * q ∧ 1 ≤ q ∧ q ≤ 16 := by
    have h2 : 4096 ≤ m ∧ m ≤ 65536 ∧ m % 4096 = 0 := by simpa [ramOkB] using hm
    exact ⟨m / 4096, by omega, by omega, by omega⟩
  have HQ : Hid (m = 4096 * q ∧ 1 ≤ q ∧ q ≤ 16) := ⟨hq, hq1, hq2⟩
  have hqm : (m : Int) / 4096 = (q : Int) := by omega
  clear hcd h hm hq
  go_enter Tryd.func40, Tryd.ntmps40
  go_wp2_with fail
  refine (l1Below_c HD.out 5 (by omega) _ R0.out.cur).mono ?_
  rintro e w1 ⟨i, rfl, ⟨hi0, hi1⟩, hs⟩
  have R1 : Hid (Rm w0 g a n cap wB b m w1) := R0.out.next hs.out
  clear hs
  obtain ⟨ni, rfl⟩ := Int.eq_ofNat_of_zero_le hi0
  clear R0
  go_wp2_with fail
  go_loopw [6] (fun i wr => ∃ k : Nat, i = .int .i64 k ∧ k ≤ 4 ∧ Hid (Rm w0 g a n cap wB b m wr)) (fun i _ => (intOf i).toNat)
  case atStart => exact ⟨ni, rfl, by omega, R1⟩
  case round =>
    obtain ⟨k, rfl, hk4, R2⟩ := hrel
    by_cases hk : 0 < k
    · have dk : decide ((k : Int) > 0) = true := by simp; omega
      have hk1 : wrap64 ((k : Int) - 1) = ((k - 1 : Nat) : Int) := by unfold wrap64; omega
      have hk2 : (k : Int) - 1 = ((k - 1 : Nat) : Int) := by omega
      go_wp2_with fail
      refine (l1Below_c HD.out 4 (by omega) _ R2.out.cur).mono ?_
      rintro e w3 ⟨s, rfl, ⟨hs0, hs1⟩, hs⟩
      have R3a : Hid (Rm w0 g a n cap wB b m w3) := R2.out.next hs.out
      clear hs
      obtain ⟨ns, rfl⟩ := Int.eq_ofNat_of_zero_le hs0
      go_wp2_with fail
      refine (l1Once_c HD.out 6 (by omega) _ R3a.out.cur).mono ?_
      rintro e w3b ⟨c3, rfl, hs⟩
      have R3 : Hid (Rm w0 g a n cap wB b m w3b) := R3a.out.next hs.out
      clear hs
      clear R2 R3a
      go_upto_if 24 with fail
      go_cut [7] from 17 to 71 (fun s7 wc => ∃ ns : Nat, s7 = .int .i64 (ns : Int) ∧ ns < 512 ∧ Hid (Rm w0 g a n cap wB b m wc))
      case first =>
        cases c3 with
        | true =>
          go_wp2_with fail
          refine (l1Below_c HD.out 512 (by omega) _ R3.out.cur).mono ?_
          rintro e w3c ⟨t, rfl, ⟨ht0, ht1⟩, hs⟩
          have R3c : Hid (Rm w0 g a n cap wB b m w3c) := R3.out.next hs.out
          clear hs
          obtain ⟨nt, rfl⟩ := Int.eq_ofNat_of_zero_le ht0
          go_wp2_with fail
          go_meet
          exact ⟨nt, rfl, by omega, R3c⟩
        | false =>
          go_wp2_with fail
          go_meet
          exact ⟨ns, rfl, by omega, R3⟩
      case rest =>
        obtain ⟨nt, rfl, hnt, R3⟩ := hcut
        go_wp2_with fail
        have HA := Cs.alloc R3.out.cur (.cells #[.int .i64 1, .int .i64 15, .int .i64 207, .int .i64 223, .int .i64 31, .int .i64 239, .int .i64 199, .int .i64 1, .int .i64 71, .int .i64 217, .int .i64 203, .int .i64 5, .int .i64 17] 2)
        refine (l1Below_c HD.out 13 (by omega) _ HA.1).mono ?_
        rintro e w4 ⟨x4, rfl, ⟨h40, h41⟩, hs4⟩
        obtain ⟨n4, rfl⟩ := Int.eq_ofNat_of_zero_le h40
        obtain ⟨v, hv, hcell⟩ := few_ints [1, 15, 207, 223, 31, 239, 199, 1, 71, 217, 203, 5, 17] 2 (hs4.out.keep (heap_alloc_new _ _) (Nat.ne_of_gt R3.out.cur.lt)) (by decide) (k := n4) (by simp; omega)
        have R4 : Hid (Rm w0 g a n cap wB b m w4) := R3.out.next (HA.trans hs4.out)
        clear hv hs4 HA R3
        go_wp2_with fail
        refine (l1Below_c HD.out (q : Int) (by omega) _ R4.out.cur).mono ?_
        rintro e w5 ⟨f, rfl, ⟨hf0, hf1⟩, hs⟩
        have R5 : Hid (Rm w0 g a n cap wB b m w5) := R4.out.next hs.out
        clear hs
        obtain ⟨nf, rfl⟩ := Int.eq_ofNat_of_zero_le hf0
        have f1 : IntKind.u64.wrap (nf : Int) = (nf : Int) := by have := HQ.out; rw [IntKind.wrap_u64]; omega
        clear R4 hcell
        go_upto_region 10 with fail
        go_cut [43] from 17 to 71 (fun s43 wc => ∃ c : Bool, s43 = .bool c ∧ Hid (Rm w0 g a n cap wB b m wc))
        case first =>
          cases hb : (v != 1) with
          | true =>
            go_wp2_with fail
            refine (l1Once_c HD.out 2 (by omega) _ R5.out.cur).mono ?_
            rintro e w6 ⟨c6, rfl, hs⟩
            have R6 : Hid (Rm w0 g a n cap wB b m w6) := R5.out.next hs.out
            clear hs
            go_wp2_with fail
            go_meet
            exact ⟨c6, rfl, R6⟩
          | false =>
            go_wp2_with fail
            go_meet
            exact ⟨false, rfl, R5⟩
        case rest =>
          obtain ⟨c6, rfl, R6⟩ := hcut
          clear R5
          go_upto_if 43 with fail
          go_cut [9] from 17 to 71 (fun s9 wc => ∃ fv : Int, s9 = .int .u64 fv ∧ Hid (Rm w0 g a n cap wB b m wc))
          case first =>
            cases c6 with
            | true =>
              go_wp2_with fail
              go_meet
              exact ⟨_, rfl, R6⟩
            | false =>
              go_wp2_with fail
              go_meet
              exact ⟨_, rfl, R6⟩
          case rest =>
            obtain ⟨fv, rfl, R6b⟩ := hcut
            clear R6
            go_wp2_with fail
            refine (specEntry_any _ _ _).mono ?_
            rintro e wx ⟨rfl, hwx⟩
            have hwy := hwx.symm
            subst hwy
            have HE : Hid (U (entryV fv v)) := U_entry _ _
            generalize entryV fv v = ev at *
            go_wp2_with fail
            refine (l1Once_c HD.out 30 (by omega) _ R6b.out.cur).mono ?_
            rintro e w7 ⟨c7, rfl, hs⟩
            have R7 : Hid (Rm w0 g a n cap wB b m w7) := R6b.out.next hs.out
            clear hs
            clear R6b
            go_upto_if 50 with fail
            go_cut [10] from 17 to 71 (fun s10 wc => ∃ ev : Int, s10 = .int .u64 ev ∧ Hid (U ev) ∧ Hid (Rm w0 g a n cap wB b m wc))
            case first =>
              cases c7 with
              | true =>
                go_wp2_with fail
                refine (l1Below_c HD.out 10 (by omega) _ R7.out.cur).mono ?_
                rintro e w8 ⟨z, rfl, ⟨hz0, hz1⟩, hs⟩
                have R8 : Hid (Rm w0 g a n cap wB b m w8) := R7.out.next hs.out
                clear hs
                obtain ⟨nz, rfl⟩ := Int.eq_ofNat_of_zero_le hz0
                have hz : nz = 0 ∨ nz = 1 ∨ nz = 2 ∨ nz = 3 ∨ nz = 4 ∨ nz = 5 ∨ nz = 6 ∨ nz = 7 ∨ nz = 8 ∨ nz = 9 := by omega
                clear hz0 hz1
                rcases hz with rfl | rfl | rfl | rfl | rfl | rfl | rfl | rfl | rfl | rfl
                all_goals (go_wp2_with fail; go_meet; exact ⟨_, rfl, U_bits _ _ _, R8⟩)
              | false =>
                go_wp2_with fail
                go_meet
                exact ⟨ev, rfl, HE, R7⟩
            case rest =>
              obtain ⟨ew, rfl, HEW, R8⟩ := hcut
              clear R7 HE
              go_wp2_with fail
              refine (l1Below_c HD.out (q : Int) (by omega) _ R8.out.cur).mono ?_
              rintro e w9 ⟨y, rfl, ⟨hy0, hy1⟩, hs⟩
              have R9 : Hid (Rm w0 g a n cap wB b m w9) := R8.out.next hs.out
              clear hs
              obtain ⟨ny, rfl⟩ := Int.eq_ofNat_of_zero_le hy0
              have HP : Hid (∀ v : Int, U v → Calls Tryd.prog 52 #[.slice (some ⟨b, 0, none⟩) m m, .int .u64 (2147483648 + ((8 * nt + 4096 * ny : Nat) : Int)), .int .i64 8, .int .u64 v] w9 fun e w' => e = .returned (.tuple #[]) ∧ Hid (Rm w0 g a n cap wB b m w')) := fun v hv => rm_word R9.out (8 * nt + 4096 * ny) v hv (by have := HQ.out; omega) (by have := HQ.out; omega)
              have a1 : IntKind.u64.wrap (8 * (nt : Int)) = 8 * (nt : Int) := by rw [IntKind.wrap_u64]; omega
              have a2 : IntKind.u64.wrap (ny : Int) = (ny : Int) := by rw [IntKind.wrap_u64]; omega
              have a3 : IntKind.u64.wrap (4096 * (ny : Int)) = 4096 * (ny : Int) := by have := HQ.out; rw [IntKind.wrap_u64]; omega
              have a4 : IntKind.u64.wrap (8 * (nt : Int) + 4096 * (ny : Int)) = 8 * (nt : Int) + 4096 * (ny : Int) := by have := HQ.out; rw [IntKind.wrap_u64]; omega
              have a5 : IntKind.u64.wrap (2147483648 + (8 * (nt : Int) + 4096 * (ny : Int))) = 2147483648 + ((8 * nt + 4096 * ny : Nat) : Int) := by have := HQ.out; rw [IntKind.wrap_u64]; omega
              clear R8
              go_wp2_with fail
              refine (HP.out _ HEW.out).mono ?_
              rintro e w10 ⟨rfl, R10⟩
              clear HP R9
              go_wp2_with fail
              go_roundw
              case rel => exact ⟨k - 1, rfl, by omega, R10⟩
              case measure => simp [intOf]; omega
    · have dk : decide ((k : Int) > 0) = false := by simp; omega
      go_wp2_with fail
      go_end0
      exact ⟨rfl, R2⟩

theorem ram_five (p : Int) (hp : (Lit.int .i64 p).wf = true) : ∀ x ∈ ([0, 1, 1, 3, p] : List Int), (Lit.int .i64 x).wf = true := by
  intro x hx
  simp only [List.mem_cons, List.not_mem_nil, or_false] at hx
  rcases hx with rfl | rfl | rfl | rfl | rfl
  · decide
  · decide
  · decide
  · decide
  · exact hp

set_option maxRecDepth 100000 in
set_option maxHeartbeats 3200000 in
theorem DrawWalk_c {a : Option Addr} {n : Nat} (cap : Nat) {zs : List Int} (w : World) (hcd : Code w a n zs) :
    Calls Tryd.prog 12 #[.slice a n cap] w fun e w' => ∃ (rb rm : Nat) (rs : List Int) (b : Option Addr) (m c : Nat) (l : List Int) (p x k : Int), e = .returned (.tuple #[.slice (some ⟨rb, 0, none⟩) rm rm, .slice b m c, .int .i64 p, .int .u64 x, .int .i64 k]) ∧ rs.length = rm ∧ rm ≤ 69632 ∧ Hid (∀ y ∈ rs, (Lit.int .u8 y).wf = true) ∧ Hid (Sl .u8 w' (some ⟨rb, 0, none⟩) rs) ∧ l.length = m ∧ m ≤ 22 ∧ Hid (∀ j, U (l.getD j 0)) ∧ Hid (Sl .u64 w' b l) ∧ Hid (U x) ∧ Hid (Below w.heap.size w w') := by
  have HD : Hid (Code w a n zs) := hcd
  clear hcd
  go_enter Tryd.func12, Tryd.ntmps12
  go_wp2_with fail
  refine (l1New_c cap _ HD.out).mono ?_
  rintro e w1 ⟨g, rfl, hc⟩
  go_wp2_with fail
  refine (l1DrawRam_c HD.out _ hc.out).mono ?_
  rintro e w2 ⟨rb, rm, rfl, hrm, M2⟩
  have HRM : Hid (rm ≤ 69632) := hrm
  go_wp2_with fail
  refine (specRamOk_any _ _ _ _ (by omega)).mono ?_
  rintro e w3 ⟨rfl, hw3⟩
  have hw3' := hw3.symm
  subst hw3'
  clear hc
  cases hok : ramOkB rm with
  | true =>
    go_wp2_with fail
    refine (l7DrawTables_c HD.out w1 _ rb rm M2.out hok).mono ?_
    rintro e w4 ⟨rfl, M4⟩
    clear M2
    go_wp2_with fail
    refine (l7DrawCsrs_c HD.out _ M4.out.cur).mono ?_
    rintro e w5 ⟨s, rfl, R5⟩
    have M5 : Hid (Rm w g a n cap w1 rb rm w5) := M4.out.next (Rg.cs R5.out)
    go_wp2_with fail
    refine (l4DrawPriv_c HD.out _ R5.out.cur).mono ?_
    rintro e w6 ⟨p, rfl, h6, hs6⟩
    have M6 : Hid (Rm w g a n cap w1 rb rm w6) := M5.out.next hs6.out
    have R6 : Hid (Rg w g a n cap w4 w6) := R5.out.next hs6.out
    have H6 : Hid ((Lit.int .i64 p).wf = true) := h6
    clear M4 M5 R5 hs6 h6
    go_wp2_with fail
    have HA := Cs.alloc R6.out.cur (.cells #[.int .i64 0, .int .i64 1, .int .i64 1, .int .i64 3, .int .i64 p] 2)
    refine (l1Below_c HD.out 5 (by omega) _ HA.1).mono ?_
    rintro e w7 ⟨x7, rfl, ⟨h0, h1⟩, hs7⟩
    obtain ⟨k7, rfl⟩ := Int.eq_ofNat_of_zero_le h0
    obtain ⟨v, hv, hcell⟩ := few_ints [0, 1, 1, 3, p] 2 (hs7.out.keep (heap_alloc_new _ _) (Nat.ne_of_gt R6.out.cur.lt)) (ram_five p H6.out) (k := k7) (by simp; omega)
    have M7 : Hid (Rm w g a n cap w1 rb rm w7) := M6.out.next (HA.trans hs7.out)
    have R7 : Hid (Rg w g a n cap w4 w7) := R6.out.next (HA.trans hs7.out)
    clear M6 R6 HA hs7 hv
    go_wp2_with fail
    refine (l7DrawVa_c HD.out _ R7.out.cur).mono ?_
    rintro e w8 ⟨x, rfl, HX, hs8⟩
    have M8 : Hid (Rm w g a n cap w1 rb rm w8) := M7.out.next hs8.out
    have R8 : Hid (Rg w g a n cap w4 w8) := R7.out.next hs8.out
    clear M7 R7 hs8 hcell
    go_wp2_with fail
    refine (l6DrawKind_c HD.out _ R8.out.cur).mono ?_
    rintro e w9 ⟨k, rfl, hs9⟩
    have M9 : Hid (Rm w g a n cap w1 rb rm w9) := M8.out.next hs9.out
    have R9 : Hid (Rg w g a n cap w4 w9) := R8.out.next hs9.out
    clear M8 R8 hs9
    obtain ⟨b, m, c, l, hv, hl, hm, hu, hsl⟩ := any_list R9.out s
    rw [hv]
    have HU : Hid (∀ j, U (l.getD j 0)) := hu
    have HSL : Hid (Sl .u64 w9 b l) := hsl
    clear hu hsl
    obtain ⟨rs, hr1, hr2, hr3⟩ := M9.out.sl
    have HR2 : Hid (∀ y ∈ rs, (Lit.int .u8 y).wf = true) := hr2
    have HR3 : Hid (Sl .u8 w9 (some ⟨rb, 0, none⟩) rs) := hr3
    clear hr2 hr3
    go_wp2_with fail
    refine bodyPost_ret (results_d5 Tryd.results12 _ _ _) rfl ?_
    exact ⟨rb, rm, rs, b, m, c, l, v, x, k, rfl, hr1, HRM.out, HR2, HR3, hl, hm, HU, HSL, HX, R9.out.cur.below⟩
  | false =>
    have M4 := M2
    clear M2
    go_wp2_with fail
    refine (l7DrawCsrs_c HD.out _ M4.out.cur).mono ?_
    rintro e w5 ⟨s, rfl, R5⟩
    have M5 : Hid (Rm w g a n cap w1 rb rm w5) := M4.out.next (Rg.cs R5.out)
    go_wp2_with fail
    refine (l4DrawPriv_c HD.out _ R5.out.cur).mono ?_
    rintro e w6 ⟨p, rfl, h6, hs6⟩
    have M6 : Hid (Rm w g a n cap w1 rb rm w6) := M5.out.next hs6.out
    have R6 : Hid (Rg w g a n cap w2 w6) := R5.out.next hs6.out
    have H6 : Hid ((Lit.int .i64 p).wf = true) := h6
    clear M4 M5 R5 hs6 h6
    go_wp2_with fail
    have HA := Cs.alloc R6.out.cur (.cells #[.int .i64 0, .int .i64 1, .int .i64 1, .int .i64 3, .int .i64 p] 2)
    refine (l1Below_c HD.out 5 (by omega) _ HA.1).mono ?_
    rintro e w7 ⟨x7, rfl, ⟨h0, h1⟩, hs7⟩
    obtain ⟨k7, rfl⟩ := Int.eq_ofNat_of_zero_le h0
    obtain ⟨v, hv, hcell⟩ := few_ints [0, 1, 1, 3, p] 2 (hs7.out.keep (heap_alloc_new _ _) (Nat.ne_of_gt R6.out.cur.lt)) (ram_five p H6.out) (k := k7) (by simp; omega)
    have M7 : Hid (Rm w g a n cap w1 rb rm w7) := M6.out.next (HA.trans hs7.out)
    have R7 : Hid (Rg w g a n cap w2 w7) := R6.out.next (HA.trans hs7.out)
    clear M6 R6 HA hs7 hv
    go_wp2_with fail
    refine (l7DrawVa_c HD.out _ R7.out.cur).mono ?_
    rintro e w8 ⟨x, rfl, HX, hs8⟩
    have M8 : Hid (Rm w g a n cap w1 rb rm w8) := M7.out.next hs8.out
    have R8 : Hid (Rg w g a n cap w2 w8) := R7.out.next hs8.out
    clear M7 R7 hs8 hcell
    go_wp2_with fail
    refine (l6DrawKind_c HD.out _ R8.out.cur).mono ?_
    rintro e w9 ⟨k, rfl, hs9⟩
    have M9 : Hid (Rm w g a n cap w1 rb rm w9) := M8.out.next hs9.out
    have R9 : Hid (Rg w g a n cap w2 w9) := R8.out.next hs9.out
    clear M8 R8 hs9
    obtain ⟨b, m, c, l, hv, hl, hm, hu, hsl⟩ := any_list R9.out s
    rw [hv]
    have HU : Hid (∀ j, U (l.getD j 0)) := hu
    have HSL : Hid (Sl .u64 w9 b l) := hsl
    clear hu hsl
    obtain ⟨rs, hr1, hr2, hr3⟩ := M9.out.sl
    have HR2 : Hid (∀ y ∈ rs, (Lit.int .u8 y).wf = true) := hr2
    have HR3 : Hid (Sl .u8 w9 (some ⟨rb, 0, none⟩) rs) := hr3
    clear hr2 hr3
    go_wp2_with fail
    refine bodyPost_ret (results_d5 Tryd.results12 _ _ _) rfl ?_
    exact ⟨rb, rm, rs, b, m, c, l, v, x, k, rfl, hr1, HRM.out, HR2, HR3, hl, hm, HU, HSL, HX, R9.out.cur.below⟩
end Go.Proofs.YtldjmphflgecjacDoor
