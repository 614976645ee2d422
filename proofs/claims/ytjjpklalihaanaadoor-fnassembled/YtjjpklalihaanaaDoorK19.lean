/- Own lemmas. -/
import Derived.Test.YtjjpklalihaanaaDoorK17
import Derived.Test.YtjjpklalihaanaaDoorK18
namespace Go.Proofs.YtjjpklalihaanaaDoor
open Go.RowKit
set_option linter.unusedVariables false

def strLen : Value → Nat
  | .string u => u.size
  | _ => 0

set_option maxRecDepth 20000 in
set_option maxHeartbeats 3200000 in
theorem DrawAssemble_c {a : Option Addr} {n : Nat} (cap : Nat) {zs : List Int} (hsh : ∀ i : Ins, i.wf → ∃ T : ByteArray, T.size ≤ 120 ∧ ∀ W : World, Calls Tryd.prog 15 #[i.val] W fun e w' => e = .returned (.string T) ∧ Below W.heap.size W w') (w : World) (hcd : Code w a n zs) :
    Calls Tryd.prog 5 #[.slice a n cap] w fun e w' => ∃ s : ByteArray, e = .returned (.string s) ∧ s.size ≤ 30000 ∧ Hid (Below w.heap.size w w') := by
  have HD : Hid (Code w a n zs) := hcd
  have HSH : Hid (∀ i : Ins, i.wf → ∃ T : ByteArray, T.size ≤ 120 ∧ ∀ W : World, Calls Tryd.prog 15 #[i.val] W fun e w' => e = .returned (.string T) ∧ Below W.heap.size W w') := hsh
  clear hcd hsh
  go_enter Tryd.func5, Tryd.ntmps5
  go_wp2_with fail
  refine (l1New_c cap _ HD.out).mono ?_
  rintro e w1 ⟨g, rfl, hc⟩
  go_wp2_with fail
  refine (l1Below_c HD.out 8 (by omega) _ hc.out).mono ?_
  rintro e w2 ⟨x9, rfl, ⟨hx9, hx8⟩, hs2⟩
  have C2 : Hid (Cur w w2 g a n cap) := hs2.out.1
  clear hs2 hc
  go_wp2_with fail
  go_loopw [4, 5] (fun sv nv wr => ∃ (s : ByteArray) (x : Int), sv = .string s ∧ nv = .int .i64 x ∧ 0 ≤ x ∧ (s.size : Int) + 130 * x ≤ 1040 ∧ Hid (Cur w wr g a n cap))
    (fun _ nv _ => (intOf nv).toNat)
  case atStart => exact ⟨_, x9, rfl, rfl, hx9, by show (0 : Int) + 130 * x9 ≤ 1040; omega, C2⟩
  case round =>
    clear C2 hx9 hx8
    obtain ⟨s, x, rfl, rfl, hx0, hsum, hC⟩ := hrel
    by_cases hgo : 0 < x
    · have hwx : wrap64 (x - 1) = x - 1 := by unfold wrap64; omega
      go_wp2_with fail
      refine (l2Draw_c HD.out _ hC.out).mono ?_
      rintro e w3 ⟨i, rfl, hwf, hs3⟩
      obtain ⟨T, hTl, HS0⟩ := HSH.out i hwf
      have HS : Hid (∀ W : World, Calls Tryd.prog 15 #[i.val] W fun e w' => e = .returned (.string T) ∧ Below W.heap.size W w') := HS0
      have C3 : Hid (Cur w w3 g a n cap) := hs3.out.1
      clear hs3 hC hwf HS0
      go_wp2_with fail
      refine (HS.out _).mono ?_
      rintro e w4 ⟨rfl, hb4⟩
      have C4 : Hid (Cur w w4 g a n cap) := (Cs.of_below C3.out hb4).1
      clear C3 hb4 HS
      have hg1 : ¬ 9223372036854775807 < s.size + T.size := by omega
      have hg2 : ¬ 9223372036854775807 < s.size + T.size + 1 := by omega
      go_wp2_with fail
      refine (l1Once_c HD.out 8 (by omega) _ C4.out).mono ?_
      rintro e w5 ⟨c, rfl, hs5⟩
      have C5 : Hid (Cur w w5 g a n cap) := hs5.out.1
      obtain ⟨S, hS0⟩ : ∃ S, S = s ++ T ++ ⟨#[10]⟩ := ⟨_, rfl⟩
      have hSl : S.size = s.size + T.size + 1 := by rw [hS0, ByteArray.size_append, ByteArray.size_append]; rfl
      rw [← hS0]
      clear hs5 C4 hS0
      cases c with
      | true =>
        go_wp2_with fail
        have HA := Cs.alloc C5.out (.cells #[.string ⟨#[35, 32, 110, 111, 116, 101, 10]⟩, .string ⟨#[10]⟩, .string ⟨#[35, 10]⟩] 9)
        refine (l1Below_c HD.out 3 (by omega) _ HA.1).mono ?_
        rintro e w6 ⟨y, rfl, ⟨hy0, hy1⟩, hs6⟩
        obtain ⟨k, rfl⟩ := Int.eq_ofNat_of_zero_le hy0
        have hrow := hs6.out.keep (heap_alloc_new _ _) (Nat.ne_of_gt C5.out.lt)
        have hk3 : k < 3 := by omega
        obtain ⟨T2, hT2, hcell⟩ : ∃ T2 : ByteArray, T2.size ≤ 7 ∧ w6.cell? ⟨w5.heap.size, k, none⟩ = some (.string T2) := by
          unfold World.cell?
          rw [hrow]
          have : k = 0 ∨ k = 1 ∨ k = 2 := by omega
          rcases this with rfl | rfl | rfl
          · exact ⟨_, by decide, rfl⟩
          · exact ⟨_, by decide, rfl⟩
          · exact ⟨_, by decide, rfl⟩
        have C6 : Hid (Cur w w6 g a n cap) := (HA.trans hs6.out).1
        have hk3i : (k : Int) < 3 := by omega
        have hg3 : ¬ 9223372036854775807 < S.size + T2.size := by omega
        have hSl2 : (S ++ T2).size = S.size + T2.size := ByteArray.size_append
        clear hrow hs6 HA C5
        go_wp2_with fail
        go_roundw
        case rel => exact ⟨S ++ T2, x - 1, rfl, rfl, by omega, by omega, C6⟩
        case measure => simp [intOf]; omega
      | false =>
        go_wp2_with fail
        go_roundw
        case rel => exact ⟨S, x - 1, rfl, rfl, by omega, by omega, C5⟩
        case measure => simp [intOf]; omega
    · go_wp2_with fail
      refine (l1Once_c HD.out 4 (by omega) _ hC.out).mono ?_
      rintro e w3 ⟨c, rfl, hs3⟩
      have C3 : Hid (Cur w w3 g a n cap) := hs3.out.1
      clear hs3 hC
      cases c
      case' true =>
        go_wp2_with fail
        refine (l13Bend_c HD.out s (by omega) _ C3.out).mono ?_
        rintro e w4 ⟨t, rfl, htl, hs4⟩
        have C4 : Hid (Cur w w4 g a n cap) := hs4.out.1
        have htl2 : t.size ≤ 2000 := by omega
        clear hs4 C3 htl hsum
        go_wp2_with fail
      case' false =>
        go_wp2_with fail
        have htl2 : s.size ≤ 2000 := by omega
        have C4 := C3
        clear C3 hsum
        generalize s = t at *
        generalize w3 = w4 at *
      all_goals refine (l1Once_c HD.out 60 (by omega) _ C4.out).mono ?_
      all_goals rintro e w5 ⟨c, rfl, hs5⟩
      all_goals have C5 : Hid (Cur w w5 g a n cap) := hs5.out.1
      all_goals clear hs5 C4
      all_goals cases c
      case false =>
        go_wp2_with fail
        go_ret
        exact ⟨t, rfl, by omega, C5.out.below⟩
      case true =>
        go_wp2_with fail
        go_loopw [4] (fun sv wr => ∃ u : ByteArray, sv = .string u ∧ u.size ≤ 20000 ∧ Hid (Cur w wr g a n cap))
          (fun sv _ => 20001 - strLen sv)
        case atStart => exact ⟨_, rfl, by decide, C5⟩
        case round =>
          clear C5 htl2
          obtain ⟨u, rfl, hul, hCu⟩ := hrel
          go_wp2_with fail
          refine (l1Below_c HD.out 2 (by omega) _ hCu.out).mono ?_
          rintro e w6 ⟨y, rfl, ⟨hy0, hy1⟩, hs6⟩
          have C6 : Hid (Cur w w6 g a n cap) := hs6.out.1
          have hwy : wrap64 (19999 + y) = 19999 + y := by unfold wrap64; omega
          have hg4 : ¬ 9223372036854775807 < u.size + 1 := by omega
          clear hs6 hCu
          by_cases hlt : (u.size : Int) < 19999 + y
          · have hul2 : (u ++ ⟨#[120]⟩).size = u.size + 1 := by rw [ByteArray.size_append]; rfl
            go_wp2_with fail
            go_roundw
            case rel => exact ⟨u ++ ⟨#[120]⟩, rfl, by omega, C6⟩
            case measure => simp [strLen, hul2]; omega
          · have hul2 : (u ++ ⟨#[10]⟩).size = u.size + 1 := by rw [ByteArray.size_append]; rfl
            go_wp2_with fail
            go_ret
            exact ⟨u ++ ⟨#[10]⟩, rfl, by omega, C6.out.below⟩
      case false =>
        go_wp2_with fail
        go_ret
        exact ⟨t, rfl, by omega, C5.out.below⟩
      case true =>
        go_wp2_with fail
        go_loopw [4] (fun sv wr => ∃ u : ByteArray, sv = .string u ∧ u.size ≤ 20000 ∧ Hid (Cur w wr g a n cap))
          (fun sv _ => 20001 - strLen sv)
        case atStart => exact ⟨_, rfl, by decide, C5⟩
        case round =>
          clear C5 htl2
          obtain ⟨u, rfl, hul, hCu⟩ := hrel
          go_wp2_with fail
          refine (l1Below_c HD.out 2 (by omega) _ hCu.out).mono ?_
          rintro e w6 ⟨y, rfl, ⟨hy0, hy1⟩, hs6⟩
          have C6 : Hid (Cur w w6 g a n cap) := hs6.out.1
          have hwy : wrap64 (19999 + y) = 19999 + y := by unfold wrap64; omega
          have hg4 : ¬ 9223372036854775807 < u.size + 1 := by omega
          clear hs6 hCu
          by_cases hlt : (u.size : Int) < 19999 + y
          · have hul2 : (u ++ ⟨#[120]⟩).size = u.size + 1 := by rw [ByteArray.size_append]; rfl
            go_wp2_with fail
            go_roundw
            case rel => exact ⟨u ++ ⟨#[120]⟩, rfl, by omega, C6⟩
            case measure => simp [strLen, hul2]; omega
          · have hul2 : (u ++ ⟨#[10]⟩).size = u.size + 1 := by rw [ByteArray.size_append]; rfl
            go_wp2_with fail
            go_ret
            exact ⟨u ++ ⟨#[10]⟩, rfl, by omega, C6.out.below⟩

end Go.Proofs.YtjjpklalihaanaaDoor
