/- The walk of laws.FnParsed: what is shown is parsed again, and both parse a bent text alike. -/
import Derived.Test.YtjoaccdbiomdjaaDoorRDrwP
import Derived.Test.YtjoaccdbiomdjaaDoorRLawDecoded
import Derived.Test.YtjoaccdbiomdjaaDoorRLawExactParse
namespace Go.Proofs.YtjoaccdbiomdjaaDoorR.fnParsed
open Go.RowKit
set_option linter.unusedVariables false

/-- What is shown is parsed to itself. -/
theorem shown_pr {i : Ins} (h : IW i) (hn : showL i ≠ []) : PR (showL i) i true := by
  unfold showL at hn ⊢
  split
  · rename_i he
    exact .inl ⟨rfl, h, he, rfl⟩
  · rename_i he
    rw [if_neg he] at hn
    exact absurd rfl hn

set_option maxRecDepth 20000 in
set_option maxHeartbeats 6400000 in
theorem walk (a0 : Option Addr) (len0 cap0 : Nat) (z0 : List Int) (w : World) (w0 : IsRow .u8 w a0 len0 cap0 z0) (hT : Tp w) :
    Calls Tryd.prog 6 #[.slice a0 len0 cap0] w fun e w' => e = .returned (.bool true) ∧ Below w.heap.size w w' := by
  by_cases hbig : 4096 < len0
  · have hb : decide (4096 < len0) = true := by simpa using hbig
    go_enter Tryd.func6, Tryd.ntmps6
    go_wp2_with fail
    refine (big_any a0 len0 cap0 _).mono ?_
    rintro e w1 ⟨rfl, hw1⟩
    subst hw1
    rw [hb]
    go_wp2_with fail
    go_ret
    exact ⟨rfl, Below.refl _ _⟩
  · have hb : decide (4096 < len0) = false := by simpa using hbig
    obtain ⟨zs, hcd⟩ := code_of w0 (by omega)
    have HD : Hid (Code w a0 len0 zs) := hcd
    have HTp : Hid (Tp w) := hT
    have hguard := inst_guard
    clear hcd w0 hbig hT
    go_enter Tryd.func6, Tryd.ntmps6
    go_wp2_with fail
    refine (big_any a0 len0 cap0 _).mono ?_
    rintro e w1 ⟨rfl, hw1⟩
    have hw1' := hw1.symm
    subst hw1'
    rw [hb]
    clear hb
    go_wp2_with fail
    refine (DrawShow_c cap0 _ HD.out).mono ?_
    rintro e w2 ⟨⟨o0, o1, o2, o3, o4⟩, rfl, hwf, HB2⟩
    simp only [Ins.val]
    obtain ⟨T, hT0⟩ : ∃ T : ByteArray, T = ⟨(showL ⟨o0, o1, o2, o3, o4⟩).toArray⟩ := ⟨_, rfl⟩
    have HS : Hid (∀ W : World, Calls Tryd.prog 7 #[.agg #[.int .i64 o0, .int .i64 o1, .int .i64 o2, .int .i64 o3, .int .i64 o4]] W fun e w' => e = .returned (.string T) ∧ Below W.heap.size W w') := fun W => by rw [hT0]; exact specShow_any ⟨o0, o1, o2, o3, o4⟩ hwf W
    have HI : Hid (∀ W : World, Tp W → Calls Tryd.prog 9 #[.agg #[.int .i64 o0, .int .i64 o1, .int .i64 o2, .int .i64 o3, .int .i64 o4]] W fun e w' => e = .returned (.string T) ∧ Below W.heap.size W w') := fun W hW => by rw [hT0]; exact implShow_any ⟨o0, o1, o2, o3, o4⟩ hwf W hW
    have hTl : T.size ≤ 120 := by rw [hT0]; simpa [ByteArray.size] using showL_len _ hwf
    have HP : Hid (T.toList.isEmpty = false → ∀ W : World, Tp W → Calls Tryd.prog 11 #[.string T] W fun e w' => e = .returned (.tuple #[.agg #[.int .i64 o0, .int .i64 o1, .int .i64 o2, .int .i64 o3, .int .i64 o4], .bool true]) ∧ Below W.heap.size W w') := by
      intro hn W hW
      refine (implParse_any T (by omega) W hW).mono ?_
      rintro e w' ⟨i, t, rfl, hpr, hb⟩
      have hd : T.data.toList = showL ⟨o0, o1, o2, o3, o4⟩ := by rw [hT0]
      rw [hd] at hpr
      obtain ⟨rfl, rfl⟩ := hpr.same (shown_pr hwf (by
        intro e0
        have h9 : T.toList = [] := by
          rw [hT0, e0]
          unfold ByteArray.toList ByteArray.toList.loop
          rfl
        rw [h9] at hn
        cases hn))
      exact ⟨rfl, hb⟩
    have he := fnDecoded.run_sameInst o0 o1 o2 o3 o4
    have htt : (T.toList != T.toList) = false := by simp
    have HTp2 : Hid (Tp w2) := HTp.out.below HB2.out
    have r2 : Hid ((w2.alloc (.cells #[.int .i64 o0, .int .i64 o1, .int .i64 o2, .int .i64 o3, .int .i64 o4] 25)).heap[w2.heap.size]? = some (.cells #[.int .i64 o0, .int .i64 o1, .int .i64 o2, .int .i64 o3, .int .i64 o4] 25 (0, 0))) := heap_alloc_new _ _
    clear hT0 hwf
    go_wp2_with fail
    refine (HI.out _ (HTp2.out.below ((Below.refl _ _).alloc (Nat.le_refl _) _))).mono ?_
    rintro e w3 ⟨rfl, hb3⟩
    have R3 : Hid (w3.heap[w2.heap.size]? = some (.cells #[.int .i64 o0, .int .i64 o1, .int .i64 o2, .int .i64 o3, .int .i64 o4] 25 (0, 0))) := row_keep r2.out hb3
    have B3 : Hid (Below w.heap.size w w3) := below_trans (HB2.out.alloc HB2.out.size _) hb3
    obtain ⟨c0, c1, c2, c3, c4⟩ := fnDecoded.cells5 R3.out
    clear hb3 r2 HB2 HTp2
    go_wp2_with fail
    refine (HS.out _).mono ?_
    rintro e w4 ⟨rfl, hb4⟩
    have R4 : Hid (w4.heap[w2.heap.size]? = some (.cells #[.int .i64 o0, .int .i64 o1, .int .i64 o2, .int .i64 o3, .int .i64 o4] 25 (0, 0))) := row_keep R3.out hb4
    have B4 : Hid (Below w.heap.size w w4) := below_trans B3.out hb4
    clear hb4 c0 c1 c2 c3 c4 R3 B3 HS HI
    obtain ⟨c0, c1, c2, c3, c4⟩ := fnDecoded.cells5 R4.out
    cases hE : T.toList.isEmpty
    case' false =>
      go_wp2_with fail
      refine (HP.out hE _ (HTp.out.below B4.out)).mono ?_
      rintro e w5 ⟨rfl, hb5⟩
      have R5 : Hid (w5.heap[w2.heap.size]? = some (.cells #[.int .i64 o0, .int .i64 o1, .int .i64 o2, .int .i64 o3, .int .i64 o4] 25 (0, 0))) := row_keep R4.out hb5
      have B5 : Hid (Below w.heap.size w w5) := below_trans B4.out hb5
      have hlt5 : w2.heap.size < w5.heap.size := fnDecoded.row_lt R5.out
      clear hb5 c0 c1 c2 c3 c4 R4 B4 HP
      obtain ⟨c0, c1, c2, c3, c4⟩ := fnDecoded.cells5 R5.out
      go_wp2_with fail
      have B6 : Hid (Below w.heap.size w (w5.alloc (.cells #[.int .i64 o0, .int .i64 o1, .int .i64 o2, .int .i64 o3, .int .i64 o4] 25))) := B5.out.alloc B5.out.size _
      generalize w5.alloc (.cells #[.int .i64 o0, .int .i64 o1, .int .i64 o2, .int .i64 o3, .int .i64 o4] 25) = w6 at *
      clear B5 R5 hlt5 c0 c1 c2 c3 c4
    case' true =>
      go_wp2_with fail
      have B6 : Hid (Below w.heap.size w w4) := B4.out
      clear HP R4 B4 c0 c1 c2 c3 c4
      generalize w4 = w6 at *
    all_goals have HD6 : Hid (Code w6 a0 len0 zs) := ⟨HD.out.len, HD.out.few, HD.out.sl.below B6.out, HD.out.bd⟩
    all_goals clear he htt hTl hE
    all_goals refine (DrawParse_c cap0 _ HD6.out).mono ?_
    all_goals rintro e w7 ⟨s, rfl, hsl, HB7⟩
    all_goals have B7 : Hid (Below w.heap.size w w7) := below_trans B6.out HB7.out
    all_goals have hsl2 : s.size ≤ 1048576 := by omega
    all_goals clear HB7 B6 HD6 HD hsl
    all_goals go_wp2_with fail
    all_goals refine (implParse_any s hsl2 _ (HTp.out.below B7.out)).mono ?_
    all_goals rintro e w8 ⟨⟨j0, j1, j2, j3, j4⟩, t, rfl, hpr, hb8⟩
    all_goals simp only [Ins.val]
    all_goals have B8 : Hid (Below w.heap.size w w8) := below_trans B7.out hb8
    all_goals have HPR : Hid (PR s.data.toList ⟨j0, j1, j2, j3, j4⟩ t) := hpr
    all_goals have r8 : Hid ((w8.alloc (.cells #[.int .i64 j0, .int .i64 j1, .int .i64 j2, .int .i64 j3, .int .i64 j4] 25)).heap[w8.heap.size]? = some (.cells #[.int .i64 j0, .int .i64 j1, .int .i64 j2, .int .i64 j3, .int .i64 j4] 25 (0, 0))) := heap_alloc_new _ _
    all_goals clear hpr hb8 B7
    all_goals go_wp2_with fail
    all_goals refine (specParse_any s hsl2 _).mono ?_
    all_goals rintro e w9 ⟨j, t9, rfl, hpr, hb9⟩
    all_goals obtain ⟨rfl, rfl⟩ := hpr.same HPR.out
    all_goals simp only [Ins.val]
    all_goals have R9 : Hid (w9.heap[w8.heap.size]? = some (.cells #[.int .i64 j0, .int .i64 j1, .int .i64 j2, .int .i64 j3, .int .i64 j4] 25 (0, 0))) := row_keep r8.out hb9
    all_goals have B9 : Hid (Below w.heap.size w w9) := below_trans (B8.out.alloc B8.out.size _) hb9
    all_goals have hlt9 : w8.heap.size < w9.heap.size := fnDecoded.row_lt R9.out
    all_goals have HB10 : Hid (Below w.heap.size w (w9.alloc (.cells #[.int .i64 j0, .int .i64 j1, .int .i64 j2, .int .i64 j3, .int .i64 j4] 25))) := B9.out.alloc B9.out.size _
    all_goals obtain ⟨c0, c1, c2, c3, c4⟩ := fnDecoded.cells5 R9.out
    all_goals have he := fnDecoded.run_sameInst j0 j1 j2 j3 j4
    all_goals have htt : (t9 != t9) = false := by simp
    all_goals clear hpr hb9 r8 B8 R9
    all_goals rcases HPR.out with ⟨rfl, hiw, hok, htx⟩ | ⟨rfl, hno, _⟩
    case inl =>
      have HI : Hid (∀ W : World, Tp W → Calls Tryd.prog 9 #[.agg #[.int .i64 j0, .int .i64 j1, .int .i64 j2, .int .i64 j3, .int .i64 j4]] W fun e w' => e = .returned (.string s) ∧ Below W.heap.size W w') := fun W hW => by
        have h9 := implShow_any ⟨j0, j1, j2, j3, j4⟩ hiw W hW
        have e9 : (⟨(showL ⟨j0, j1, j2, j3, j4⟩).toArray⟩ : ByteArray) = s := by
          unfold showL
          rw [if_pos hok, htx]
        rw [e9] at h9
        exact h9
      have hss : (s.toList == s.toList) = true := by simp
      clear hiw hok htx HPR
      go_wp2_with fail
      refine (HI.out _ (HTp.out.below HB10.out)).mono ?_
      rintro e wz ⟨rfl, hbz⟩
      have BZ : Hid (Below w.heap.size w wz) := below_trans HB10.out hbz
      clear hbz
      go_wp2_with fail
      go_ret
      exact ⟨rfl, BZ.out⟩
    case inr =>
      cases hno
      clear HPR
      go_wp2_with fail
      go_ret
      exact ⟨rfl, HB10.out⟩
    case inl =>
      have HI : Hid (∀ W : World, Tp W → Calls Tryd.prog 9 #[.agg #[.int .i64 j0, .int .i64 j1, .int .i64 j2, .int .i64 j3, .int .i64 j4]] W fun e w' => e = .returned (.string s) ∧ Below W.heap.size W w') := fun W hW => by
        have h9 := implShow_any ⟨j0, j1, j2, j3, j4⟩ hiw W hW
        have e9 : (⟨(showL ⟨j0, j1, j2, j3, j4⟩).toArray⟩ : ByteArray) = s := by
          unfold showL
          rw [if_pos hok, htx]
        rw [e9] at h9
        exact h9
      have hss : (s.toList == s.toList) = true := by simp
      clear hiw hok htx HPR
      go_wp2_with fail
      refine (HI.out _ (HTp.out.below HB10.out)).mono ?_
      rintro e wz ⟨rfl, hbz⟩
      have BZ : Hid (Below w.heap.size w wz) := below_trans HB10.out hbz
      clear hbz
      go_wp2_with fail
      go_ret
      exact ⟨rfl, BZ.out⟩
    case inr =>
      cases hno
      clear HPR
      go_wp2_with fail
      go_ret
      exact ⟨rfl, HB10.out⟩

end Go.Proofs.YtjoaccdbiomdjaaDoorR.fnParsed
