/- The walk of laws.FnWalked: it returns true at every code, and writes nothing that was there. -/
import Derived.Test.YtldjmphflgecjacDoorWalkO
import Derived.Test.YtldjmphflgecjacDoorWalkG
import Derived.Test.YtldjmphflgecjacDoorDrawY
import Derived.Test.YtldjmphflgecjacDoorStoC
import Derived.Test.YtldjmphflgecjacDoorLawC
namespace Go.Proofs.YtldjmphflgecjacDoor.fnWalked
open Go.RowKit
set_option linter.unusedVariables false

theorem markB_wf {zs : List Int} (h : ∀ y ∈ zs, (Lit.int .u8 y).wf = true) (f : Fd) : ∀ y ∈ markB zs f, (Lit.int .u8 y).wf = true := by
  intro y hy
  unfold markB at hy
  split at hy
  · obtain ⟨h0, h1⟩ := put_bd zs (wf8_bd h) _ _ 8 y hy
    exact wf8 h0 h1
  · exact h y hy

theorem byte_bd {zs : List Int} (h : ∀ y ∈ zs, (Lit.int .u8 y).wf = true) (i : Nat) : 0 ≤ zs.getD i 0 ∧ zs.getD i 0 ≤ 255 := by
  by_cases hi : i < zs.length
  · have : zs.getD i 0 ∈ zs := by
      rw [List.getD_eq_getElem?_getD, List.getElem?_eq_getElem hi]
      exact List.getElem_mem hi
    exact wf8_bd h _ this
  · rw [List.getD_eq_getElem?_getD, List.getElem?_eq_none (by omega)]
    constructor <;> decide

/-- What Walk comes to, three ways. -/
theorem walk_ways (zs : List Int) (n m : Nat) (hz : zs.length = n) (hw : ∀ y ∈ zs, (Lit.int .u8 y).wf = true) (l : List Int) (p va kind : Int) :
    (walkB zs n m l p va kind = [] ∧ walkA zs n m l p va kind = 0 ∧ walkC zs n m l p va kind ≠ 0) ∨
    (walkB zs n m l p va kind = zs ∧ 0 < n ∧ walkA zs n m l p va kind = 0 ∧ walkC zs n m l p va kind ≠ 0) ∨
    (walkC zs n m l p va kind = 0 ∧ 0 < n ∧ (walkB zs n m l p va kind).length = n ∧ (∀ y ∈ walkB zs n m l p va kind, (Lit.int .u8 y).wf = true) ∧ walkA (walkB zs n m l p va kind) n m l p va kind = walkA zs n m l p va kind ∧
      walkC (walkB zs n m l p va kind) n m l p va kind = 0 ∧ walkB (walkB zs n m l p va kind) n m l p va kind = walkB zs n m l p va kind ∧ bits .and .u64 (walkA zs n m l p va kind) 4095 = bits .and .u64 va 4095) := by
  unfold walkA walkB walkC
  cases hok : walkOk n m l p kind with
  | false =>
    refine .inl ⟨rfl, rfl, ?_⟩
    simp only [Bool.false_eq_true, if_false]
    split
    · exact faultC_ne kind
    · decide
  | true =>
    simp only [if_true]
    have hn : 0 < n := by
      have h2 : (ramOkB n && legalB m l p && kindIn kind) = true := hok
      simp only [Bool.and_eq_true] at h2
      have := ramOkB_bd h2.1.1
      omega
    rcases walk_again zs n hz (byte_bd hw) l p va kind with ⟨h0, h1, h2⟩ | ⟨h0, h1, h2⟩
    · refine .inr (.inr ⟨h0, hn, by rw [mark_len, hz], markB_wf hw _, by rw [h1], by rw [h1], ?_, h2⟩)
      rw [h1]
      rfl
    · refine .inr (.inl ⟨?_, hn, h1, h0⟩)
      unfold markB
      rw [h2]
      rfl

set_option maxRecDepth 100000 in
set_option maxHeartbeats 6400000 in
theorem walk (a0 : Option Addr) (len0 cap0 : Nat) (z0 : List Int) (w : World) (w0 : IsRow .u8 w a0 len0 cap0 z0) (hT : Tab w) :
    Calls Tryd.prog 4 #[.slice a0 len0 cap0] w fun e w' => e = .returned (.bool true) ∧ Below w.heap.size w w' := by
  have HT : Hid (Tab w) := hT
  clear hT
  by_cases hbig : 4096 < len0
  · have hb : decide (4096 < len0) = true := by simpa using hbig
    go_enter Tryd.func4, Tryd.ntmps4
    go_wp2_with fail
    refine (big_any a0 len0 cap0 _).mono ?_
    rintro e w1 ⟨rfl, hw1⟩
    subst hw1
    rw [hb]
    go_wp2_with fail
    go_ret
    exact ⟨rfl, Below.refl _ _⟩
  · have hb : decide (4096 < len0) = false := by simpa using hbig
    obtain ⟨zs, hcd⟩ := code_of w0 (by omega)
    have HD : Hid (Code w a0 len0 zs) := hcd
    clear hcd w0 hbig
    go_enter Tryd.func4, Tryd.ntmps4
    go_wp2_with fail
    refine (big_any a0 len0 cap0 _).mono ?_
    rintro e w1 ⟨rfl, hw1⟩
    have hw1' := hw1.symm
    subst hw1'
    rw [hb]
    clear hb
    go_wp2_with fail
    refine (DrawWalk_c cap0 _ HD.out).mono ?_
    rintro e w2 ⟨rb, rm, rs, b, m, c, l, p, x, k, rfl, hr, hrm, HRW, HRS, hl, hm, HU, HSL, HX, HB2⟩
    have HI : Hid (∀ (W : World) (ra : Option Addr) (rc : Nat) (ys : List Int), ys.length = rm → (∀ y ∈ ys, (Lit.int .u8 y).wf = true) → Below w.heap.size w W → Sl .u8 W ra ys → Sl .u64 W b l → Goodly rm ra rc → Calls Tryd.prog 13 #[.slice ra rm rc, .slice b m c, .int .i64 p, .int .u64 x, .int .i64 k] W fun e w' => ∃ (a' : Option Addr) (c' : Nat), e = .returned (.tuple #[.int .u64 (walkA ys rm m l p x k), .int .i64 (walkC ys rm m l p x k), .slice a' (walkB ys rm m l p x k).length c']) ∧ Hid (Sl .u8 w' a' (walkB ys rm m l p x k)) ∧ Goodly (walkB ys rm m l p x k).length a' c' ∧ Below W.heap.size W w') := fun W ra rc ys h1 h2 hW h3 h4 h5 =>
      (implWalk_any ra rm rc ys b m c l p x k W h1 (by omega) h3 h2 hl h4 HU.out HX.out (HT.out.below hW) h5).mono fun e w' ⟨a', c', e1, e2, e3⟩ => ⟨a', c', e1, own_sl' e2, own_good e2, e3⟩
    have HJ : Hid (∀ (W : World), Sl .u8 W (some ⟨rb, 0, none⟩) rs → Sl .u64 W b l → Calls Tryd.prog 14 #[.slice (some ⟨rb, 0, none⟩) rm rm, .slice b m c, .int .i64 p, .int .u64 x, .int .i64 k] W fun e w' => ∃ (a' : Option Addr) (c' : Nat), e = .returned (.tuple #[.int .u64 (walkA rs rm m l p x k), .int .i64 (walkC rs rm m l p x k), .slice a' (walkB rs rm m l p x k).length c']) ∧ Hid (Sl .u8 w' a' (walkB rs rm m l p x k)) ∧ Below W.heap.size W w') := fun W h3 h4 =>
      (specWalk_any (some ⟨rb, 0, none⟩) rm rm rs b m c l p x k W hr (by omega) h3 HRW.out hl h4 HX.out).mono fun e w' ⟨a', c', e1, e2, e3⟩ => ⟨a', c', e1, own_sl' e2, e3⟩
    have WAY := walk_ways rs rm m hr HRW.out l p x k
    have HR : Hid (rs.length = rm) := hr
    have HI1 := HI.out w2 (some ⟨rb, 0, none⟩) rm rs hr HRW.out HB2.out HRS.out HSL.out (good_own rb rm (by omega))
    obtain ⟨A, hA⟩ : ∃ A, walkA rs rm m l p x k = A := ⟨_, rfl⟩
    obtain ⟨C, hC⟩ : ∃ C, walkC rs rm m l p x k = C := ⟨_, rfl⟩
    obtain ⟨S, hS⟩ : ∃ S, walkB rs rm m l p x k = S := ⟨_, rfl⟩
    rw [hA, hC, hS] at WAY HI1
    have HI2 : Hid (Calls Tryd.prog 13 #[.slice (some ⟨rb, 0, none⟩) rm rm, .slice b m c, .int .i64 p, .int .u64 x, .int .i64 k] w2 fun e w' => ∃ (a' : Option Addr) (c' : Nat), e = .returned (.tuple #[.int .u64 A, .int .i64 C, .slice a' S.length c']) ∧ Hid (Sl .u8 w' a' S) ∧ Goodly S.length a' c' ∧ Below w2.heap.size w2 w') := HI1
    have HJ2 : Hid (∀ (W : World), Sl .u8 W (some ⟨rb, 0, none⟩) rs → Sl .u64 W b l → Calls Tryd.prog 14 #[.slice (some ⟨rb, 0, none⟩) rm rm, .slice b m c, .int .i64 p, .int .u64 x, .int .i64 k] W fun e w' => ∃ (a' : Option Addr) (c' : Nat), e = .returned (.tuple #[.int .u64 A, .int .i64 C, .slice a' S.length c']) ∧ Hid (Sl .u8 w' a' S) ∧ Below W.heap.size W w') := by
      intro W h3 h4
      have := HJ.out W h3 h4
      rw [hA, hC, hS] at this
      exact this
    clear HJ HI1 hr hrm hl hm HU HX hA hC hS
    go_wp2_with fail
    refine HI2.out.mono ?_
    rintro e w3 ⟨a3, c3, rfl, S3, g3, hb3⟩
    have G3 : Hid (Goodly S.length a3 c3) := g3
    clear g3
    have R3 : Hid (Sl .u8 w3 (some ⟨rb, 0, none⟩) rs) := HRS.out.below hb3
    have L3 : Hid (Sl .u64 w3 b l) := HSL.out.below hb3
    have B3 : Hid (Below w.heap.size w w3) := below_trans HB2.out hb3
    clear HI2 HRS HSL HB2 hb3
    go_wp2_with fail
    refine (HJ2.out _ R3.out L3.out).mono ?_
    rintro e w4 ⟨a4, c4, rfl, S4, hb4⟩
    have R4 : Hid (Sl .u8 w4 (some ⟨rb, 0, none⟩) rs) := R3.out.below hb4
    have L4 : Hid (Sl .u64 w4 b l) := L3.out.below hb4
    have B4 : Hid (Below w.heap.size w w4) := below_trans B3.out hb4
    have S5 : Hid (Sl .u8 w4 a3 S) := S3.out.below hb4
    clear HJ2 R3 L3 B3 S3 hb4
    have cv1 := conv_sl a3 S.length c3 S w4 rfl S5.out
    have cv2 := conv_sl a4 S.length c4 S w4 rfl S4.out
    have cv3 := conv_sl (some ⟨rb, 0, none⟩) rm rm rs w4 HR.out R4.out
    have t1 : (A != A) = false := by simp
    have t2 : (C != C) = false := by simp
    rcases WAY with ⟨e1, e2, e3⟩ | ⟨e1, hn, e2, e3⟩ | ⟨e1, hn, e2, e3, e4, e5, e6, e7⟩
    · subst e1 e2
      have t3 : (C != 0) = true := by simp [e3]
      have t4 : ((0 : Int) != 0) = false := rfl
      have t5 : ((0 : Int) == 0) = true := rfl
      simp only [List.length_nil] at cv1 cv2 ⊢
      generalize strOfNums [] = s0 at *
      clear cv3 e3
      go_wp2_with fail
      go_ret
      exact ⟨rfl, B4.out⟩
    · subst e1 e2
      have t3 : (C != 0) = true := by simp [e3]
      have hlen := HR.out
      rw [hlen] at cv1 cv2 ⊢
      have t5 : ((rm : Int) == 0) = false := by simp; omega
      generalize strOfNums S = s0 at *
      clear e3 hlen
      go_wp2_with fail
      go_ret
      exact ⟨rfl, B4.out⟩
    · subst e1
      have HI3 := HI.out w4 a3 c3 S e2 e3 B4.out S5.out L4.out (by have := G3.out; rw [e2] at this; exact this)
      rw [e4, e5, e6] at HI3
      rw [e2] at HI3 cv1 cv2 ⊢
      have HI4 : Hid (Calls Tryd.prog 13 #[.slice a3 rm c3, .slice b m c, .int .i64 p, .int .u64 x, .int .i64 k] w4 fun e w' => ∃ (a' : Option Addr) (c' : Nat), e = .returned (.tuple #[.int .u64 A, .int .i64 0, .slice a' rm c']) ∧ Hid (Sl .u8 w' a' S) ∧ Goodly rm a' c' ∧ Below w4.heap.size w4 w') := HI3
      have t5 : ((rm : Int) == 0) = false := by simp; omega
      have HE2 : Hid (S.length = rm) := e2
      have t7 : (bits .and .u64 A 4095 == bits .and .u64 x 4095) = true := by rw [e7]; simp
      have t8 : (A == A) = true := by simp
      have t9 : ((rm : Int) == (rm : Int)) = true := by simp
      clear HI HI3 e2 e3 e4 e5 e6 cv3
      generalize strOfNums S = s0 at *
      go_wp2_with fail
      refine HI4.out.mono ?_
      rintro e w6 ⟨a6, c6, rfl, S6, _, hb6⟩
      have B6 : Hid (Below w.heap.size w w6) := below_trans B4.out hb6
      have cw1 := conv_sl a6 rm c6 S w6 HE2.out S6.out
      have cw2 := conv_sl a3 rm c3 S w6 HE2.out (S5.out.below hb6)
      clear cv1 cv2 hb6 HI4 S6
      generalize strOfNums S = s1 at *
      go_wp2_with fail
      go_ret
      exact ⟨rfl, B6.out⟩

end Go.Proofs.YtldjmphflgecjacDoor.fnWalked
