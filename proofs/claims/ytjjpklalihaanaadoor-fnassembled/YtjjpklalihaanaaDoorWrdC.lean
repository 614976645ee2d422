/- A line cut at its blanks: the model's l13Words. -/
import Derived.Test.YtjjpklalihaanaaDoorProg
import Derived.Test.YtjjpklalihaanaaDoorLstP
import Derived.Lib.Strings
import Derived.Lib.IndexBytes
import Derived.WalkSpells
namespace Go.Proofs.YtjjpklalihaanaaDoor
open Go.RowKit
set_option linter.unusedVariables false

/-- The parts of a line between blanks, cur being the part that is under way. -/
def spl : List UInt8 → List UInt8 → List (List UInt8)
  | cur, [] => [cur]
  | cur, c :: cs => if c = 32 then cur :: spl [] cs else spl (cur ++ [c]) cs

def strV (l : List UInt8) : Value := .string ⟨l.toArray⟩

theorem str_info : ∃ i, Tryd.prog.info? 9 = some i ∧ i.zero = some (.string ⟨#[]⟩) ∧ i.size = 1 ∧ i.bytes = 16 := by
  have h : (Tryd.prog.info? 9).map (fun i => (i.zero, i.size, i.bytes)) = some (some (.string ⟨#[]⟩), 1, 16) := by kernel_rfl
  cases hi : Tryd.prog.info? 9 with
  | none => rw [hi] at h; cases h
  | some i =>
    rw [hi] at h
    simp only [Option.map_some, Option.some.injEq, Prod.mk.injEq] at h
    exact ⟨i, rfl, h.1, h.2.1, h.2.2⟩

theorem ext_take (s : ByteArray) (a b : Nat) : (s.extract a b) = ⟨((s.data.toList.drop a).take (b - a)).toArray⟩ := by
  apply ByteArray.ext
  apply Array.toList_inj.1
  simp

theorem spl_go {L : List UInt8} {from_ i : Nat} {c : UInt8} (hf : from_ ≤ i) (hc : L[i]? = some c) (h : c ≠ 32) : spl ((L.drop from_).take (i - from_)) (L.drop i) = spl ((L.drop from_).take (i + 1 - from_)) (L.drop (i + 1)) := by
  have hi : i < L.length := by
    by_cases hl : i < L.length
    · exact hl
    · rw [List.getElem?_eq_none (by omega)] at hc; cases hc
  have hci : L[i] = c := by rw [List.getElem?_eq_getElem hi] at hc; exact Option.some.inj hc
  rw [List.drop_eq_getElem_cons hi, hci, spl, if_neg h]
  congr 1
  have e : i + 1 - from_ = (i - from_) + 1 := by omega
  rw [e, List.take_succ_eq_append_getElem (by simp; omega)]
  congr 2
  rw [List.getElem_drop]
  simp only [show from_ + (i - from_) = i by omega]
  exact hci.symm

theorem spl_cut {L : List UInt8} {from_ i : Nat} (hc : L[i]? = some 32) : spl ((L.drop from_).take (i - from_)) (L.drop i) = ((L.drop from_).take (i - from_)) :: spl ((L.drop (i + 1)).take (i + 1 - (i + 1))) (L.drop (i + 1)) := by
  have hi : i < L.length := by
    by_cases hl : i < L.length
    · exact hl
    · rw [List.getElem?_eq_none (by omega)] at hc; cases hc
  have hci : L[i] = 32 := by rw [List.getElem?_eq_getElem hi] at hc; exact Option.some.inj hc
  rw [List.drop_eq_getElem_cons hi, hci, spl, if_pos rfl]
  simp

theorem spl_end {L : List UInt8} {from_ : Nat} : spl ((L.drop from_).take (L.length - from_)) (L.drop L.length) = [(L.drop from_).take (L.length - from_)] := by
  simp [spl]

theorem str_at (s : ByteArray) (i : Nat) (h : i < s.size) : s.data.toList[i]? = some (s[i]'h) := by
  rw [Array.getElem?_toList, Array.getElem?_eq_getElem (by exact h)]; rfl

theorem u8_eq {c : UInt8} {k : Nat} (hk : k < 256) (h : c.toNat = k) : c = UInt8.ofNat k := by
  apply UInt8.toNat_inj.1
  rw [h]; simp; omega

set_option maxRecDepth 20000 in
set_option maxHeartbeats 1600000 in
theorem l13Words_any (s : ByteArray) (hs : s.size ≤ 1048576) (w : World) :
    Calls Tryd.prog 49 #[.string s] w fun e w' => ∃ v, e = .returned v ∧ Lst 9 w w' v (spl [] s.data.toList).length ((spl [] s.data.toList).map strV) := by
  obtain ⟨i0, hi, hz0, hz1, hz2⟩ := str_info
  have hlen : s.data.toList.length = s.size := by rw [Array.length_toList]; rfl
  have HL0 := lst_empty 9 w
  go_enter Tryd.func49, Tryd.ntmps49
  go_wp2_with fail
  go_loopw [5, 4, 3] (fun iv fv ov wr => ∃ (i f : Nat) (done : List (List UInt8)), iv = .int .i64 i ∧ fv = .int .i64 f ∧ i ≤ s.size + 1 ∧ f ≤ i ∧ done.length ≤ i ∧ Hid (Lst 9 w wr ov done.length (done.map strV)) ∧
      Hid ((i ≤ s.size ∧ spl [] s.data.toList = done ++ spl ((s.data.toList.drop f).take (i - f)) (s.data.toList.drop i)) ∨ (i = s.size + 1 ∧ spl [] s.data.toList = done)))
    (fun iv _ _ _ => s.size + 1 - (intOf iv).toNat)
  case atStart => exact ⟨0, 0, [], rfl, rfl, by omega, by omega, by simp, HL0, (Or.inl ⟨by omega, by simp⟩ : _ ∨ _)⟩
  case round =>
    obtain ⟨i, f, done, rfl, rfl, hi1, hf, hd, hL, hI⟩ := hrel
    clear HL0
    obtain ⟨a0, c0, hov⟩ := hL.out.slice
    subst hov
    rcases hI.out with ⟨hle, hS⟩ | ⟨hgt, hS⟩
    · by_cases hlt : i < s.size
      · have hat := str_at s i hlt
        by_cases h32 : (s[i]'hlt).toNat = 32
        · have hc : s.data.toList[i]? = some 32 := by rw [hat, u8_eq (by decide) h32]; rfl
          rw [spl_cut hc] at hS
          have HS : Hid (i + 1 ≤ s.size ∧ spl [] s.data.toList = (done ++ [(s.data.toList.drop f).take (i - f)]) ++ spl ((s.data.toList.drop (i + 1)).take (i + 1 - (i + 1))) (s.data.toList.drop (i + 1))) := ⟨hlt, by rw [hS]; simp⟩
          have ht : ((s[i]'hlt).toNat == 32) = true := by simpa using h32
          have hq : ((i : Int) == (s.size : Int)) = false := by simp; omega
          have hwr : wrap64 ((i : Int) + 1) = ((i + 1 : Nat) : Int) := by unfold wrap64; omega
          clear hS hI hat hc h32
          go_wp2_with (at_builtin; refine wpList_push1 rfl (.tmp 23) (.tmp 28) 44 9 rfl i0 (.string ⟨#[]⟩) 16 Tryd.underlying44 hi hz0 hz1 hz2 rfl (by decide) _ done.length (done.map strV) (.string (s.extract f i)) rfl rfl rfl hL.out (by omega) ?_; intro a' c' w' hL' hg')
          have HL' : Hid (Lst 9 w w' (.slice a' (done.length + 1) c') (done ++ [(s.data.toList.drop f).take (i - f)]).length ((done ++ [(s.data.toList.drop f).take (i - f)]).map strV)) := by
            show Lst _ _ _ _ _ _
            rw [ext_take] at hL'
            simpa [strV] using hL'
          clear hL' hg'
          go_roundw
          case rel => exact ⟨i + 1, i + 1, done ++ [(s.data.toList.drop f).take (i - f)], rfl, rfl, by omega, by omega, by simp; omega, HL', (Or.inl HS.out : _ ∨ _)⟩
          case measure => simp [intOf]; omega
        · have hne : (s[i]'hlt) ≠ 32 := fun h => h32 (by rw [h]; rfl)
          rw [spl_go hf hat hne] at hS
          have HS : Hid (i + 1 ≤ s.size ∧ spl [] s.data.toList = done ++ spl ((s.data.toList.drop f).take (i + 1 - f)) (s.data.toList.drop (i + 1))) := ⟨hlt, hS⟩
          have ht : ((s[i]'hlt).toNat == 32) = false := by simpa using h32
          have hq : ((i : Int) == (s.size : Int)) = false := by simp; omega
          have hwr : wrap64 ((i : Int) + 1) = ((i + 1 : Nat) : Int) := by unfold wrap64; omega
          clear hS hI hat hne h32
          go_wp2_with fail
          go_roundw
          case rel => exact ⟨i + 1, f, done, rfl, rfl, by omega, by omega, by omega, hL, (Or.inl HS.out : _ ∨ _)⟩
          case measure => simp [intOf]; omega
      · have hie : i = s.size := by omega
        have hS2 := hS
        rw [hie, ← hlen, spl_end] at hS2
        have HS : Hid (i + 1 = s.size + 1 ∧ spl [] s.data.toList = done ++ [(s.data.toList.drop f).take (i - f)]) := ⟨by omega, by rw [hS2, hlen, hie]⟩
        have hq : ((i : Int) == (s.size : Int)) = true := by simp; omega
        have hwr : wrap64 ((i : Int) + 1) = ((i + 1 : Nat) : Int) := by unfold wrap64; omega
        have hii : i ≤ s.size := by omega
        have hm : s.size + 1 - i = 1 := by omega
        have HM : Hid (i + 1 = s.size + 1) := by show i + 1 = s.size + 1; omega
        clear hS hS2 hI hie hm
        go_wp2_with (at_builtin; refine wpList_push1 rfl (.tmp 23) (.tmp 28) 44 9 rfl i0 (.string ⟨#[]⟩) 16 Tryd.underlying44 hi hz0 hz1 hz2 rfl (by decide) _ done.length (done.map strV) (.string (s.extract f i)) rfl rfl rfl hL.out (by omega) ?_; intro a' c' w' hL' hg')
        have HL' : Hid (Lst 9 w w' (.slice a' (done.length + 1) c') (done ++ [(s.data.toList.drop f).take (i - f)]).length ((done ++ [(s.data.toList.drop f).take (i - f)]).map strV)) := by
          show Lst _ _ _ _ _ _
          rw [ext_take] at hL'
          simpa [strV] using hL'
        clear hL' hg'
        go_roundw
        case rel => exact ⟨i + 1, i + 1, done ++ [(s.data.toList.drop f).take (i - f)], rfl, rfl, by have := HM.out; omega, by omega, by simp; omega, HL', (Or.inr HS.out : _ ∨ _)⟩
        case measure => have := HM.out; simp [intOf]; omega
    · have HL' : Hid (Lst 9 w wr (.slice a0 done.length c0) (spl [] s.data.toList).length ((spl [] s.data.toList).map strV)) := by
        show Lst _ _ _ _ _ _
        rw [hS]; exact hL.out
      have hno : ¬ i ≤ s.size := by omega
      clear hS hI hL
      go_wp2_with fail
      go_ret
      exact ⟨_, rfl, HL'.out⟩

end Go.Proofs.YtjjpklalihaanaaDoor
