/- Numbers as texts: the model's l13Int gives the decimal numeral. -/
import Derived.Test.YtjjpklalihaanaaDoorProg
import Derived.Test.YtjjpklalihaanaaDoorMem
import Derived.WalkKit
import Derived.Lib.ItoaNum
import Derived.Lib.ItoaLen
namespace Go.Proofs.YtjjpklalihaanaaDoor
open Go.RowKit
set_option linter.unusedVariables false

/-- What is left to be written ahead of s, where the number has come down to n. -/
def itoAt (u : Nat) (n : Int) (s : List UInt8) : Prop :=
  (s = [] ∧ n.natAbs = u) ∨ (s ≠ [] ∧ ((n = 0 ∧ Lib.decDigits u = s) ∨ (n ≠ 0 ∧ Lib.decDigits u = Lib.decDigits n.natAbs ++ s)))

theorem itoAt_next {u : Nat} {n : Int} {s : List UInt8} (h : itoAt u n s) (hn : s = [] ∨ n ≠ 0) : itoAt u (n.tdiv 10) (UInt8.ofNat (48 + n.natAbs % 10) :: s) := by
  have hd : (n.tdiv 10).natAbs = n.natAbs / 10 := by rw [Int.natAbs_tdiv]; rfl
  have key : Lib.decDigits u = Lib.decDigits n.natAbs ++ s := by
    rcases h with ⟨rfl, rfl⟩ | ⟨hs, ⟨h0, h1⟩ | ⟨h0, h1⟩⟩
    · simp
    · rcases hn with h | h
      · exact absurd h hs
      · exact absurd h0 h
    · exact h1
  refine Or.inr ⟨by simp, ?_⟩
  by_cases h10 : n.natAbs < 10
  · refine Or.inl ⟨?_, ?_⟩
    · apply Int.natAbs_eq_zero.1; rw [hd]; omega
    · rw [key, Lib.decDigits_one h10, Nat.mod_eq_of_lt h10]; rfl
  · refine Or.inr ⟨?_, ?_⟩
    · intro h; rw [h] at hd; simp at hd; omega
    · rw [key, hd, Lib.decDigits, dif_neg h10]; simp

theorem itoAt_end {u : Nat} {s : List UInt8} (h : itoAt u 0 s) (hs : s ≠ []) : s = Lib.decDigits u := by
  rcases h with ⟨h, _⟩ | ⟨_, ⟨_, h⟩ | ⟨h, _⟩⟩
  · exact absurd h hs
  · exact h.symm
  · exact absurd rfl h

theorem itoAt_len {u : Nat} {n : Int} {s : List UInt8} (h : itoAt u n s) (hu : u < 18446744073709551616) : s.length ≤ 20 := by
  have hd : (Lib.decDigits u).length ≤ 20 := by rw [Lib.decDigits_length]; exact Lib.nDigits_le20 u hu
  rcases h with ⟨rfl, _⟩ | ⟨_, ⟨_, h⟩ | ⟨_, h⟩⟩
  · simp
  · rw [← h]; exact hd
  · rw [h] at hd; simp at hd; omega

/-- A string out of one new byte. -/
theorem conv_new (d : Int) (w : World) : (convert 22 9 (.slice (some ⟨w.heap.size, 0, none⟩) 1 1)).run Tryd.prog (w.alloc (.cells #[.int .u8 d] 5 (0, 0))) = .ok (.string ⟨#[UInt8.ofNat d.toNat]⟩) (w.alloc (.cells #[.int .u8 d] 5 (0, 0))) := by
  refine run_convert_bytes_arg (w.alloc (.cells #[.int .u8 d] 5 (0, 0))) 22 5 Tryd.underlying22 Tryd.underlying5 w.heap.size 0 1 1 [d] rfl (fun i hi => ?_) 9 Tryd.underlying9
  have : i = 0 := by omega
  subst this
  have h : (w.alloc (.cells #[.int .u8 d] 5 (0, 0))).heap[w.heap.size]? = some (.cells #[.int .u8 d] 5 (0, 0)) := heap_alloc_new _ _
  simp only [World.cell?, h]
  rfl

def itoM (v t : Value) : Nat := 2 * (intOf v).natAbs + (match t with | .string S => if S.size = 0 then 1 else 0 | _ => 0)

theorem dig_neg {x : Int} (h : x.tmod 10 < 0) : wrap64 (-x.tmod 10) = ((x.natAbs % 10 : Nat) : Int) ∧ wrap64 (48 + ((x.natAbs % 10 : Nat) : Int)) % 256 = ((48 + x.natAbs % 10 : Nat) : Int) := by
  have h1 : (x.tmod 10).natAbs = x.natAbs % 10 := by rw [Int.natAbs_tmod]; rfl
  unfold wrap64
  omega

theorem dig_pos {x : Int} (h : ¬ x.tmod 10 < 0) : x.tmod 10 = ((x.natAbs % 10 : Nat) : Int) ∧ wrap64 (48 + ((x.natAbs % 10 : Nat) : Int)) % 256 = ((48 + x.natAbs % 10 : Nat) : Int) := by
  have h1 : (x.tmod 10).natAbs = x.natAbs % 10 := by rw [Int.natAbs_tmod]; rfl
  unfold wrap64
  omega

theorem tdiv10 {x : Int} (h0 : -9223372036854775808 ≤ x) (h1 : x ≤ 9223372036854775807) : wrap64 (x.tdiv 10) = x.tdiv 10 ∧ -9223372036854775808 ≤ x.tdiv 10 ∧ x.tdiv 10 ≤ 9223372036854775807 := by
  have h2 : (x.tdiv 10).natAbs = x.natAbs / 10 := by rw [Int.natAbs_tdiv]; rfl
  unfold wrap64
  omega

set_option maxRecDepth 20000 in
set_option maxHeartbeats 800000 in
theorem l13Int_any (n : Int) (h0 : -9223372036854775808 ≤ n) (h1 : n ≤ 9223372036854775807) (w : World) :
    Calls Tryd.prog 40 #[.int .i64 n] w fun e w' => e = .returned (.string ⟨(Lib.itoa n).toArray⟩) ∧ Below w.heap.size w w' := by
  obtain ⟨b, hb⟩ : ∃ b, b = decide (n < 0) := ⟨_, rfl⟩
  have HB : Hid (b = decide (n < 0)) := hb
  have hb' := hb.symm
  clear hb
  go_enter Tryd.func40, Tryd.ntmps40
  go_wp2
  go_loopw [0, 3] (fun v t wr => ∃ (x : Int) (S : ByteArray), v = .int .i64 x ∧ t = .string S ∧ -9223372036854775808 ≤ x ∧ x ≤ 9223372036854775807 ∧ Hid (itoAt n.natAbs x S.data.toList) ∧ Below w.heap.size w wr)
    (fun v t _ => itoM v t)
  case atStart => exact ⟨n, ⟨#[]⟩, rfl, rfl, h0, h1, (Or.inl ⟨rfl, rfl⟩ : itoAt _ _ _), Below.refl _ _⟩
  case round =>
    obtain ⟨x, S, rfl, rfl, hx0, hx1, hI, hB⟩ := hrel
    have hlen := itoAt_len hI.out (by omega)
    have hsz : S.size = S.data.toList.length := by rw [Array.length_toList]; rfl
    have hg : ¬ 9223372036854775807 < 1 + S.size := by omega
    have hE : S.toList.isEmpty = S.data.toList.isEmpty := by rw [Go.ByteArray.toList_eq]
    obtain ⟨ht, ht0, ht1⟩ := tdiv10 hx0 hx1
    have hcv := conv_new
    obtain ⟨d, hd⟩ : ∃ d : Int, d = ((48 + x.natAbs % 10 : Nat) : Int) := ⟨_, rfl⟩
    obtain ⟨q, hq⟩ : ∃ q : Int, q = ((x.natAbs % 10 : Nat) : Int) := ⟨_, rfl⟩
    obtain ⟨y, hy⟩ : ∃ y : Int, y = x.tdiv 10 := ⟨_, rfl⟩
    have hA : UInt8.ofNat (48 + x.natAbs % 10) :: S.data.toList = ((⟨#[UInt8.ofNat d.toNat]⟩ : ByteArray) ++ S).data.toList := by
      rw [hd, ByteArray.data_append, Array.toList_append, Int.toNat_natCast]; rfl
    cases hc : (S.data.toList.isEmpty || x != 0) with
    | true =>
      have hc2 : S.data.toList = [] ∨ x ≠ 0 := by
        cases h1 : S.data.toList.isEmpty with
        | true => exact Or.inl (List.isEmpty_iff.1 h1)
        | false => rw [h1] at hc; exact Or.inr (by simpa using hc)
      have hN := itoAt_next hI.out hc2
      rw [hA, ← hy] at hN
      have HN : Hid (itoAt n.natAbs y ((⟨#[UInt8.ofNat d.toNat]⟩ : ByteArray) ++ S).data.toList) := hN
      have hm : 2 * (x.tdiv 10).natAbs < 2 * x.natAbs + (if S.size = 0 then 1 else 0) := by
        have h2 : (x.tdiv 10).natAbs = x.natAbs / 10 := by rw [Int.natAbs_tdiv]; rfl
        split
        · omega
        · rename_i hz
          rcases hc2 with h | h
          · rw [h] at hsz; exact absurd hsz hz
          · omega
      rw [← hy] at ht ht0 ht1 hm
      have HM : Hid (2 * y.natAbs < 2 * x.natAbs + (if S.size = 0 then 1 else 0)) := hm
      have g3 : x.tdiv 10 = y := hy.symm
      clear hm hN hc2 hA hsz hlen hI hy
      by_cases hneg : x.tmod 10 < 0
      · obtain ⟨g1, g2⟩ := dig_neg hneg
        rw [← hq] at g1
        rw [← hq, ← hd] at g2
        clear hq hd
        cases he : S.data.toList.isEmpty with
        | true =>
          rw [he] at hE
          rw [he] at hc
          clear he
          clear hc
          go_wp2
          go_roundw
          case rel => exact ⟨y, _, rfl, rfl, ht0, ht1, HN, hB.alloc hB.size _⟩
          case measure => exact HM.out
        | false =>
          rw [he] at hE
          rw [he] at hc
          clear he
          simp only [Bool.false_or] at hc
          go_wp2
          go_roundw
          case rel => exact ⟨y, _, rfl, rfl, ht0, ht1, HN, hB.alloc hB.size _⟩
          case measure => exact HM.out
      · obtain ⟨g1, g2⟩ := dig_pos hneg
        rw [← hq] at g1
        rw [← hq, ← hd] at g2
        clear hq hd
        cases he : S.data.toList.isEmpty with
        | true =>
          rw [he] at hE
          rw [he] at hc
          clear he
          clear hc
          go_wp2
          go_roundw
          case rel => exact ⟨y, _, rfl, rfl, ht0, ht1, HN, hB.alloc hB.size _⟩
          case measure => exact HM.out
        | false =>
          rw [he] at hE
          rw [he] at hc
          clear he
          simp only [Bool.false_or] at hc
          go_wp2
          go_roundw
          case rel => exact ⟨y, _, rfl, rfl, ht0, ht1, HN, hB.alloc hB.size _⟩
          case measure => exact HM.out
    | false =>
      rw [Bool.or_eq_false_iff] at hc
      obtain ⟨he, hx⟩ := hc
      rw [he] at hE
      have hne : S.data.toList ≠ [] := fun h => by rw [h] at he; cases he
      have hx2 : x = 0 := by simpa using hx
      subst hx2
      have hF := itoAt_end hI.out hne
      have HF : Hid (S.data.toList = Lib.decDigits n.natAbs) := hF
      clear hF hne he hsz hlen hI hA hd hq hy hx ht ht0 ht1
      cases b with
      | true =>
        have H0 : Hid (({ data := #[45] } : ByteArray) ++ S = ⟨(Lib.itoa n).toArray⟩) := by
          have hn : n < 0 := of_decide_eq_true HB.out.symm
          apply ByteArray.ext
          rw [ByteArray.data_append]
          apply Array.toList_inj.1
          rw [Array.toList_append, HF.out]
          simp [Lib.itoa, hn]
        go_wp2
        go_ret
        exact ⟨by rw [← H0.out]; rfl, hB⟩
      | false =>
        have H0 : Hid (S = ⟨(Lib.itoa n).toArray⟩) := by
          have hn : ¬ n < 0 := of_decide_eq_false HB.out.symm
          apply ByteArray.ext
          apply Array.toList_inj.1
          rw [HF.out]
          have : n.natAbs = n.toNat := by omega
          simp [Lib.itoa, hn, this]
        go_wp2
        go_ret
        exact ⟨by rw [← H0.out]; rfl, hB⟩

end Go.Proofs.YtjjpklalihaanaaDoor
