/- Own lemmas. -/
import Derived.Test.YtjjpklalihaanaaDoorK01
import Derived.Test.YtjjpklalihaanaaDoorK02
import Derived.Test.YtjjpklalihaanaaDoorProg
import Derived.WalkKit
import Derived.Lib.ItoaNum
import Derived.Lib.ItoaLen
namespace Go.Proofs.YtjjpklalihaanaaDoor
open Go.RowKit
set_option linter.unusedVariables false

def itoAt (u : Nat) (n : Int) (s : List UInt8) : Prop :=
  (s = [] ∧ n.natAbs = u) ∨ (s ≠ [] ∧ ((n = 0 ∧ Lib.decDigits u = s) ∨ (n ≠ 0 ∧ Lib.decDigits u = Lib.decDigits n.natAbs ++ s)))

theorem itoAt_next {u : Nat} {n : Int} {s : List UInt8} (h : itoAt u n s) (hn : s = [] ∨ n ≠ 0) : itoAt u (n.tdiv 10) (UInt8.ofNat (48 + n.natAbs % 10) :: s) := by
  have hd : (n.tdiv 10).natAbs = n.natAbs / 10 := by rw [Int.natAbs_tdiv]; rfl
  have key : Lib.decDigits u = Lib.decDigits n.natAbs ++ s := by
    rcases h with ⟨rfl, rfl⟩ | ⟨hs, ⟨h0, h1⟩ | ⟨h0, h1⟩⟩
    · simp
    · rcases hn with h | h
      · exact absurd h hs
      · exact absurd h0 h
    · exact h1
  refine Or.inr ⟨by simp, ?_⟩
  by_cases h10 : n.natAbs < 10
  · refine Or.inl ⟨?_, ?_⟩
    · apply Int.natAbs_eq_zero.1; rw [hd]; omega
    · rw [key, Lib.decDigits_one h10, Nat.mod_eq_of_lt h10]; rfl
  · refine Or.inr ⟨?_, ?_⟩
    · intro h; rw [h] at hd; simp at hd; omega
    · rw [key, hd, Lib.decDigits, dif_neg h10]; simp

theorem itoAt_end {u : Nat} {s : List UInt8} (h : itoAt u 0 s) (hs : s ≠ []) : s = Lib.decDigits u := by
  rcases h with ⟨h, _⟩ | ⟨_, ⟨_, h⟩ | ⟨h, _⟩⟩
  · exact absurd h hs
  · exact h.symm
  · exact absurd rfl h

theorem itoAt_len {u : Nat} {n : Int} {s : List UInt8} (h : itoAt u n s) (hu : u < 18446744073709551616) : s.length ≤ 20 := by
  have hd : (Lib.decDigits u).length ≤ 20 := by rw [Lib.decDigits_length]; exact Lib.nDigits_le20 u hu
  rcases h with ⟨rfl, _⟩ | ⟨_, ⟨_, h⟩ | ⟨_, h⟩⟩
  · simp
  · rw [← h]; exact hd
  · rw [h] at hd; simp at hd; omega

theorem conv_new (d : Int) (w : World) : (convert 22 9 (.slice (some ⟨w.heap.size, 0, none⟩) 1 1)).run Tryd.prog (w.alloc (.cells #[.int .u8 d] 5 (0, 0))) = .ok (.string ⟨#[UInt8.ofNat d.toNat]⟩) (w.alloc (.cells #[.int .u8 d] 5 (0, 0))) := by
  refine run_convert_bytes_arg (w.alloc (.cells #[.int .u8 d] 5 (0, 0))) 22 5 Tryd.underlying22 Tryd.underlying5 w.heap.size 0 1 1 [d] rfl (fun i hi => ?_) 9 Tryd.underlying9
  have : i = 0 := by omega
  subst this
  have h : (w.alloc (.cells #[.int .u8 d] 5 (0, 0))).heap[w.heap.size]? = some (.cells #[.int .u8 d] 5 (0, 0)) := heap_alloc_new _ _
  simp only [World.cell?, h]
  rfl

def itoM (v t : Value) : Nat := 2 * (intOf v).natAbs + (match t with | .string S => if S.size = 0 then 1 else 0 | _ => 0)

theorem dig_neg {x : Int} (h : x.tmod 10 < 0) : wrap64 (-x.tmod 10) = ((x.natAbs % 10 : Nat) : Int) ∧ wrap64 (48 + ((x.natAbs % 10 : Nat) : Int)) % 256 = ((48 + x.natAbs % 10 : Nat) : Int) := by
  have h1 : (x.tmod 10).natAbs = x.natAbs % 10 := by rw [Int.natAbs_tmod]; rfl
  unfold wrap64
  omega

theorem dig_pos {x : Int} (h : ¬ x.tmod 10 < 0) : x.tmod 10 = ((x.natAbs % 10 : Nat) : Int) ∧ wrap64 (48 + ((x.natAbs % 10 : Nat) : Int)) % 256 = ((48 + x.natAbs % 10 : Nat) : Int) := by
  have h1 : (x.tmod 10).natAbs = x.natAbs % 10 := by rw [Int.natAbs_tmod]; rfl
  unfold wrap64
  omega

theorem tdiv10 {x : Int} (h0 : -9223372036854775808 ≤ x) (h1 : x ≤ 9223372036854775807) : wrap64 (x.tdiv 10) = x.tdiv 10 ∧ -9223372036854775808 ≤ x.tdiv 10 ∧ x.tdiv 10 ≤ 9223372036854775807 := by
  have h2 : (x.tdiv 10).natAbs = x.natAbs / 10 := by rw [Int.natAbs_tdiv]; rfl
  unfold wrap64
  omega

set_option maxRecDepth 20000 in
set_option maxHeartbeats 800000 in
theorem l13Int_any (n : Int) (h0 : -9223372036854775808 ≤ n) (h1 : n ≤ 9223372036854775807) (w : World) :
    Calls Tryd.prog 40 #[.int .i64 n] w fun e w' => e = .returned (.string ⟨(Lib.itoa n).toArray⟩) ∧ Below w.heap.size w w' := by
  obtain ⟨b, hb⟩ : ∃ b, b = decide (n < 0) := ⟨_, rfl⟩
  have HB : Hid (b = decide (n < 0)) := hb
  have hb' := hb.symm
  clear hb
  go_enter Tryd.func40, Tryd.ntmps40
  go_wp2
  go_loopw [0, 3] (fun v t wr => ∃ (x : Int) (S : ByteArray), v = .int .i64 x ∧ t = .string S ∧ -9223372036854775808 ≤ x ∧ x ≤ 9223372036854775807 ∧ Hid (itoAt n.natAbs x S.data.toList) ∧ Below w.heap.size w wr)
    (fun v t _ => itoM v t)
  case atStart => exact ⟨n, ⟨#[]⟩, rfl, rfl, h0, h1, (Or.inl ⟨rfl, rfl⟩ : itoAt _ _ _), Below.refl _ _⟩
  case round =>
    obtain ⟨x, S, rfl, rfl, hx0, hx1, hI, hB⟩ := hrel
    have hlen := itoAt_len hI.out (by omega)
    have hsz : S.size = S.data.toList.length := by rw [Array.length_toList]; rfl
    have hg : ¬ 9223372036854775807 < 1 + S.size := by omega
    have hE : S.toList.isEmpty = S.data.toList.isEmpty := by rw [Go.ByteArray.toList_eq]
    obtain ⟨ht, ht0, ht1⟩ := tdiv10 hx0 hx1
    have hcv := conv_new
    obtain ⟨d, hd⟩ : ∃ d : Int, d = ((48 + x.natAbs % 10 : Nat) : Int) := ⟨_, rfl⟩
    obtain ⟨q, hq⟩ : ∃ q : Int, q = ((x.natAbs % 10 : Nat) : Int) := ⟨_, rfl⟩
    obtain ⟨y, hy⟩ : ∃ y : Int, y = x.tdiv 10 := ⟨_, rfl⟩
    have hA : UInt8.ofNat (48 + x.natAbs % 10) :: S.data.toList = ((⟨#[UInt8.ofNat d.toNat]⟩ : ByteArray) ++ S).data.toList := by
      rw [hd, ByteArray.data_append, Array.toList_append, Int.toNat_natCast]; rfl
    cases hc : (S.data.toList.isEmpty || x != 0) with
    | true =>
      have hc2 : S.data.toList = [] ∨ x ≠ 0 := by
        cases h1 : S.data.toList.isEmpty with
        | true => exact Or.inl (List.isEmpty_iff.1 h1)
        | false => rw [h1] at hc; exact Or.inr (by simpa using hc)
      have hN := itoAt_next hI.out hc2
      rw [hA, ← hy] at hN
      have HN : Hid (itoAt n.natAbs y ((⟨#[UInt8.ofNat d.toNat]⟩ : ByteArray) ++ S).data.toList) := hN
      have hm : 2 * (x.tdiv 10).natAbs < 2 * x.natAbs + (if S.size = 0 then 1 else 0) := by
        have h2 : (x.tdiv 10).natAbs = x.natAbs / 10 := by rw [Int.natAbs_tdiv]; rfl
        split
        · omega
        · rename_i hz
          rcases hc2 with h | h
          · rw [h] at hsz; exact absurd hsz hz
          · omega
      rw [← hy] at ht ht0 ht1 hm
      have HM : Hid (2 * y.natAbs < 2 * x.natAbs + (if S.size = 0 then 1 else 0)) := hm
      have g3 : x.tdiv 10 = y := hy.symm
      clear hm hN hc2 hA hsz hlen hI hy
      by_cases hneg : x.tmod 10 < 0
      · obtain ⟨g1, g2⟩ := dig_neg hneg
        rw [← hq] at g1
        rw [← hq, ← hd] at g2
        clear hq hd
        cases he : S.data.toList.isEmpty with
        | true =>
          rw [he] at hE
          rw [he] at hc
          clear he
          clear hc
          go_wp2
          go_roundw
          case rel => exact ⟨y, _, rfl, rfl, ht0, ht1, HN, hB.alloc hB.size _⟩
          case measure => exact HM.out
        | false =>
          rw [he] at hE
          rw [he] at hc
          clear he
          simp only [Bool.false_or] at hc
          go_wp2
          go_roundw
          case rel => exact ⟨y, _, rfl, rfl, ht0, ht1, HN, hB.alloc hB.size _⟩
          case measure => exact HM.out
      · obtain ⟨g1, g2⟩ := dig_pos hneg
        rw [← hq] at g1
        rw [← hq, ← hd] at g2
        clear hq hd
        cases he : S.data.toList.isEmpty with
        | true =>
          rw [he] at hE
          rw [he] at hc
          clear he
          clear hc
          go_wp2
          go_roundw
          case rel => exact ⟨y, _, rfl, rfl, ht0, ht1, HN, hB.alloc hB.size _⟩
          case measure => exact HM.out
        | false =>
          rw [he] at hE
          rw [he] at hc
          clear he
          simp only [Bool.false_or] at hc
          go_wp2
          go_roundw
          case rel => exact ⟨y, _, rfl, rfl, ht0, ht1, HN, hB.alloc hB.size _⟩
          case measure => exact HM.out
    | false =>
      rw [Bool.or_eq_false_iff] at hc
      obtain ⟨he, hx⟩ := hc
      rw [he] at hE
      have hne : S.data.toList ≠ [] := fun h => by rw [h] at he; cases he
      have hx2 : x = 0 := by simpa using hx
      subst hx2
      have hF := itoAt_end hI.out hne
      have HF : Hid (S.data.toList = Lib.decDigits n.natAbs) := hF
      clear hF hne he hsz hlen hI hA hd hq hy hx ht ht0 ht1
      cases b with
      | true =>
        have H0 : Hid (({ data := #[45] } : ByteArray) ++ S = ⟨(Lib.itoa n).toArray⟩) := by
          have hn : n < 0 := of_decide_eq_true HB.out.symm
          apply ByteArray.ext
          rw [ByteArray.data_append]
          apply Array.toList_inj.1
          rw [Array.toList_append, HF.out]
          simp [Lib.itoa, hn]
        go_wp2
        go_ret
        exact ⟨by rw [← H0.out]; rfl, hB⟩
      | false =>
        have H0 : Hid (S = ⟨(Lib.itoa n).toArray⟩) := by
          have hn : ¬ n < 0 := of_decide_eq_false HB.out.symm
          apply ByteArray.ext
          apply Array.toList_inj.1
          rw [HF.out]
          have : n.natAbs = n.toNat := by omega
          simp [Lib.itoa, hn, this]
        go_wp2
        go_ret
        exact ⟨by rw [← H0.out]; rfl, hB⟩

def maskOf : List (Nat × Bool) → Nat
  | [] => 0
  | (n, b) :: l => (if b then 2 ^ n - 1 else 0) + 2 ^ n * maskOf l

def runs : List (Nat × Bool) → Nat → Nat
  | [], _ => 0
  | (n, b) :: l, x => (if b then x % 2 ^ n else 0) + 2 ^ n * runs l (x / 2 ^ n)

theorem and_runs : ∀ (l : List (Nat × Bool)) (x : Nat), x &&& maskOf l = runs l x := by
  intro l
  induction l with
  | nil => intro x; simp [maskOf, runs]
  | cons p l ih =>
    intro x
    obtain ⟨n, b⟩ := p
    have hp : 0 < 2 ^ n := Nat.two_pow_pos n
    have h1 : maskOf ((n, b) :: l) / 2 ^ n = maskOf l := by
      rw [maskOf, Nat.add_mul_div_left _ _ hp, Nat.div_eq_of_lt, Nat.zero_add]
      cases b <;> simp <;> omega
    have h2 : maskOf ((n, b) :: l) % 2 ^ n = if b then 2 ^ n - 1 else 0 := by
      rw [maskOf, Nat.add_mul_mod_self_left, Nat.mod_eq_of_lt]
      cases b <;> simp <;> omega
    rw [and_split x _ n, h1, h2, ih, runs]
    cases b
    · simp
    · simp only [if_true]
      rw [and_ones, Nat.mod_mod]
      omega

theorem and64 (x : Int) (m : Nat) (l : List (Nat × Bool)) (h0 : 0 ≤ x) (h1 : x < 4294967296) (hm : m = maskOf l) (hb : m < 18446744073709551616) : bits .and .u64 x (m : Int) = (runs l x.toNat : Nat) := by
  subst hm
  rw [u64_and x _ h0 (by omega) (by omega) (by omega), Int.toNat_natCast, and_runs]

theorem andU (x : Int) (h0 : 0 ≤ x) (h1 : x < 4294967296) : bits .and .u64 x 127 = x % 128 := by
  have h := and64 x 127 [(7, true)] h0 h1 (by decide) (by decide)
  rw [show ((127 : Nat) : Int) = 127 from rfl] at h
  rw [h]; simp [runs]; omega

theorem andI (x : Int) (h0 : 0 ≤ x) (h1 : x < 4294967296) : bits .and .u64 x 28799 = x % 128 + x / 4096 % 8 * 4096 := by
  have h := and64 x 28799 [(7, true), (5, false), (3, true)] h0 h1 (by decide) (by decide)
  rw [show ((28799 : Nat) : Int) = 28799 from rfl] at h
  rw [h]; simp [runs]; omega

theorem andR (x : Int) (h0 : 0 ≤ x) (h1 : x < 4294967296) : bits .and .u64 x 4261441663 = x % 128 + x / 4096 % 8 * 4096 + x / 33554432 * 33554432 := by
  have h := and64 x 4261441663 [(7, true), (5, false), (3, true), (10, false), (7, true)] h0 h1 (by decide) (by decide)
  rw [show ((4261441663 : Nat) : Int) = 4261441663 from rfl] at h
  rw [h]; simp [runs]; omega

theorem andR2 (x : Int) (h0 : 0 ≤ x) (h1 : x < 4294967296) : bits .and .u64 x 4261445631 = x % 32768 + x / 33554432 * 33554432 := by
  have h := and64 x 4261445631 [(15, true), (10, false), (7, true)] h0 h1 (by decide) (by decide)
  rw [show ((4261445631 : Nat) : Int) = 4261445631 from rfl] at h
  rw [h]; simp [runs]; omega

theorem andH (x : Int) (h0 : 0 ≤ x) (h1 : x < 4294967296) : bits .and .u64 x 4227887231 = x % 128 + x / 4096 % 8 * 4096 + x / 67108864 * 67108864 := by
  have h := and64 x 4227887231 [(7, true), (5, false), (3, true), (11, false), (6, true)] h0 h1 (by decide) (by decide)
  rw [show ((4227887231 : Nat) : Int) = 4227887231 from rfl] at h
  rw [h]; simp [runs]; omega

theorem andA (x : Int) (h0 : 0 ≤ x) (h1 : x < 4294967296) : bits .and .u64 x 4160778367 = x % 128 + x / 4096 % 8 * 4096 + x / 134217728 * 134217728 := by
  have h := and64 x 4160778367 [(7, true), (5, false), (3, true), (12, false), (5, true)] h0 h1 (by decide) (by decide)
  rw [show ((4160778367 : Nat) : Int) = 4160778367 from rfl] at h
  rw [h]; simp [runs]; omega

theorem andA2 (x : Int) (h0 : 0 ≤ x) (h1 : x < 4294967296) : bits .and .u64 x 4193284223 = x % 128 + x / 4096 % 8 * 4096 + x / 1048576 % 32 * 1048576 + x / 134217728 * 134217728 := by
  have h := and64 x 4193284223 [(7, true), (5, false), (3, true), (5, false), (5, true), (2, false), (5, true)] h0 h1 (by decide) (by decide)
  rw [show ((4193284223 : Nat) : Int) = 4193284223 from rfl] at h
  rw [h]; simp [runs]; omega

theorem andX (x : Int) (h0 : 0 ≤ x) (h1 : x < 4294967296) : bits .and .u64 x 4294967295 = x := by
  have h := and64 x 4294967295 [(32, true)] h0 h1 (by decide) (by decide)
  rw [show ((4294967295 : Nat) : Int) = 4294967295 from rfl] at h
  rw [h]; simp [runs]; omega

def rowOk (k : Nat) (r : Row) : Bool := decide (0 ≤ r.op ∧ r.op < 128 ∧ 0 ≤ r.more ∧ (k = 97 → r.fm = .r) ∧ (k = 62 ∨ k = 73 → r.fm = .a)) &&
  (match r.fm with
  | .r => decide (r.more < 128 ∧ 0 ≤ r.f3 ∧ r.f3 < 8)
  | .w => decide (r.more < 128 ∧ 0 ≤ r.f3 ∧ r.f3 < 8)
  | .h => decide (r.more < 64 ∧ 0 ≤ r.f3 ∧ r.f3 < 8)
  | .a => decide (r.more < 32 ∧ 0 ≤ r.f3 ∧ r.f3 < 8)
  | .x => decide (r.more < 4096 ∧ r.f3 = 0)
  | .u => decide (r.more = 0 ∧ r.f3 = -1)
  | .j => decide (r.more = 0 ∧ r.f3 = -1)
  | _ => decide (r.more = 0 ∧ 0 ≤ r.f3 ∧ r.f3 < 8))

theorem rows_ok : ∀ k, k < 98 → rowOk k (rowAt k) = true := by
  have h : (List.range 98).all (fun k => rowOk k (rowAt k)) = true := by kernel_rfl
  intro k hk
  exact List.all_eq_true.1 h k (by simpa using hk)

theorem bitsI_eq (f : Fm) (o z m : Int) (h0 : 0 ≤ o) (h1 : o < 128) (h2 : 0 ≤ z) (h3 : z < 8) (h4 : 0 ≤ m) (h5 : m < 2 ^ (32 - f.at)) (h6 : f.at = 0 → m = 0) : bitsI f o z m = o + z * 4096 + m * 2 ^ f.at := by
  unfold bitsI
  have e1 : IntKind.u64.wrap (z * 4096) = z * 2 ^ 12 := by rw [IntKind.wrap_u64]; omega
  have e2 : bits .or .u64 o (z * 2 ^ 12) = o + z * 2 ^ 12 := or64 o z 12 3 h0 (by omega) h2 h3 (by omega) (by omega)
  rw [e1, e2]
  by_cases ha : f.at = 0
  · have hm := h6 ha
    subst hm
    have e3 : IntKind.u64.wrap (0 * 2 ^ f.at) = 0 := by rw [Int.zero_mul]; rfl
    have e4 : bits .or .u64 (o + z * 2 ^ 12) 0 = o + z * 2 ^ 12 := by
      have := or64 (o + z * 2 ^ 12) 0 0 1 (by omega) (by omega) (by omega) (by omega) (by omega)
      rw [u64_or _ _ (by omega) (by omega) (by omega) (by omega)]
      simp; omega
    rw [e3, e4]; omega
  · have ht : f.at = 20 ∨ f.at = 25 ∨ f.at = 26 ∨ f.at = 27 := by cases f <;> simp [Fm.at] at ha ⊢
    rcases ht with ht | ht | ht | ht <;> rw [ht] at h5 ⊢
    · have e3 : IntKind.u64.wrap (m * 2 ^ 20) = m * 2 ^ 20 := by rw [IntKind.wrap_u64]; omega
      rw [e3, or64 (o + z * 2 ^ 12) m 20 12 (by omega) (by omega) h4 (by omega) (by omega) (by omega)]; omega
    · have e3 : IntKind.u64.wrap (m * 2 ^ 25) = m * 2 ^ 25 := by rw [IntKind.wrap_u64]; omega
      rw [e3, or64 (o + z * 2 ^ 12) m 25 7 (by omega) (by omega) h4 (by omega) (by omega) (by omega)]; omega
    · have e3 : IntKind.u64.wrap (m * 2 ^ 26) = m * 2 ^ 26 := by rw [IntKind.wrap_u64]; omega
      rw [e3, or64 (o + z * 2 ^ 12) m 26 6 (by omega) (by omega) h4 (by omega) (by omega) (by omega)]; omega
    · have e3 : IntKind.u64.wrap (m * 2 ^ 27) = m * 2 ^ 27 := by rw [IntKind.wrap_u64]; omega
      rw [e3, or64 (o + z * 2 ^ 12) m 27 5 (by omega) (by omega) h4 (by omega) (by omega) (by omega)]; omega

theorem match_eq (k : Nat) (r : Row) (hr : rowOk k r = true) (x : Int) (h0 : 0 ≤ x) (h1 : x < 4294967296) :
    (bits .and .u64 x (maskI ((k : Int) + 1) r.fm) == bitsI r.fm r.op r.f3z r.more) = decide (matchP k r.fm r.op r.f3 r.more x) := by
  obtain ⟨nm, f, o, z, m⟩ := r
  simp only [rowOk, Bool.and_eq_true, decide_eq_true_eq] at hr
  obtain ⟨⟨b0, b1, b2, b3, b4⟩, hf⟩ := hr
  simp only [Row.f3z]
  rw [Bool.eq_iff_iff, beq_iff_eq, decide_eq_true_iff]
  have M98 : ∀ f, maskI 98 f = bits .or .u64 (Fm.mask f) 3968 := fun f => by rw [maskI, if_pos rfl]
  cases f
  case r =>
    simp only [decide_eq_true_eq] at hf
    rw [if_neg (by omega), bitsI_eq .r o z m b0 b1 (by omega) (by omega) b2 (by simp [Fm.at]; omega) (by simp [Fm.at])]
    by_cases hk : k = 97
    · subst hk
      have e : maskI (((97 : Nat) : Int) + 1) .r = 4261445631 := by decide
      rw [e, andR2 x h0 h1]
      simp only [matchP, Fm.at, forall_const]
      omega
    · have e : maskI ((k : Int) + 1) .r = 4261441663 := by
        have h63 : ¬ (k = 62 ∨ k = 73) := fun h => by cases b4 h
        rw [maskI, if_neg (by omega), if_neg (by omega)]; rfl
      rw [e, andR x h0 h1]
      simp only [matchP, Fm.at]
      omega
  case a =>
    simp only [decide_eq_true_eq] at hf
    have hk97 : ¬ k = 97 := fun h => by cases b3 h
    rw [if_neg (by omega), bitsI_eq .a o z m b0 b1 (by omega) (by omega) b2 (by simp [Fm.at]; omega) (by simp [Fm.at])]
    by_cases hk : k = 62 ∨ k = 73
    · have e : maskI ((k : Int) + 1) .a = 4193284223 := by
        rw [maskI, if_neg (by omega), if_pos (by omega)]; decide
      rw [e, andA2 x h0 h1]
      simp only [matchP, Fm.at]
      omega
    · have e : maskI ((k : Int) + 1) .a = 4160778367 := by
        rw [maskI, if_neg (by omega), if_neg (by omega)]; rfl
      rw [e, andA x h0 h1]
      simp only [matchP, Fm.at]
      omega
  all_goals (
    have hk97 : ¬ k = 97 := fun h => by cases b3 h
    have hk62 : ¬ (k = 62 ∨ k = 73) := fun h => by cases b4 h
    simp only [decide_eq_true_eq] at hf
    rw [maskI, if_neg (by omega), if_neg (by omega)]
    simp only [Fm.mask])
  case h =>
    rw [if_neg (by omega), bitsI_eq .h o z m b0 b1 (by omega) (by omega) b2 (by simp [Fm.at]; omega) (by simp [Fm.at]), andH x h0 h1]
    simp only [matchP, Fm.at]
    omega
  case w =>
    rw [if_neg (by omega), bitsI_eq .w o z m b0 b1 (by omega) (by omega) b2 (by simp [Fm.at]; omega) (by simp [Fm.at]), andR x h0 h1]
    simp only [matchP, Fm.at]
    omega
  case x =>
    rw [if_neg (by omega), bitsI_eq .x o z m b0 b1 (by omega) (by omega) b2 (by simp [Fm.at]; omega) (by simp [Fm.at]), andX x h0 h1]
    simp only [matchP, Fm.at]
    omega
  case u =>
    rw [if_pos (by omega), bitsI_eq .u o 0 m b0 b1 (by omega) (by omega) b2 (by simp [Fm.at]; omega) (by intro _; omega), andU x h0 h1]
    simp only [matchP, Fm.at, and_true]
    omega
  case j =>
    rw [if_pos (by omega), bitsI_eq .j o 0 m b0 b1 (by omega) (by omega) b2 (by simp [Fm.at]; omega) (by intro _; omega), andU x h0 h1]
    simp only [matchP, Fm.at, and_true]
    omega
  case i =>
    rw [if_neg (by omega), bitsI_eq .i o z m b0 b1 (by omega) (by omega) b2 (by simp [Fm.at]; omega) (by intro _; omega), andI x h0 h1]
    simp only [matchP, Fm.at, and_true]
    omega
  case s =>
    rw [if_neg (by omega), bitsI_eq .s o z m b0 b1 (by omega) (by omega) b2 (by simp [Fm.at]; omega) (by intro _; omega), andI x h0 h1]
    simp only [matchP, Fm.at, and_true]
    omega
  case b =>
    rw [if_neg (by omega), bitsI_eq .b o z m b0 b1 (by omega) (by omega) b2 (by simp [Fm.at]; omega) (by intro _; omega), andI x h0 h1]
    simp only [matchP, Fm.at, and_true]
    omega
  case c =>
    rw [if_neg (by omega), bitsI_eq .c o z m b0 b1 (by omega) (by omega) b2 (by simp [Fm.at]; omega) (by intro _; omega), andI x h0 h1]
    simp only [matchP, Fm.at, and_true]
    omega

theorem fld_is (x : Int) (k n : Nat) : fld x k n = x / 2 ^ k % 2 ^ n := rfl

theorem immF_eq (f : Fm) (x : Int) (h0 : 0 ≤ x) (h1 : x < 4294967296) : immF x f.pcs = immU f x := by
  have Z : ∀ y : Int, 0 ≤ y → y < 18446744073709551616 → bits .or .u64 0 (IntKind.u64.wrap y) = y := by
    intro y h2 h3
    have e : IntKind.u64.wrap y = y := by rw [IntKind.wrap_u64]; omega
    rw [e, u64_or 0 y (by omega) (by omega) h2 h3]
    simp; omega
  have W : ∀ y : Int, 0 ≤ y → y < 18446744073709551616 → IntKind.u64.wrap y = y := by
    intro y h2 h3
    rw [IntKind.wrap_u64]; omega
  cases f <;> simp only [Fm.pcs, immF, List.foldl_cons, List.foldl_nil, immU, fld_is]
  case i => rw [Z _ (by omega) (by omega)]; omega
  case h => rw [Z _ (by omega) (by omega)]; omega
  case w => rw [Z _ (by omega) (by omega)]; omega
  case u => rw [Z _ (by omega) (by omega)]; omega
  case a => rw [Z _ (by omega) (by omega)]; omega
  case c => rw [Z _ (by omega) (by omega)]; omega
  case s =>
    rw [Z _ (by omega) (by omega), W _ (by omega) (by omega), or64 _ (x / 2 ^ 7 % 2 ^ 5) 0 5 (by omega) (by omega) (by omega) (by omega) (by omega) (by omega)]
    omega
  case b =>
    rw [Z _ (by omega) (by omega), W _ (by omega) (by omega), or64 _ (x / 2 ^ 7 % 2 ^ 1) 11 1 (by omega) (by omega) (by omega) (by omega) (by omega) (by omega),
      W _ (by omega) (by omega), or64 _ (x / 2 ^ 25 % 2 ^ 6) 5 6 (by omega) (by omega) (by omega) (by omega) (by omega) (by omega),
      W _ (by omega) (by omega), or64 _ (x / 2 ^ 8 % 2 ^ 4) 1 4 (by omega) (by omega) (by omega) (by omega) (by omega) (by omega)]
    omega
  case j =>
    rw [Z _ (by omega) (by omega), W _ (by omega) (by omega), or64 _ (x / 2 ^ 12 % 2 ^ 8) 12 8 (by omega) (by omega) (by omega) (by omega) (by omega) (by omega),
      W _ (by omega) (by omega), or64 _ (x / 2 ^ 20 % 2 ^ 1) 11 1 (by omega) (by omega) (by omega) (by omega) (by omega) (by omega),
      W _ (by omega) (by omega), or64 _ (x / 2 ^ 21 % 2 ^ 10) 1 10 (by omega) (by omega) (by omega) (by omega) (by omega) (by omega)]
    omega

def insAt (k : Nat) (x : Int) : Ins := ⟨(k : Int) + 1, rdV (rowAt k).fm x, aV (rowAt k).fm x, bV (rowAt k).fm x, immV (rowAt k).fm x⟩

def matchB (k : Nat) (x : Int) : Bool := decide (matchP k (rowAt k).fm (rowAt k).op (rowAt k).f3 (rowAt k).more x)

def findRow (x : Int) : Nat → Nat → Option Nat
  | 0, _ => none
  | n + 1, k => if matchB k x = true then some k else findRow x n (k + 1)

theorem findRow_hit (x : Int) (k : Nat) (hk : k < 98) (h : matchB k x = true) : findRow x (98 - k) k = some k := by
  rw [show 98 - k = (98 - (k + 1)) + 1 from by omega, findRow, if_pos h]

theorem findRow_miss (x : Int) (k : Nat) (hk : k < 98) (h : matchB k x = false) : findRow x (98 - k) k = findRow x (98 - (k + 1)) (k + 1) := by
  rw [show 98 - k = (98 - (k + 1)) + 1 from by omega, findRow, if_neg (by rw [h]; decide)]

def dec (x : Int) : Option Ins := if x < 4294967296 then (findRow x 98 0).map (fun k => insAt k x) else none

def noIns : Ins := ⟨0, 0, 0, 0, 0⟩

def decV (x : Int) : Value := match dec x with
  | some i => .tuple #[i.val, .bool true]
  | none => .tuple #[noIns.val, .bool false]

theorem decV_far (x : Int) (h : ¬ x < 4294967296) : decV x = .tuple #[noIns.val, .bool false] := by simp [decV, dec, h]

theorem decV_hit (x : Int) (k : Nat) (h : x < 4294967296) (hf : findRow x 98 0 = some k) : decV x = .tuple #[(insAt k x).val, .bool true] := by simp [decV, dec, h, hf]

theorem decV_miss (x : Int) (h : x < 4294967296) (hf : findRow x 98 0 = none) : decV x = .tuple #[noIns.val, .bool false] := by simp [decV, dec, h, hf]

def u64 (y : Int) : Int := IntKind.u64.wrap y

theorem u64_range (y : Int) : 0 ≤ u64 y ∧ u64 y < 18446744073709551616 := by
  unfold u64; rw [IntKind.wrap_u64]; omega

def layI1 (f : Fm) (o z m : Int) (rd : Int) : Int := if f.hasRd then bits .or .u64 (bitsI f o z m) (IntKind.u64.wrap (fld (u64 rd) 0 5 * 128)) else bitsI f o z m

def layI2 (f : Fm) (o z m : Int) (rd a : Int) : Int := if f.hasA then bits .or .u64 (layI1 f o z m rd) (IntKind.u64.wrap (fld (u64 a) 0 5 * 32768)) else layI1 f o z m rd

def layI3 (f : Fm) (o z m : Int) (rd a b : Int) : Int := if f.hasB then bits .or .u64 (layI2 f o z m rd a) (IntKind.u64.wrap (fld (u64 b) 0 5 * 1048576)) else layI2 f o z m rd a

def layP (imm : Int) (acc : Int) (l : List (Nat × Nat × Nat)) : Int := l.foldl (fun acc p => bits .or .u64 acc (IntKind.u64.wrap (fld (u64 imm) p.2.2 p.2.1 * 2 ^ p.1))) acc

def layI (f : Fm) (o z m : Int) (i : Ins) : Int := layP i.imm (layI3 f o z m i.rd i.a i.b) f.pcs

def base1 (o : Int) (i : Ins) : Int := bits .or .u64 (bits .or .u64 (bits .or .u64 o (i.rd * 128)) (i.a * 32768)) (i.b * 1048576)

def baseS (o z : Int) (i : Ins) : Int := if 0 < z then bits .or .u64 (base1 o i) (z * 4096) else base1 o i

def layS (f : Fm) (o z m : Int) (i : Ins) : Int :=
  match f with
  | .r => bits .or .u64 (baseS o z i) (m * 33554432)
  | .i => bits .or .u64 (baseS o z i) (u64 i.imm % 4096 * 1048576)
  | .c => bits .or .u64 (baseS o z i) (u64 i.imm % 4096 * 1048576)
  | .h => bits .or .u64 (bits .or .u64 (baseS o z i) (u64 i.imm % 64 * 1048576)) (m * 67108864)
  | .w => bits .or .u64 (bits .or .u64 (baseS o z i) (u64 i.imm % 32 * 1048576)) (m * 33554432)
  | .s => bits .or .u64 (bits .or .u64 (baseS o z i) (u64 i.imm % 32 * 128)) (u64 i.imm / 32 % 128 * 33554432)
  | .b => bits .or .u64 (bits .or .u64 (bits .or .u64 (bits .or .u64 (baseS o z i) (u64 i.imm / 2048 % 2 * 128)) (u64 i.imm / 2 % 16 * 256)) (u64 i.imm / 32 % 64 * 33554432)) (u64 i.imm / 4096 % 2 * 2147483648)
  | .u => bits .or .u64 (baseS o z i) (u64 i.imm / 4096 % 1048576 * 4096)
  | .j => bits .or .u64 (bits .or .u64 (bits .or .u64 (bits .or .u64 (baseS o z i) (u64 i.imm / 4096 % 256 * 4096)) (u64 i.imm / 2048 % 2 * 1048576)) (u64 i.imm / 2 % 1024 * 2097152)) (u64 i.imm / 1048576 % 2 * 2147483648)
  | .a => bits .or .u64 (bits .or .u64 (baseS o z i) (u64 i.imm % 4 * 33554432)) (m * 134217728)
  | .x => bits .or .u64 (baseS o z i) (m * 1048576)

theorem wid12 (v : Int) (h0 : 0 ≤ v) (h1 : v < 4096) : ∃ q : Int, 0 ≤ q ∧ u64 (wrap64 (widen 12 v)) = v + q * 4096 := by
  have e : (2 : Int) ^ (64 - 12) = 4503599627370496 := by decide
  unfold u64 widen
  rw [e, IntKind.wrap_u64, IntKind.wrap_u64, IntKind.wrap_u64]
  unfold wrap64
  by_cases h : v < 2048
  · exact ⟨0, by omega, by omega⟩
  · exact ⟨4503599627370495, by omega, by omega⟩

theorem wid13 (v : Int) (h0 : 0 ≤ v) (h1 : v < 8192) : ∃ q : Int, 0 ≤ q ∧ u64 (wrap64 (widen 13 v)) = v + q * 8192 := by
  have e : (2 : Int) ^ (64 - 13) = 2251799813685248 := by decide
  unfold u64 widen
  rw [e, IntKind.wrap_u64, IntKind.wrap_u64, IntKind.wrap_u64]
  unfold wrap64
  by_cases h : v < 4096
  · exact ⟨0, by omega, by omega⟩
  · exact ⟨2251799813685247, by omega, by omega⟩

theorem wid21 (v : Int) (h0 : 0 ≤ v) (h1 : v < 2097152) : ∃ q : Int, 0 ≤ q ∧ u64 (wrap64 (widen 21 v)) = v + q * 2097152 := by
  have e : (2 : Int) ^ (64 - 21) = 8796093022208 := by decide
  unfold u64 widen
  rw [e, IntKind.wrap_u64, IntKind.wrap_u64, IntKind.wrap_u64]
  unfold wrap64
  by_cases h : v < 1048576
  · exact ⟨0, by omega, by omega⟩
  · exact ⟨8796093022207, by omega, by omega⟩

theorem wid32 (v : Int) (h0 : 0 ≤ v) (h1 : v < 4294967296) : ∃ q : Int, 0 ≤ q ∧ u64 (wrap64 (widen 32 v)) = v + q * 4294967296 := by
  have e : (2 : Int) ^ (64 - 32) = 4294967296 := by decide
  unfold u64 widen
  rw [e, IntKind.wrap_u64, IntKind.wrap_u64, IntKind.wrap_u64]
  unfold wrap64
  by_cases h : v < 2147483648
  · exact ⟨0, by omega, by omega⟩
  · exact ⟨4294967295, by omega, by omega⟩

theorem wid64 (v : Int) (h0 : 0 ≤ v) (h1 : v < 4294967296) : u64 (wrap64 (widen 64 v)) = v := by
  rw [widen64 v h0 (by omega)]; unfold u64; rw [IntKind.wrap_u64]; omega

theorem u64_small (v : Int) (h0 : 0 ≤ v) (h1 : v < 32) : u64 v = v := by
  unfold u64; rw [IntKind.wrap_u64]; omega

theorem wrapUe (y : Int) (h0 : 0 ≤ y) (h1 : y < 18446744073709551616) : IntKind.u64.wrap y = y := by
  rw [IntKind.wrap_u64]; omega

end Go.Proofs.YtjjpklalihaanaaDoor
