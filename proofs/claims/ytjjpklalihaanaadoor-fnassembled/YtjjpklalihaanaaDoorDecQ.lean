/- What the program's masks and pieces say is what the table says. -/
import Derived.Test.YtjjpklalihaanaaDoorDecR
namespace Go.Proofs.YtjjpklalihaanaaDoor
open Go.RowKit
set_option linter.unusedVariables false

/-- A mask as runs of bits, the lowest first. -/
def maskOf : List (Nat × Bool) → Nat
  | [] => 0
  | (n, b) :: l => (if b then 2 ^ n - 1 else 0) + 2 ^ n * maskOf l

def runs : List (Nat × Bool) → Nat → Nat
  | [], _ => 0
  | (n, b) :: l, x => (if b then x % 2 ^ n else 0) + 2 ^ n * runs l (x / 2 ^ n)

theorem and_runs : ∀ (l : List (Nat × Bool)) (x : Nat), x &&& maskOf l = runs l x := by
  intro l
  induction l with
  | nil => intro x; simp [maskOf, runs]
  | cons p l ih =>
    intro x
    obtain ⟨n, b⟩ := p
    have hp : 0 < 2 ^ n := Nat.two_pow_pos n
    have h1 : maskOf ((n, b) :: l) / 2 ^ n = maskOf l := by
      rw [maskOf, Nat.add_mul_div_left _ _ hp, Nat.div_eq_of_lt, Nat.zero_add]
      cases b <;> simp <;> omega
    have h2 : maskOf ((n, b) :: l) % 2 ^ n = if b then 2 ^ n - 1 else 0 := by
      rw [maskOf, Nat.add_mul_mod_self_left, Nat.mod_eq_of_lt]
      cases b <;> simp <;> omega
    rw [and_split x _ n, h1, h2, ih, runs]
    cases b
    · simp
    · simp only [if_true]
      rw [and_ones, Nat.mod_mod]
      omega

theorem and64 (x : Int) (m : Nat) (l : List (Nat × Bool)) (h0 : 0 ≤ x) (h1 : x < 4294967296) (hm : m = maskOf l) (hb : m < 18446744073709551616) : bits .and .u64 x (m : Int) = (runs l x.toNat : Nat) := by
  subst hm
  rw [u64_and x _ h0 (by omega) (by omega) (by omega), Int.toNat_natCast, and_runs]

theorem andU (x : Int) (h0 : 0 ≤ x) (h1 : x < 4294967296) : bits .and .u64 x 127 = x % 128 := by
  have h := and64 x 127 [(7, true)] h0 h1 (by decide) (by decide)
  rw [show ((127 : Nat) : Int) = 127 from rfl] at h
  rw [h]; simp [runs]; omega

theorem andI (x : Int) (h0 : 0 ≤ x) (h1 : x < 4294967296) : bits .and .u64 x 28799 = x % 128 + x / 4096 % 8 * 4096 := by
  have h := and64 x 28799 [(7, true), (5, false), (3, true)] h0 h1 (by decide) (by decide)
  rw [show ((28799 : Nat) : Int) = 28799 from rfl] at h
  rw [h]; simp [runs]; omega

theorem andR (x : Int) (h0 : 0 ≤ x) (h1 : x < 4294967296) : bits .and .u64 x 4261441663 = x % 128 + x / 4096 % 8 * 4096 + x / 33554432 * 33554432 := by
  have h := and64 x 4261441663 [(7, true), (5, false), (3, true), (10, false), (7, true)] h0 h1 (by decide) (by decide)
  rw [show ((4261441663 : Nat) : Int) = 4261441663 from rfl] at h
  rw [h]; simp [runs]; omega

theorem andR2 (x : Int) (h0 : 0 ≤ x) (h1 : x < 4294967296) : bits .and .u64 x 4261445631 = x % 32768 + x / 33554432 * 33554432 := by
  have h := and64 x 4261445631 [(15, true), (10, false), (7, true)] h0 h1 (by decide) (by decide)
  rw [show ((4261445631 : Nat) : Int) = 4261445631 from rfl] at h
  rw [h]; simp [runs]; omega

theorem andH (x : Int) (h0 : 0 ≤ x) (h1 : x < 4294967296) : bits .and .u64 x 4227887231 = x % 128 + x / 4096 % 8 * 4096 + x / 67108864 * 67108864 := by
  have h := and64 x 4227887231 [(7, true), (5, false), (3, true), (11, false), (6, true)] h0 h1 (by decide) (by decide)
  rw [show ((4227887231 : Nat) : Int) = 4227887231 from rfl] at h
  rw [h]; simp [runs]; omega

theorem andA (x : Int) (h0 : 0 ≤ x) (h1 : x < 4294967296) : bits .and .u64 x 4160778367 = x % 128 + x / 4096 % 8 * 4096 + x / 134217728 * 134217728 := by
  have h := and64 x 4160778367 [(7, true), (5, false), (3, true), (12, false), (5, true)] h0 h1 (by decide) (by decide)
  rw [show ((4160778367 : Nat) : Int) = 4160778367 from rfl] at h
  rw [h]; simp [runs]; omega

theorem andA2 (x : Int) (h0 : 0 ≤ x) (h1 : x < 4294967296) : bits .and .u64 x 4193284223 = x % 128 + x / 4096 % 8 * 4096 + x / 1048576 % 32 * 1048576 + x / 134217728 * 134217728 := by
  have h := and64 x 4193284223 [(7, true), (5, false), (3, true), (5, false), (5, true), (2, false), (5, true)] h0 h1 (by decide) (by decide)
  rw [show ((4193284223 : Nat) : Int) = 4193284223 from rfl] at h
  rw [h]; simp [runs]; omega

theorem andX (x : Int) (h0 : 0 ≤ x) (h1 : x < 4294967296) : bits .and .u64 x 4294967295 = x := by
  have h := and64 x 4294967295 [(32, true)] h0 h1 (by decide) (by decide)
  rw [show ((4294967295 : Nat) : Int) = 4294967295 from rfl] at h
  rw [h]; simp [runs]; omega

/-- What holds of every row. -/
def rowOk (k : Nat) (r : Row) : Bool := decide (0 ≤ r.op ∧ r.op < 128 ∧ 0 ≤ r.more ∧ (k = 97 → r.fm = .r) ∧ (k = 62 ∨ k = 73 → r.fm = .a)) &&
  (match r.fm with
  | .r => decide (r.more < 128 ∧ 0 ≤ r.f3 ∧ r.f3 < 8)
  | .w => decide (r.more < 128 ∧ 0 ≤ r.f3 ∧ r.f3 < 8)
  | .h => decide (r.more < 64 ∧ 0 ≤ r.f3 ∧ r.f3 < 8)
  | .a => decide (r.more < 32 ∧ 0 ≤ r.f3 ∧ r.f3 < 8)
  | .x => decide (r.more < 4096 ∧ r.f3 = 0)
  | .u => decide (r.more = 0 ∧ r.f3 = -1)
  | .j => decide (r.more = 0 ∧ r.f3 = -1)
  | _ => decide (r.more = 0 ∧ 0 ≤ r.f3 ∧ r.f3 < 8))

theorem rows_ok : ∀ k, k < 98 → rowOk k (rowAt k) = true := by
  have h : (List.range 98).all (fun k => rowOk k (rowAt k)) = true := by kernel_rfl
  intro k hk
  exact List.all_eq_true.1 h k (by simpa using hk)

/-- A row's bits as a sum. -/
theorem bitsI_eq (f : Fm) (o z m : Int) (h0 : 0 ≤ o) (h1 : o < 128) (h2 : 0 ≤ z) (h3 : z < 8) (h4 : 0 ≤ m) (h5 : m < 2 ^ (32 - f.at)) (h6 : f.at = 0 → m = 0) : bitsI f o z m = o + z * 4096 + m * 2 ^ f.at := by
  unfold bitsI
  have e1 : IntKind.u64.wrap (z * 4096) = z * 2 ^ 12 := by rw [IntKind.wrap_u64]; omega
  have e2 : bits .or .u64 o (z * 2 ^ 12) = o + z * 2 ^ 12 := or64 o z 12 3 h0 (by omega) h2 h3 (by omega) (by omega)
  rw [e1, e2]
  by_cases ha : f.at = 0
  · have hm := h6 ha
    subst hm
    have e3 : IntKind.u64.wrap (0 * 2 ^ f.at) = 0 := by rw [Int.zero_mul]; rfl
    have e4 : bits .or .u64 (o + z * 2 ^ 12) 0 = o + z * 2 ^ 12 := by
      have := or64 (o + z * 2 ^ 12) 0 0 1 (by omega) (by omega) (by omega) (by omega) (by omega)
      rw [u64_or _ _ (by omega) (by omega) (by omega) (by omega)]
      simp; omega
    rw [e3, e4]; omega
  · have ht : f.at = 20 ∨ f.at = 25 ∨ f.at = 26 ∨ f.at = 27 := by cases f <;> simp [Fm.at] at ha ⊢
    rcases ht with ht | ht | ht | ht <;> rw [ht] at h5 ⊢
    · have e3 : IntKind.u64.wrap (m * 2 ^ 20) = m * 2 ^ 20 := by rw [IntKind.wrap_u64]; omega
      rw [e3, or64 (o + z * 2 ^ 12) m 20 12 (by omega) (by omega) h4 (by omega) (by omega) (by omega)]; omega
    · have e3 : IntKind.u64.wrap (m * 2 ^ 25) = m * 2 ^ 25 := by rw [IntKind.wrap_u64]; omega
      rw [e3, or64 (o + z * 2 ^ 12) m 25 7 (by omega) (by omega) h4 (by omega) (by omega) (by omega)]; omega
    · have e3 : IntKind.u64.wrap (m * 2 ^ 26) = m * 2 ^ 26 := by rw [IntKind.wrap_u64]; omega
      rw [e3, or64 (o + z * 2 ^ 12) m 26 6 (by omega) (by omega) h4 (by omega) (by omega) (by omega)]; omega
    · have e3 : IntKind.u64.wrap (m * 2 ^ 27) = m * 2 ^ 27 := by rw [IntKind.wrap_u64]; omega
      rw [e3, or64 (o + z * 2 ^ 12) m 27 5 (by omega) (by omega) h4 (by omega) (by omega) (by omega)]; omega

/-- By the program's masks a word has a row's look just where by the table it has. -/
theorem match_eq (k : Nat) (r : Row) (hr : rowOk k r = true) (x : Int) (h0 : 0 ≤ x) (h1 : x < 4294967296) :
    (bits .and .u64 x (maskI ((k : Int) + 1) r.fm) == bitsI r.fm r.op r.f3z r.more) = decide (matchP k r.fm r.op r.f3 r.more x) := by
  obtain ⟨nm, f, o, z, m⟩ := r
  simp only [rowOk, Bool.and_eq_true, decide_eq_true_eq] at hr
  obtain ⟨⟨b0, b1, b2, b3, b4⟩, hf⟩ := hr
  simp only [Row.f3z]
  rw [Bool.eq_iff_iff, beq_iff_eq, decide_eq_true_iff]
  have M98 : ∀ f, maskI 98 f = bits .or .u64 (Fm.mask f) 3968 := fun f => by rw [maskI, if_pos rfl]
  cases f
  case r =>
    simp only [decide_eq_true_eq] at hf
    rw [if_neg (by omega), bitsI_eq .r o z m b0 b1 (by omega) (by omega) b2 (by simp [Fm.at]; omega) (by simp [Fm.at])]
    by_cases hk : k = 97
    · subst hk
      have e : maskI (((97 : Nat) : Int) + 1) .r = 4261445631 := by decide
      rw [e, andR2 x h0 h1]
      simp only [matchP, Fm.at, forall_const]
      omega
    · have e : maskI ((k : Int) + 1) .r = 4261441663 := by
        have h63 : ¬ (k = 62 ∨ k = 73) := fun h => by cases b4 h
        rw [maskI, if_neg (by omega), if_neg (by omega)]; rfl
      rw [e, andR x h0 h1]
      simp only [matchP, Fm.at]
      omega
  case a =>
    simp only [decide_eq_true_eq] at hf
    have hk97 : ¬ k = 97 := fun h => by cases b3 h
    rw [if_neg (by omega), bitsI_eq .a o z m b0 b1 (by omega) (by omega) b2 (by simp [Fm.at]; omega) (by simp [Fm.at])]
    by_cases hk : k = 62 ∨ k = 73
    · have e : maskI ((k : Int) + 1) .a = 4193284223 := by
        rw [maskI, if_neg (by omega), if_pos (by omega)]; decide
      rw [e, andA2 x h0 h1]
      simp only [matchP, Fm.at]
      omega
    · have e : maskI ((k : Int) + 1) .a = 4160778367 := by
        rw [maskI, if_neg (by omega), if_neg (by omega)]; rfl
      rw [e, andA x h0 h1]
      simp only [matchP, Fm.at]
      omega
  all_goals (
    have hk97 : ¬ k = 97 := fun h => by cases b3 h
    have hk62 : ¬ (k = 62 ∨ k = 73) := fun h => by cases b4 h
    simp only [decide_eq_true_eq] at hf
    rw [maskI, if_neg (by omega), if_neg (by omega)]
    simp only [Fm.mask])
  case h =>
    rw [if_neg (by omega), bitsI_eq .h o z m b0 b1 (by omega) (by omega) b2 (by simp [Fm.at]; omega) (by simp [Fm.at]), andH x h0 h1]
    simp only [matchP, Fm.at]
    omega
  case w =>
    rw [if_neg (by omega), bitsI_eq .w o z m b0 b1 (by omega) (by omega) b2 (by simp [Fm.at]; omega) (by simp [Fm.at]), andR x h0 h1]
    simp only [matchP, Fm.at]
    omega
  case x =>
    rw [if_neg (by omega), bitsI_eq .x o z m b0 b1 (by omega) (by omega) b2 (by simp [Fm.at]; omega) (by simp [Fm.at]), andX x h0 h1]
    simp only [matchP, Fm.at]
    omega
  case u =>
    rw [if_pos (by omega), bitsI_eq .u o 0 m b0 b1 (by omega) (by omega) b2 (by simp [Fm.at]; omega) (by intro _; omega), andU x h0 h1]
    simp only [matchP, Fm.at, and_true]
    omega
  case j =>
    rw [if_pos (by omega), bitsI_eq .j o 0 m b0 b1 (by omega) (by omega) b2 (by simp [Fm.at]; omega) (by intro _; omega), andU x h0 h1]
    simp only [matchP, Fm.at, and_true]
    omega
  case i =>
    rw [if_neg (by omega), bitsI_eq .i o z m b0 b1 (by omega) (by omega) b2 (by simp [Fm.at]; omega) (by intro _; omega), andI x h0 h1]
    simp only [matchP, Fm.at, and_true]
    omega
  case s =>
    rw [if_neg (by omega), bitsI_eq .s o z m b0 b1 (by omega) (by omega) b2 (by simp [Fm.at]; omega) (by intro _; omega), andI x h0 h1]
    simp only [matchP, Fm.at, and_true]
    omega
  case b =>
    rw [if_neg (by omega), bitsI_eq .b o z m b0 b1 (by omega) (by omega) b2 (by simp [Fm.at]; omega) (by intro _; omega), andI x h0 h1]
    simp only [matchP, Fm.at, and_true]
    omega
  case c =>
    rw [if_neg (by omega), bitsI_eq .c o z m b0 b1 (by omega) (by omega) b2 (by simp [Fm.at]; omega) (by intro _; omega), andI x h0 h1]
    simp only [matchP, Fm.at, and_true]
    omega

theorem fld_is (x : Int) (k n : Nat) : fld x k n = x / 2 ^ k % 2 ^ n := rfl

/-- The pieces put together are the Imm of the table. -/
theorem immF_eq (f : Fm) (x : Int) (h0 : 0 ≤ x) (h1 : x < 4294967296) : immF x f.pcs = immU f x := by
  have Z : ∀ y : Int, 0 ≤ y → y < 18446744073709551616 → bits .or .u64 0 (IntKind.u64.wrap y) = y := by
    intro y h2 h3
    have e : IntKind.u64.wrap y = y := by rw [IntKind.wrap_u64]; omega
    rw [e, u64_or 0 y (by omega) (by omega) h2 h3]
    simp; omega
  have W : ∀ y : Int, 0 ≤ y → y < 18446744073709551616 → IntKind.u64.wrap y = y := by
    intro y h2 h3
    rw [IntKind.wrap_u64]; omega
  cases f <;> simp only [Fm.pcs, immF, List.foldl_cons, List.foldl_nil, immU, fld_is]
  case i => rw [Z _ (by omega) (by omega)]; omega
  case h => rw [Z _ (by omega) (by omega)]; omega
  case w => rw [Z _ (by omega) (by omega)]; omega
  case u => rw [Z _ (by omega) (by omega)]; omega
  case a => rw [Z _ (by omega) (by omega)]; omega
  case c => rw [Z _ (by omega) (by omega)]; omega
  case s =>
    rw [Z _ (by omega) (by omega), W _ (by omega) (by omega), or64 _ (x / 2 ^ 7 % 2 ^ 5) 0 5 (by omega) (by omega) (by omega) (by omega) (by omega) (by omega)]
    omega
  case b =>
    rw [Z _ (by omega) (by omega), W _ (by omega) (by omega), or64 _ (x / 2 ^ 7 % 2 ^ 1) 11 1 (by omega) (by omega) (by omega) (by omega) (by omega) (by omega),
      W _ (by omega) (by omega), or64 _ (x / 2 ^ 25 % 2 ^ 6) 5 6 (by omega) (by omega) (by omega) (by omega) (by omega) (by omega),
      W _ (by omega) (by omega), or64 _ (x / 2 ^ 8 % 2 ^ 4) 1 4 (by omega) (by omega) (by omega) (by omega) (by omega) (by omega)]
    omega
  case j =>
    rw [Z _ (by omega) (by omega), W _ (by omega) (by omega), or64 _ (x / 2 ^ 12 % 2 ^ 8) 12 8 (by omega) (by omega) (by omega) (by omega) (by omega) (by omega),
      W _ (by omega) (by omega), or64 _ (x / 2 ^ 20 % 2 ^ 1) 11 1 (by omega) (by omega) (by omega) (by omega) (by omega) (by omega),
      W _ (by omega) (by omega), or64 _ (x / 2 ^ 21 % 2 ^ 10) 1 10 (by omega) (by omega) (by omega) (by omega) (by omega) (by omega)]
    omega

/-- What a word says, if it has row k's look. -/
def insAt (k : Nat) (x : Int) : Ins := ⟨(k : Int) + 1, rdV (rowAt k).fm x, aV (rowAt k).fm x, bV (rowAt k).fm x, immV (rowAt k).fm x⟩

def matchB (k : Nat) (x : Int) : Bool := decide (matchP k (rowAt k).fm (rowAt k).op (rowAt k).f3 (rowAt k).more x)

/-- The first row from k on that a word has the look of, n rows being left. -/
def findRow (x : Int) : Nat → Nat → Option Nat
  | 0, _ => none
  | n + 1, k => if matchB k x = true then some k else findRow x n (k + 1)

theorem findRow_hit (x : Int) (k : Nat) (hk : k < 98) (h : matchB k x = true) : findRow x (98 - k) k = some k := by
  rw [show 98 - k = (98 - (k + 1)) + 1 from by omega, findRow, if_pos h]

theorem findRow_miss (x : Int) (k : Nat) (hk : k < 98) (h : matchB k x = false) : findRow x (98 - k) k = findRow x (98 - (k + 1)) (k + 1) := by
  rw [show 98 - k = (98 - (k + 1)) + 1 from by omega, findRow, if_neg (by rw [h]; decide)]

/-- What a word says. -/
def dec (x : Int) : Option Ins := if x < 4294967296 then (findRow x 98 0).map (fun k => insAt k x) else none

def noIns : Ins := ⟨0, 0, 0, 0, 0⟩

/-- What Decode hands back. -/
def decV (x : Int) : Value := match dec x with
  | some i => .tuple #[i.val, .bool true]
  | none => .tuple #[noIns.val, .bool false]

theorem decV_far (x : Int) (h : ¬ x < 4294967296) : decV x = .tuple #[noIns.val, .bool false] := by simp [decV, dec, h]

theorem decV_hit (x : Int) (k : Nat) (h : x < 4294967296) (hf : findRow x 98 0 = some k) : decV x = .tuple #[(insAt k x).val, .bool true] := by simp [decV, dec, h, hf]

theorem decV_miss (x : Int) (h : x < 4294967296) (hf : findRow x 98 0 = none) : decV x = .tuple #[noIns.val, .bool false] := by simp [decV, dec, h, hf]

end Go.Proofs.YtjjpklalihaanaaDoor
