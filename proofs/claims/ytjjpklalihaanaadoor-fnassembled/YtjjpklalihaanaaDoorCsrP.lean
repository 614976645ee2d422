/- State registers, in plain numbers: what a write leaves, which registers are right, where they lie. -/
import Derived.Test.YtjjpklalihaanaaDoorPlain
import Derived.WalkKit
namespace Go.Proofs.YtjjpklalihaanaaDoor
open Go.RowKit
set_option linter.unusedVariables false

/-- mstatus. -/
def mst (x : Int) : Int := if (bits .and .u64 (bits .and .u64 x 924074 / 2048) 3 == 2) = true then bits .andNot .u64 (bits .and .u64 x 924074) 6144 else bits .and .u64 x 924074

/-- A byte of pmpcfg0. -/
def cfgByte (x : Int) (k : Nat) : Int :=
  if (bits .and .u64 (bits .and .u64 (x / 2 ^ (8 * k)) 159) 1 == 0) = true then bits .andNot .u64 (bits .and .u64 (x / 2 ^ (8 * k)) 159) 2 else bits .and .u64 (x / 2 ^ (8 * k)) 159

def cfgSum (x : Int) : Nat → Int
  | 0 => 0
  | k + 1 => bits .or .u64 (cfgSum x k) (IntKind.u64.wrap (cfgByte x k * 2 ^ (8 * k)))

/-- What a write of x leaves at a place, where nothing stays as it was. -/
def legal (p x : Int) : Int :=
  if p = 0 then mst x else if p = 1 then bits .and .u64 x 46079 else if p = 2 then bits .and .u64 x 546 else if p = 3 then bits .and .u64 x 2730
  else if p = 4 ∨ p = 10 then bits .andNot .u64 x 2 else if p = 6 ∨ p = 12 then bits .andNot .u64 x 3 else if p = 7 ∨ p = 13 then bits .and .u64 x 9223372036854775823
  else if p = 16 then cfgSum x 4 else if p = 17 ∨ p = 18 ∨ p = 19 ∨ p = 20 then bits .and .u64 x 18014398509481983 else x

def okAt (k : Nat) (x : Int) : Bool :=
  if k = 9 then (bits .and .u64 x 2730 == x) else if k = 15 then (x / 1152921504606846976 == 0) || (x / 1152921504606846976 == 8) else (legal k x == x)

/-- From register k on, n being left. -/
def okRest (l : List Int) : Nat → Nat → Bool
  | 0, _ => true
  | n + 1, k => okAt k (l.getD k 0) && okRest l n (k + 1)

def csrsOk (n : Nat) (l : List Int) : Bool := decide (n = 22) && okRest l 22 0

theorem okRest_yes (l : List Int) (k : Nat) (hk : k < 22) (h : okAt k (l.getD k 0) = true) : okRest l (22 - k) k = okRest l (22 - (k + 1)) (k + 1) := by
  rw [show 22 - k = (22 - (k + 1)) + 1 from by omega, okRest, h, Bool.true_and]

theorem okRest_no (l : List Int) (k : Nat) (hk : k < 22) (h : okAt k (l.getD k 0) = false) : okRest l (22 - k) k = false := by
  rw [show 22 - k = (22 - (k + 1)) + 1 from by omega, okRest, h, Bool.false_and]

def csrNumbers : List Int := [768, 770, 771, 772, 773, 832, 833, 834, 835, 836, 261, 320, 321, 322, 323, 384, 928, 944, 945, 946, 947, 2818]

def findNum (x : Int) : Nat → Nat → Int
  | 0, _ => -1
  | n + 1, k => if (csrNumbers.getD k 0 == x) = true then (k : Int) else findNum x n (k + 1)

theorem findNum_hit (x : Int) (k : Nat) (hk : k < 22) (h : (csrNumbers.getD k 0 == x) = true) : findNum x (22 - k) k = (k : Int) := by
  rw [show 22 - k = (22 - (k + 1)) + 1 from by omega, findNum, if_pos h]

theorem findNum_miss (x : Int) (k : Nat) (hk : k < 22) (h : (csrNumbers.getD k 0 == x) = false) : findNum x (22 - k) k = findNum x (22 - (k + 1)) (k + 1) := by
  rw [show 22 - k = (22 - (k + 1)) + 1 from by omega, findNum, if_neg (by rw [h]; decide)]

/-- The place of a register, of a view that of what it is one of; -1 of none. -/
def placeV (x : Int) : Int := if x = 256 then 0 else if x = 260 then 3 else if x = 324 then 9 else findNum x 22 0

theorem findNum_bd (x : Int) : ∀ n k, k + n ≤ 22 → -1 ≤ findNum x n k ∧ findNum x n k < 22 := by
  intro n
  induction n with
  | zero => intro k _; simp [findNum]
  | succ n ih =>
    intro k hk
    unfold findNum
    split
    · omega
    · exact ih (k + 1) (by omega)

theorem placeV_bd (x : Int) : -1 ≤ placeV x ∧ placeV x < 22 := by
  have := findNum_bd x 22 0 (by omega)
  unfold placeV
  split
  · omega
  · split
    · omega
    · split
      · omega
      · exact this

def knownB (x : Int) : Bool := (x == 3860) || (x == 769) || decide (0 ≤ placeV x)

def privB (p : Int) : Bool := (p == 0) || (p == 1) || (p == 3)

def mayB (n : Nat) (l : List Int) (x p : Int) : Bool := csrsOk n l && knownB x && privB p && decide ((wrap64 (x.tdiv 256)).tmod 4 ≤ p)

/-- What is read. -/
def readV (l : List Int) (x : Int) : Int :=
  if x = 3860 then 0 else if x = 769 then 9223372036856090881 else if x = 256 then bits .and .u64 (l.getD 0 0) 786722
  else if x = 260 then bits .and .u64 (l.getD 3 0) (l.getD 2 0) else if x = 324 then bits .and .u64 (l.getD 9 0) (l.getD 2 0) else l.getD (placeV x).toNat 0

/-- Byte i of pmpcfg0, and whether it locks. -/
def cfgAt (l : List Int) (i : Nat) : Int := bits .and .u64 (l.getD 16 0 / 2 ^ (8 * i)) 255

def lockB (l : List Int) (i : Nat) : Bool := (cfgAt l i / 128 == 1) || (decide (i < 3) && (cfgAt l (i + 1) / 128 == 1) && (bits .and .u64 (cfgAt l (i + 1) / 8) 3 == 1))

/-- pmpcfg0 with the bytes that stay, by round k. -/
def cfgKeep (l : List Int) (y : Int) : Nat → Int
  | 0 => y
  | k + 1 => if (cfgAt l k / 128 == 1) = true then bits .or .u64 (bits .andNot .u64 (cfgKeep l y k) (IntKind.u64.wrap (255 * 2 ^ (8 * k)))) (bits .and .u64 (l.getD 16 0) (IntKind.u64.wrap (255 * 2 ^ (8 * k)))) else cfgKeep l y k

/-- Some bits out of x, the others as they were. -/
def mixV (old m x : Int) : Int := bits .or .u64 (bits .andNot .u64 old m) (bits .and .u64 x m)

/-- A write at a place. -/
def putV (l : List Int) (p x : Int) : List Int :=
  if p = 9 then l.set 9 (mixV (l.getD 9 0) 546 x)
  else if p = 15 then (if ((x / 1152921504606846976 == 0) || (x / 1152921504606846976 == 8)) = true then l.set 15 x else l)
  else if p = 16 then l.set 16 (cfgKeep l (legal 16 x) 4)
  else if p = 17 ∨ p = 18 ∨ p = 19 ∨ p = 20 then (if lockB l (p - 17).toNat = true then l else l.set p.toNat (legal p x))
  else l.set p.toNat (legal p x)

/-- The registers behind a write. -/
def writeV (l : List Int) (n x : Int) : List Int :=
  if n = 769 ∨ n = 3860 then l
  else if n = 256 then l.set 0 (mixV (l.getD 0 0) 786722 x)
  else if n = 260 then l.set 3 (legal 3 (mixV (l.getD 3 0) (l.getD 2 0) x))
  else if n = 324 then l.set 9 (mixV (l.getD 9 0) (bits .and .u64 (l.getD 2 0) 2) x)
  else putV l (placeV n) x

theorem putV_len (l : List Int) (p x : Int) : (putV l p x).length = l.length := by
  unfold putV
  split
  · simp
  · split
    · split <;> simp
    · split
      · simp
      · split
        · split <;> simp
        · simp

theorem writeV_len (l : List Int) (n x : Int) : (writeV l n x).length = l.length := by
  unfold writeV
  split
  · rfl
  · split
    · simp
    · split
      · simp
      · split
        · simp
        · exact putV_len _ _ _

/-- May it be written, and what is handed back. -/
def wokB (m : Nat) (l : List Int) (n p : Int) : Bool := mayB m l n p && !((wrap64 (n.tdiv 1024)).tmod 4 == 3)

def writeL (m : Nat) (l : List Int) (n p x : Int) : List Int := if wokB m l n p = true then writeV l n x else []

theorem mayB_parts {m : Nat} {l : List Int} {n p : Int} (h : mayB m l n p = true) : m = 22 ∧ knownB n = true := by
  simp only [mayB, csrsOk, Bool.and_eq_true, decide_eq_true_eq] at h
  exact ⟨h.1.1.1.1, h.1.1.2⟩

/-- Right registers, and a privilege. -/
def legalB (n : Nat) (l : List Int) (p : Int) : Bool := csrsOk n l && privB p

theorem legalB_parts {n : Nat} {l : List Int} {p : Int} (h : legalB n l p = true) : n = 22 ∧ privB p = true := by
  simp only [legalB, csrsOk, Bool.and_eq_true, decide_eq_true_eq] at h
  exact ⟨h.1.1, h.2⟩

end Go.Proofs.YtjjpklalihaanaaDoor
