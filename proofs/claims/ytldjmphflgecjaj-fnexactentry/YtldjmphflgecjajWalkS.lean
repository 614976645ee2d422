/- The model's Effective and Entry, and what a walk that comes to nothing hands back. -/
import Derived.Test.YtldjmphflgecjajWalkP
import Derived.Test.YtldjmphflgecjajTrapS
namespace Go.Proofs.Ytldjmphflgecjaj
open Go.RowKit
set_option linter.unusedVariables false

theorem old_row (w : World) (o p : Obj) : ((w.alloc o).alloc p).heap[w.heap.size]? = some o := (Below.heap_alloc _ _ _ (by simp)).trans (heap_alloc_new _ _)

/-- The privilege that an access goes by. -/
def effV (l : List Int) (p kind : Int) : Int := if ((kind != 1) && (bitAt (l.getD 0 0) 17 == 1)) = true then wrap64 (bits .and .u64 (l.getD 0 0 / 2048) 3) else p

def effB (n : Nat) (l : List Int) (p kind : Int) : Int := if (legalB n l p && decide (1 ≤ kind ∧ kind ≤ 3)) = true then effV l p kind else -1

theorem l7Effective_any (b off cap : Nat) (l : List Int) (p kind : Int) (w : World) (c0 : w.cell? ⟨b, off, none⟩ = some (.int .u64 (l.getD 0 0))) :
    Calls Try.prog 13 #[.slice (some ⟨b, off, none⟩) 22 cap, .int .i64 p, .int .i64 kind] w fun e w' => e = .returned (.int .i64 (effV l p kind)) ∧ w' = w := by
  have HB : Hid (∀ w, Calls Try.prog 21 #[.int .u64 (l.getD 0 0), .int .u64 17] w fun e w' => e = .returned (.int .u64 (bitAt (l.getD 0 0) 17)) ∧ w' = w) := fun w => l5Bit_any _ 17 (by omega) w
  have F : Hid (effV l p kind = if ((kind != 1) && (bitAt (l.getD 0 0) 17 == 1)) = true then wrap64 (bits .and .u64 (l.getD 0 0 / 2048) 3) else p) := (rfl : effV l p kind = _)
  generalize effV l p kind = v at *
  generalize bitAt (l.getD 0 0) 17 = y at *
  generalize l.getD 0 0 = x at *
  cases d1 : (kind != 1) with
  | false =>
    have F2 : Hid (v = p) := by show v = p; rw [F.out, d1, Bool.false_and]; exact if_neg (by decide)
    clear F
    go_enter Try.func13, Try.ntmps13
    go_wp2_with fail
    go_ret
    exact ⟨by rw [F2.out]; rfl, rfl⟩
  | true =>
    cases d2 : (y == 1) with
    | false =>
      have F2 : Hid (v = p) := by show v = p; rw [F.out, d1, d2]; exact if_neg (by decide)
      clear F
      go_enter Try.func13, Try.ntmps13
      go_wp2_with fail
      refine (HB.out _).mono ?_
      rintro e wx ⟨rfl, hwx⟩
      have hwy := hwx.symm
      subst hwy
      go_wp2_with fail
      go_ret
      exact ⟨by rw [F2.out]; rfl, rfl⟩
    | true =>
      have F2 : Hid (v = wrap64 (bits .and .u64 (x / 2048) 3)) := by show v = _; rw [F.out, d1, d2]; exact if_pos rfl
      clear F
      go_enter Try.func13, Try.ntmps13
      go_wp2_with fail
      refine (HB.out _).mono ?_
      rintro e wx ⟨rfl, hwx⟩
      have hwy := hwx.symm
      subst hwy
      go_wp2_with fail
      go_ret
      exact ⟨by rw [F2.out]; rfl, rfl⟩

theorem specEffective_any (a : Option Addr) (n cap : Nat) (l : List Int) (p kind : Int) (w : World) (hz : l.length = n) (hs : Sl .u64 w a l) :
    Calls Try.prog 5 #[.slice a n cap, .int .i64 p, .int .i64 kind] w fun e w' => e = .returned (.int .i64 (effB n l p kind)) ∧ w' = w := by
  have HL : Hid (Calls Try.prog 11 #[.slice a n cap, .int .i64 p] w fun e w' => e = .returned (.bool (legalB n l p)) ∧ w' = w) := specLegal_any a n cap l p w hz hs
  have HK : Hid (∀ w, Calls Try.prog 12 #[.int .i64 kind] w fun e w' => e = .returned (.bool (decide (1 ≤ kind ∧ kind ≤ 3))) ∧ w' = w) := l6Kind_any kind
  have F : Hid (effB n l p kind = if (legalB n l p && decide (1 ≤ kind ∧ kind ≤ 3)) = true then effV l p kind else -1) := (rfl : effB n l p kind = _)
  cases hl : legalB n l p with
  | false =>
    rw [hl] at HL F
    generalize effB n l p kind = v at *
    clear hs hz
    go_enter Try.func5, Try.ntmps5
    go_wp2_with fail
    refine HL.out.mono ?_
    rintro e wx ⟨rfl, hwx⟩
    have hwy := hwx.symm
    subst hwy
    go_wp2_with fail
    go_ret
    exact ⟨by rw [F.out]; rfl, rfl⟩
  | true =>
    obtain ⟨rfl, hpv⟩ := legalB_parts hl
    rw [hl] at HL F
    obtain ⟨b, off, rfl, hb, hc⟩ := hs 0 (by omega)
    have HE : Hid (Calls Try.prog 13 #[.slice (some ⟨b, off, none⟩) 22 cap, .int .i64 p, .int .i64 kind] w fun e w' => e = .returned (.int .i64 (effV l p kind)) ∧ w' = w) := l7Effective_any b off cap l p kind w hc
    generalize effB 22 l p kind = v at *
    generalize effV l p kind = u at *
    generalize decide (1 ≤ kind ∧ kind ≤ 3) = q at *
    clear hs hz hc
    cases q with
    | false =>
      go_enter Try.func5, Try.ntmps5
      go_wp2_with fail
      refine HL.out.mono ?_
      rintro e wx ⟨rfl, hwx⟩
      have hwy := hwx.symm
      subst hwy
      go_wp2_with fail
      refine (HK.out _).mono ?_
      rintro e wx ⟨rfl, hwx⟩
      have hwy := hwx.symm
      subst hwy
      go_wp2_with fail
      go_ret
      exact ⟨by rw [F.out]; rfl, rfl⟩
    | true =>
      go_enter Try.func5, Try.ntmps5
      go_wp2_with fail
      refine HL.out.mono ?_
      rintro e wx ⟨rfl, hwx⟩
      have hwy := hwx.symm
      subst hwy
      go_wp2_with fail
      refine (HK.out _).mono ?_
      rintro e wx ⟨rfl, hwx⟩
      have hwy := hwx.symm
      subst hwy
      go_wp2_with fail
      refine HE.out.mono ?_
      rintro e wx ⟨rfl, hwx⟩
      have hwy := hwx.symm
      subst hwy
      go_wp2_with fail
      go_ret
      exact ⟨by rw [F.out]; rfl, rfl⟩

/-- A table's entry. -/
def entryV (f b : Int) : Int := if (f / 17592186044416 != 0) = true then 0 else if decide (0 ≤ b ∧ b ≤ 255) = true then bits .or .u64 (IntKind.u64.wrap (f * 1024)) (IntKind.u64.wrap b) else 0

theorem specEntry_any (f b : Int) (w : World) : Calls Try.prog 9 #[.int .u64 f, .int .i64 b] w fun e w' => e = .returned (.int .u64 (entryV f b)) ∧ w' = w := by
  have HI : Hid (∀ w, Calls Try.prog 18 #[.int .i64 b, .int .i64 0, .int .i64 255] w fun e w' => e = .returned (.bool (decide (0 ≤ b ∧ b ≤ 255))) ∧ w' = w) := l1In_d b 0 255
  have F : Hid (entryV f b = if (f / 17592186044416 != 0) = true then 0 else if decide (0 ≤ b ∧ b ≤ 255) = true then bits .or .u64 (IntKind.u64.wrap (f * 1024)) (IntKind.u64.wrap b) else 0) := (rfl : entryV f b = _)
  generalize entryV f b = v at *
  generalize decide (0 ≤ b ∧ b ≤ 255) = q at *
  cases d : (f / 17592186044416 != 0) with
  | true =>
    have F2 : Hid (v = 0) := by show v = 0; rw [F.out, d]; exact if_pos rfl
    clear F
    go_enter Try.func9, Try.ntmps9
    go_wp2_with fail
    go_ret
    exact ⟨by rw [F2.out]; rfl, rfl⟩
  | false =>
    have F1 : v = if q = true then bits .or .u64 (IntKind.u64.wrap (f * 1024)) (IntKind.u64.wrap b) else 0 := by rw [F.out, d]; exact if_neg (by decide)
    clear F
    cases q with
    | false =>
      have F2 : Hid (v = 0) := F1.trans (if_neg (by decide))
      clear F1
      go_enter Try.func9, Try.ntmps9
      go_wp2_with fail
      refine (HI.out _).mono ?_
      rintro e wx ⟨rfl, hwx⟩
      have hwy := hwx.symm
      subst hwy
      go_wp2_with fail
      go_ret
      exact ⟨by rw [F2.out]; rfl, rfl⟩
    | true =>
      have F2 : Hid (v = bits .or .u64 (IntKind.u64.wrap (f * 1024)) (IntKind.u64.wrap b)) := F1.trans (if_pos rfl)
      clear F1
      go_enter Try.func9, Try.ntmps9
      go_wp2_with fail
      refine (HI.out _).mono ?_
      rintro e wx ⟨rfl, hwx⟩
      have hwy := hwx.symm
      subst hwy
      go_wp2_with fail
      go_ret
      exact ⟨by rw [F2.out]; rfl, rfl⟩

end Go.Proofs.Ytldjmphflgecjaj
