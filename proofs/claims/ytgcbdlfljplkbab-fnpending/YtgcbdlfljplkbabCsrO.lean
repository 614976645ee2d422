/- The program's NewCsrs, Place, ReadCsr and WriteCsr, and the model's NewCsrs. -/
import Derived.Test.YtgcbdlfljplkbabCsrN
namespace Go.Proofs.Ytgcbdlfljplkbab
open Go.RowKit
set_option linter.unusedVariables false

theorem below_dN' {B : Nat} {a w : World} (h : Below B a w) (n : Nat) : Below B a (w.drewN n) := ⟨h.os, h.tape, h.output, h.size, h.block⟩

theorem own_nilW (w : World) (base : Nat) : w.ownsRow base 24 1 (.slice none 0 0) 0 (([] : List Int).map (Value.int .u64)) := ⟨rfl, .inl ⟨rfl, rfl⟩⟩

theorem specNewCsrs_any (w : World) : Calls Try.prog 95 #[] w fun e w' => e = .returned (.slice (some ⟨w.heap.size, 0, none⟩) 22 22) ∧
      w'.ownsRow w.heap.size 24 1 (.slice (some ⟨w.heap.size, 0, none⟩) 22 22) 22 ((List.replicate 22 (0 : Int)).map (Value.int .u64)) ∧ Below w.heap.size w w' := by
  obtain ⟨i0, hi, hz0, hz1, hz2⟩ := info_parts infoW
  have hb2 : i0.bytes * 22 ≤ 281474976710656 := by rw [hz2]; omega
  have hb3 : 22 ≤ maxLen := by unfold maxLen; omega
  clear hz2
  go_enter Try.func95, Try.ntmps95
  go_wp2_with (at_make; refine wpList_make_full _ rfl (.const (.int .i64 22)) (.const (.int .i64 22)) 30 rfl w.heap.size 24 i0 (.int .u64 0) 1 Try.underlying30 hi hz0 hz1 .i64 .i64 _ _ 22 rfl rfl rfl rfl hb2 hb3 (Nat.le_refl _) ?_; intro w1 hown hgrow)
  go_ret
  refine ⟨rfl, ?_, (Below.refl _ _).grown hgrow (Nat.le_refl _) (by intro k h; cases h)⟩
  have e : (List.replicate 22 (0 : Int)).map (Value.int .u64) = List.replicate 22 (.int .u64 0) := by simp
  rw [e, ← toList_madeCells_one]; simpa [Value.cells] using hown

theorem implPlace_any (n : Int) (w : World) : Calls Try.prog 19 #[.int .i64 n] w fun e w' => e = .returned (.int .i64 (findV n 0 22 0).at_) ∧ Below w.heap.size w w' := by
  have HV : Hid (∀ w, Calls Try.prog 47 #[.int .i64 n, .int .u64 0] w fun e w' => e = .returned (.tuple #[.int .i64 (findV n 0 22 0).at_, .agg (findV n 0 22 0).cells, .bool (findV n 0 22 0).ok]) ∧ Below w.heap.size w w') := viewBy_any n 0
  generalize findV n 0 22 0 = V at *
  obtain ⟨va, vn, vr, vw, vo⟩ := V
  simp only [Vw.cells] at HV ⊢
  go_enter Try.func19, Try.ntmps19
  go_wp2_with fail
  refine (HV.out _).mono ?_
  rintro e w1 ⟨rfl, hb⟩
  go_wp2_with fail
  go_ret
  exact ⟨rfl, hb.alloc hb.size _⟩

theorem findV_bd (n m : Int) : ∀ f k, k + f ≤ 22 → (findV n m f k).ok = true → ∃ j : Nat, j < 22 ∧ (findV n m f k).at_ = (j : Int) := by
  intro f
  induction f with
  | zero => intro k _ h; cases h
  | succ f ih =>
    intro k hk
    unfold findV
    split
    · intro _; exact ⟨k, by omega, rfl⟩
    · split
      · intro _; exact ⟨k, by omega, rfl⟩
      · exact ih (k + 1) (by omega)

/-- What the program's ReadCsr hands back. -/
def mayI (m : Nat) (l : List Int) (n p : Int) : Bool := fitsOk m l && reachB n p

def readIB (m : Nat) (l : List Int) (n p : Int) : Bool := mayI m l n p && ((findV n (l.getD 2 0) 22 0).ok || fixB n)

def readIV (m : Nat) (l : List Int) (n p : Int) : Int :=
  if mayI m l n p = true then (if (findV n (l.getD 2 0) 22 0).ok = true then bits .and .u64 (l.getD (findV n (l.getD 2 0) 22 0).at_.toNat 0) (findV n (l.getD 2 0) 22 0).rd else fixV n) else 0

theorem fitsOk_len {m : Nat} {l : List Int} (h : fitsOk m l = true) : m = 22 := by
  simp only [fitsOk, Bool.and_eq_true, decide_eq_true_eq] at h
  exact h.1

set_option maxHeartbeats 1600000 in
theorem implReadCsr_any (a : Option Addr) (m cap : Nat) (l : List Int) (n p : Int) (w : World) (hz : l.length = m) (hs : Sl .u64 w a l) (hl : ∀ j, 0 ≤ l.getD j 0 ∧ l.getD j 0 < 18446744073709551616) :
    Calls Try.prog 17 #[.slice a m cap, .int .i64 n, .int .i64 p] w fun e w' => e = .returned (.tuple #[.int .u64 (readIV m l n p), .bool (readIB m l n p)]) ∧ Below w.heap.size w w' := by
  have HO : Hid (Calls Try.prog 20 #[.slice a m cap] w fun e w' => e = .returned (.bool (fitsOk m l)) ∧ Below w.heap.size w w') := implCsrsOk_any a m cap l w hz hs hl
  have HM : Hid (∀ w, Calls Try.prog 45 #[.int .i64 n, .int .i64 p] w fun e w' => e = .returned (.bool (reachB n p)) ∧ w' = w) := mayReach_any n p
  have HF : Hid (∀ w, Calls Try.prog 48 #[.int .i64 n] w fun e w' => e = .returned (.tuple #[.int .u64 (fixV n), .bool (fixB n)]) ∧ w' = w) := fixedCsr_any n
  have HS : Hid (Sl .u64 w a l) := hs
  cases hok : fitsOk m l with
  | false =>
    have F : Hid (readIV m l n p = 0 ∧ readIB m l n p = false) := ⟨by simp [readIV, mayI, hok], by simp [readIB, mayI, hok]⟩
    rw [hok] at HO
    clear hok hs hl
    go_enter Try.func17, Try.ntmps17
    go_wp2_with fail
    refine HO.out.mono ?_
    rintro e w1 ⟨rfl, hb⟩
    go_wp2_with fail
    go_ret2
    exact ⟨by rw [F.out.1, F.out.2]; rfl, hb⟩
  | true =>
    have hm := fitsOk_len hok
    subst hm
    rw [hok] at HO
    cases hre : reachB n p with
    | false =>
      have F : Hid (readIV 22 l n p = 0 ∧ readIB 22 l n p = false) := ⟨by simp [readIV, mayI, hre], by simp [readIB, mayI, hre]⟩
      rw [hre] at HM
      clear hok hs hl hre
      go_enter Try.func17, Try.ntmps17
      go_wp2_with fail
      refine HO.out.mono ?_
      rintro e w1 ⟨rfl, hb⟩
      go_wp2_with fail
      refine (HM.out _).mono ?_
      rintro e w2 ⟨rfl, hw2⟩
      subst hw2
      go_wp2_with fail
      go_ret2
      exact ⟨by rw [F.out.1, F.out.2]; rfl, hb⟩
    | true =>
      rw [hre] at HM
      have F0 : readIV 22 l n p = if (findV n (l.getD 2 0) 22 0).ok = true then bits .and .u64 (l.getD (findV n (l.getD 2 0) 22 0).at_.toNat 0) (findV n (l.getD 2 0) 22 0).rd else fixV n := by simp [readIV, mayI, hok, hre]
      have F1 : readIB 22 l n p = ((findV n (l.getD 2 0) 22 0).ok || fixB n) := by simp [readIB, mayI, hok, hre]
      have HV : Hid (∀ w, Calls Try.prog 47 #[.int .i64 n, .int .u64 (l.getD 2 0)] w fun e w' => e = .returned (.tuple #[.int .i64 (findV n (l.getD 2 0) 22 0).at_, .agg (findV n (l.getD 2 0) 22 0).cells, .bool (findV n (l.getD 2 0) 22 0).ok]) ∧ Below w.heap.size w w') := viewBy_any n (l.getD 2 0)
      have hbd := findV_bd n (l.getD 2 0) 22 0 (by omega)
      generalize findV n (l.getD 2 0) 22 0 = V at *
      obtain ⟨va, vn, vr, vw, vo⟩ := V
      simp only [Vw.cells] at HV F0 F1 hbd
      obtain ⟨b, off, rfl, hb0, c2⟩ := hs 2 (by omega)
      generalize l.getD 2 0 = mid at *
      cases vo with
      | true =>
        obtain ⟨k, hk, hva⟩ := hbd rfl
        subst hva
        rw [if_pos rfl, Int.toNat_natCast] at F0
        have F : Hid (readIV 22 l n p = bits .and .u64 (l.getD k 0) vr ∧ readIB 22 l n p = true) := ⟨F0, F1⟩
        obtain ⟨b', off', e, hb', ck⟩ := hs k (by omega)
        simp only [Option.some.injEq, Addr.mk.injEq, and_true] at e
        obtain ⟨rfl, rfl⟩ := e
        generalize l.getD k 0 = y at *
        have hk0 : (0 : Int) ≤ (k : Int) := by omega
        have hk1 : (k : Int) < 22 := by omega
        clear F0 F1 hbd hs hl hok hre HF
        go_enter Try.func17, Try.ntmps17
        go_wp2_with fail
        refine HO.out.mono ?_
        rintro e w1 ⟨rfl, hb⟩
        have c2' : w1.cell? ⟨b, off + 2, none⟩ = some (.int .u64 mid) := (hb.cell (by exact hb0)).trans c2
        go_wp2_with fail
        refine (HM.out _).mono ?_
        rintro e w2 ⟨rfl, hw2⟩
        have hw3 := hw2.symm
        subst hw3
        go_wp2_with fail
        refine (HV.out _).mono ?_
        rintro e w3 ⟨rfl, hb3⟩
        have B3 := below_trans hb hb3
        have ck' : w3.cell? ⟨b, off + k, none⟩ = some (.int .u64 y) := (B3.cell (by exact hb0)).trans ck
        have hlt3 : b < w3.heap.size := Nat.lt_of_lt_of_le hb0 B3.size
        go_wp2_with fail
        go_quiet (fail)
        go_wp2_with fail
        go_ret2
        exact ⟨by rw [F.out.1, F.out.2]; rfl, below_dN' (B3.alloc B3.size _) _⟩
      | false =>
        have F : Hid (readIV 22 l n p = fixV n ∧ readIB 22 l n p = fixB n) := ⟨F0, F1⟩
        clear F0 F1 hbd hs hl hok hre
        generalize fixV n = fv at *
        generalize fixB n = fb at *
        go_enter Try.func17, Try.ntmps17
        go_wp2_with fail
        refine HO.out.mono ?_
        rintro e w1 ⟨rfl, hb⟩
        have c2' : w1.cell? ⟨b, off + 2, none⟩ = some (.int .u64 mid) := (hb.cell (by exact hb0)).trans c2
        go_wp2_with fail
        refine (HM.out _).mono ?_
        rintro e w2 ⟨rfl, hw2⟩
        have hw3 := hw2.symm
        subst hw3
        go_wp2_with fail
        refine (HV.out _).mono ?_
        rintro e w3 ⟨rfl, hb3⟩
        have B3 := below_trans hb hb3
        go_wp2_with fail
        refine (HF.out _).mono ?_
        rintro e w4 ⟨rfl, hw4⟩
        subst hw4
        go_wp2_with fail
        go_ret2
        exact ⟨by rw [F.out.1, F.out.2]; rfl, B3.alloc B3.size _⟩

end Go.Proofs.Ytgcbdlfljplkbab
