/- The program's NewCsrs, Place, ReadCsr and WriteCsr, and the model's NewCsrs. -/
import Derived.Test.YtaicnnkcdpdhaabDoorCsrN
namespace Go.Proofs.YtaicnnkcdpdhaabDoor
open Go.RowKit
set_option linter.unusedVariables false

theorem below_dN' {B : Nat} {a w : World} (h : Below B a w) (n : Nat) : Below B a (w.drewN n) := ⟨h.os, h.tape, h.output, h.size, h.block⟩

theorem own_nilW (w : World) (base : Nat) : w.ownsRow base 27 1 (.slice none 0 0) 0 (([] : List Int).map (Value.int .u64)) := ⟨rfl, .inl ⟨rfl, rfl⟩⟩

theorem specNewCsrs_any (w : World) : Calls Tryd.prog 40 #[] w fun e w' => e = .returned (.slice (some ⟨w.heap.size, 0, none⟩) 22 22) ∧
      w'.ownsRow w.heap.size 27 1 (.slice (some ⟨w.heap.size, 0, none⟩) 22 22) 22 ((List.replicate 22 (0 : Int)).map (Value.int .u64)) ∧ Below w.heap.size w w' := by
  obtain ⟨i0, hi, hz0, hz1, hz2⟩ := info_parts infoW
  have hb2 : i0.bytes * 22 ≤ 281474976710656 := by rw [hz2]; omega
  have hb3 : 22 ≤ maxLen := by unfold maxLen; omega
  clear hz2
  go_enter Tryd.func40, Tryd.ntmps40
  go_wp2_with (at_make; refine wpList_make_full _ rfl (.const (.int .i64 22)) (.const (.int .i64 22)) 24 rfl w.heap.size 27 i0 (.int .u64 0) 1 Tryd.underlying24 hi hz0 hz1 .i64 .i64 _ _ 22 rfl rfl rfl rfl hb2 hb3 (Nat.le_refl _) ?_; intro w1 hown hgrow)
  go_ret
  refine ⟨rfl, ?_, (Below.refl _ _).grown hgrow (Nat.le_refl _) (by intro k h; cases h)⟩
  have e : (List.replicate 22 (0 : Int)).map (Value.int .u64) = List.replicate 22 (.int .u64 0) := by simp
  rw [e, ← toList_madeCells_one]; simpa [Value.cells] using hown

theorem findV_bd (n m : Int) : ∀ f k, k + f ≤ 22 → (findV n m f k).ok = true → ∃ j : Nat, j < 22 ∧ (findV n m f k).at_ = (j : Int) := by
  intro f
  induction f with
  | zero => intro k _ h; cases h
  | succ f ih =>
    intro k hk
    unfold findV
    split
    · intro _; exact ⟨k, by omega, rfl⟩
    · split
      · intro _; exact ⟨k, by omega, rfl⟩
      · exact ih (k + 1) (by omega)

/-- What the program's ReadCsr hands back. -/
def mayI (m : Nat) (l : List Int) (n p : Int) : Bool := fitsOk m l && reachB n p

def readIB (m : Nat) (l : List Int) (n p : Int) : Bool := mayI m l n p && ((findV n (l.getD 2 0) 22 0).ok || fixB n)

def readIV (m : Nat) (l : List Int) (n p : Int) : Int :=
  if mayI m l n p = true then (if (findV n (l.getD 2 0) 22 0).ok = true then bits .and .u64 (l.getD (findV n (l.getD 2 0) 22 0).at_.toNat 0) (findV n (l.getD 2 0) 22 0).rd else fixV n) else 0

theorem fitsOk_len {m : Nat} {l : List Int} (h : fitsOk m l = true) : m = 22 := by
  simp only [fitsOk, Bool.and_eq_true, decide_eq_true_eq] at h
  exact h.1

end Go.Proofs.YtaicnnkcdpdhaabDoor
