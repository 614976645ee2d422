/- Registers that are drawn, right or not; what WriteCsr is drawn. -/
import Derived.Test.YtaicnnkcdpdhaabDoorDrawR
namespace Go.Proofs.YtaicnnkcdpdhaabDoor
open Go.RowKit
set_option linter.unusedVariables false

/-- The slice that l4DrawAny hands back: all of it, or all but the first. -/
def anyV (w : World) (s : Bool) : Value := if s = true then .slice (some ⟨w.heap.size, 1, none⟩) 21 21 else .slice (some ⟨w.heap.size, 0, none⟩) 22 22

set_option maxHeartbeats 3200000 in
theorem l4DrawAny_c {w0 : World} {g : Nat} {a : Option Addr} {n cap : Nat} {zs : List Int} (hcd : Code w0 a n zs) (w : World) (hc : Cur w0 w g a n cap) :
    Calls Tryd.prog 24 #[.pointer (some ⟨g, 0, none⟩)] w fun e w' => ∃ s : Bool, e = .returned (anyV w s) ∧ Hid (Rg w0 g a n cap w w') := by
  have HD : Hid (Code w0 a n zs) := hcd
  have HC : Hid (Cur w0 w g a n cap) := hc
  have FT : Hid (anyV w true = .slice (some ⟨w.heap.size, 1, none⟩) 21 21) := (rfl : anyV w true = _)
  have FF : Hid (anyV w false = .slice (some ⟨w.heap.size, 0, none⟩) 22 22) := (rfl : anyV w false = _)
  clear hcd hc
  go_enter Tryd.func24, Tryd.ntmps24
  go_wp2_with fail
  refine (l4DrawCsrs_c HD.out _ HC.out).mono ?_
  rintro e w1 ⟨rfl, R1⟩
  go_wp2_with fail
  refine (l1Once_c HD.out 14 (by omega) _ R1.out.cur).mono ?_
  rintro e w2 ⟨c, rfl, hs2⟩
  have R2 : Hid (Rg w0 g a n cap w w2) := R1.out.next hs2.out
  clear R1 hs2
  cases c with
  | false =>
    go_wp2_with fail
    go_ret
    exact ⟨false, by rw [FF.out]; rfl, R2⟩
  | true =>
    go_wp2_with fail
    refine (l1Below_c HD.out 3 (by omega) _ R2.out.cur).mono ?_
    rintro e w3 ⟨x, rfl, ⟨hx0, hx1⟩, hs3⟩
    have R3 : Hid (Rg w0 g a n cap w w3) := R2.out.next hs3.out
    clear R2 hs3
    obtain ⟨k, rfl⟩ := Int.eq_ofNat_of_zero_le hx0
    match k, hx1 with
    | 0, _ =>
      go_wp2_with fail
      go_ret
      exact ⟨true, by rw [FT.out]; rfl, R3⟩
    | 1, _ =>
      go_wp2_with fail
      refine (l1Below_c HD.out 22 (by omega) _ R3.out.cur).mono ?_
      rintro e w4 ⟨x, rfl, ⟨hx0, hx1⟩, hs4⟩
      have R4 : Hid (Rg w0 g a n cap w w4) := R3.out.next hs4.out
      clear R3 hs4
      obtain ⟨k, rfl⟩ := Int.eq_ofNat_of_zero_le hx0
      go_wp2_with fail
      refine (l1DrawWord_c HD.out _ R4.out.cur).mono ?_
      rintro e w5 ⟨y, rfl, hy, hs5⟩
      have R5 : Hid (Rg w0 g a n cap w w5) := R4.out.next hs5.out
      have HY : Hid (U y) := hy
      clear R4 hs5 hy
      obtain ⟨v9, _, hc9, hf9⟩ := R5.out.cell k (by omega)
      go_wp2_with fail
      go_ret
      exact ⟨false, by rw [FF.out]; rfl, R5.out.put k _ HY.out⟩
    | 2, _ =>
      obtain ⟨v9, _, hc9, hf9⟩ := R3.out.cell 9 (by omega)
      go_wp2_with fail
      go_ret
      exact ⟨false, by rw [FF.out]; rfl, R3.out.put 9 _ (U_bits _ _ _)⟩
    | k + 3, h => exact absurd h (by omega)

/-- What is drawn, as its users see it: a list of words, memory of its own. -/
theorem any_list {w0 : World} {g : Nat} {a : Option Addr} {n cap : Nat} {w wr : World} (h : Rg w0 g a n cap w wr) (s : Bool) : ∃ (b : Option Addr) (m c : Nat) (l : List Int), anyV w s = .slice b m c ∧ l.length = m ∧ m ≤ 22 ∧ (∀ j, U (l.getD j 0)) ∧ Sl .u64 wr b l := by
  obtain ⟨⟨zs, h1, h2, h3⟩, ys, k1, k2, k3⟩ := h.sl
  cases s with
  | true => exact ⟨_, _, _, ys, rfl, k1, by omega, k2, k3⟩
  | false => exact ⟨_, _, _, zs, rfl, h1, by omega, h2, h3⟩

theorem results_tmp4 {fn : Func} {t u v x : Tmp} (h : fn.results = #[.tmp t, .tmp u, .tmp v, .tmp x]) (tmps : Array Value) (P : Program) (w : World) :
    (results fn tmps).run P w = .ok (.tuple #[tmps.getD t undef, tmps.getD u undef, tmps.getD v undef, tmps.getD x undef]) w := by
  simp only [results, h]
  simp

end Go.Proofs.YtaicnnkcdpdhaabDoor
