/- The cursor over the bytes of a draw: what it hands out fits, and nothing but its own block is written. -/
import Derived.Test.YtjjpklalihaanaaDoorMem
import Derived.Test.YtjjpklalihaanaaDoorNameC
import Derived.BigQuiet
namespace Go.Proofs.YtjjpklalihaanaaDoor
open Go.RowKit
set_option linter.unusedVariables false

theorem and_i64 (z : Int) (m : Nat) (hm : m < 9223372036854775808) : 0 ≤ bits .and .i64 z (m : Int) ∧ bits .and .i64 z (m : Int) ≤ m := by
  have e : bits .and .i64 z (m : Int) = wrap64 (((BitVec.ofInt 64 z).toNat &&& m : Nat) : Int) := by
    show IntKind.i64.wrap ((BitVec.ofInt 64 z &&& BitVec.ofInt 64 (m : Int)).toNat : Int) = _
    rw [BitVec.toNat_and, BitVec.ofInt_natCast, BitVec.toNat_ofNat, Nat.mod_eq_of_lt (show m < 2 ^ 64 by omega)]
    rw [IntKind.wrap_i64]; unfold wrap64; rfl
  have h : (BitVec.ofInt 64 z).toNat &&& m ≤ m := Nat.and_le_right
  rw [e]
  unfold wrap64
  omega

/-- The code: bytes that lay in memory before the cursor was made. -/
structure Code (w0 : World) (a : Option Addr) (n : Nat) (zs : List Int) : Prop where
  len : zs.length = n
  few : n ≤ 4096
  sl : Sl .u8 w0 a zs
  bd : ∀ y ∈ zs, (Lit.int .u8 y).wf = true

/-- The cursor in block g over that code. -/
structure Cur (w0 w : World) (g : Nat) (a : Option Addr) (n cap : Nat) : Prop where
  new : w0.heap.size ≤ g
  below : Below w0.heap.size w0 w
  row : ∃ (i : Nat) (h : Int), i ≤ n ∧ w.heap[g]? = some (.cells #[.slice a n cap, .int .i64 (i : Int), .int .i64 h] 69 (0, 0))

theorem grown_set (w : World) (g i : Nat) (v : Value) : w.grownBy (w.setCell ⟨g, i, none⟩ v) (some g) :=
  ⟨rfl, rfl, rfl, by simp, fun k _ hk => heap_setCell_other _ _ _ _ (by intro h; exact hk (by rw [h]))⟩

theorem grown_dN (w : World) (n : Nat) (row : Option Nat) : w.grownBy (w.drewN n) row := ⟨rfl, rfl, rfl, Nat.le_refl _, fun _ _ _ => rfl⟩

theorem grown_alloc (w : World) (o : Obj) (row : Option Nat) : w.grownBy (w.alloc o) row :=
  ⟨rfl, rfl, rfl, by simp, fun k hk _ => heap_alloc_old w o hk⟩

theorem Cur.grown {w0 w w' : World} {g : Nat} {a : Option Addr} {n cap : Nat} (hc : Cur w0 w g a n cap) (hw : w.grownBy w' none) : Cur w0 w' g a n cap := by
  obtain ⟨i, h, hi, hrow⟩ := hc.row
  have lt : ∀ k o, w.heap[k]? = some o → k < w.heap.size := by
    intro k o hk
    by_cases hl : k < w.heap.size
    · exact hl
    · rw [Array.getElem?_eq_none (by omega)] at hk; cases hk
  refine ⟨hc.new, ?_, i, h, hi, ?_⟩
  · exact ⟨hw.os.trans hc.below.os, hw.tape.trans hc.below.tape, hw.output.trans hc.below.output, Nat.le_trans hc.below.size hw.size, fun k hk => (hw.block k (Nat.lt_of_lt_of_le hk hc.below.size) (by simp)).trans (hc.below.block k hk)⟩
  · rw [hw.block g (lt _ _ hrow) (by simp)]; exact hrow

theorem Cur.set2 {w0 w : World} {g : Nat} {a : Option Addr} {n cap : Nat} (hc : Cur w0 w g a n cap) (v : Int) : Cur w0 (w.setCell ⟨g, 2, none⟩ (.int .i64 v)) g a n cap := by
  obtain ⟨i, h, hi, hrow⟩ := hc.row
  exact ⟨hc.new, hc.below.setCell hc.new _, i, v, hi, heap_setCell_same w g 2 _ _ _ hrow⟩

theorem Cur.set1 {w0 w : World} {g : Nat} {a : Option Addr} {n cap : Nat} (hc : Cur w0 w g a n cap) (j : Nat) (hj : j ≤ n) : Cur w0 (w.setCell ⟨g, 1, none⟩ (.int .i64 (j : Int))) g a n cap := by
  obtain ⟨i, h, hi, hrow⟩ := hc.row
  exact ⟨hc.new, hc.below.setCell hc.new _, j, h, hj, heap_setCell_same w g 1 _ _ _ hrow⟩

theorem Cur.dN {w0 w : World} {g : Nat} {a : Option Addr} {n cap : Nat} (hc : Cur w0 w g a n cap) (m : Nat) : Cur w0 (w.drewN m) g a n cap := hc.grown (grown_dN w m none)

set_option maxHeartbeats 1600000 in
theorem l1Byte_any {w0 : World} {g : Nat} {a : Option Addr} {n cap : Nat} {zs : List Int} (hcd : Code w0 a n zs) (w : World) (hc : Cur w0 w g a n cap) :
    Calls Tryd.prog 36 #[.pointer (some ⟨g, 0, none⟩)] w fun e w' => ∃ x : Int, e = .returned (.int .i64 x) ∧ 0 ≤ x ∧ x ≤ 255 ∧ Cur w0 w' g a n cap ∧ w.grownBy w' (some g) := by
  obtain ⟨i, h, hi, hrow⟩ := hc.row
  have c2 := cell_of_row w g 2 _ _ _ hrow
  have f2 := frozen_of_row w g 2 _ _ hrow
  simp at c2
  have R : ∀ v, (w.setCell ⟨g, 2, none⟩ v).heap[g]? = some (.cells #[.slice a n cap, .int .i64 (i : Int), v] 69 (0, 0)) := fun v => heap_setCell_same w g 2 _ _ v hrow
  have K0 : ∀ v, (w.setCell ⟨g, 2, none⟩ v).cell? ⟨g, 0, none⟩ = some (.slice a n cap) := fun v => cell_of_row _ _ _ _ _ _ (R v)
  have K1 : ∀ v, (w.setCell ⟨g, 2, none⟩ v).cell? ⟨g, 1, none⟩ = some (.int .i64 (i : Int)) := fun v => cell_of_row _ _ _ _ _ _ (R v)
  have K2 : ∀ v, (w.setCell ⟨g, 2, none⟩ v).cell? ⟨g, 2, none⟩ = some v := fun v => cell_of_row _ _ _ _ _ _ (R v)
  have F1 : ∀ v, (w.setCell ⟨g, 2, none⟩ v).frozen? ⟨g, 1, none⟩ = false := fun v => frozen_of_row _ _ _ _ _ (R v)
  have HR : Hid (∀ v, (w.setCell ⟨g, 2, none⟩ v).heap[g]? = some (.cells #[.slice a n cap, .int .i64 (i : Int), v] 69 (0, 0))) := R
  have HC : Hid (Cur w0 w g a n cap) := hc
  have HD : Hid (Code w0 a n zs) := hcd
  clear R hrow hc hcd
  by_cases hlt : i < n
  · obtain ⟨b, off, rfl, hb, hcl⟩ := HD.out.sl i (by rw [HD.out.len]; exact hlt)
    have KC : ∀ v, (w.setCell ⟨g, 2, none⟩ v).cell? ⟨b, off + i, none⟩ = some (.int .u8 (zs.getD i 0)) := fun v => ((HC.out.below.setCell HC.out.new v).cell (by exact hb)).trans hcl
    obtain ⟨y, hy⟩ : ∃ y, y = zs.getD i 0 := ⟨_, rfl⟩
    rw [← hy] at KC
    clear hcl hy
    go_enter Tryd.func36, Tryd.ntmps36
    go_wp2_with fail
    go_quiet (fail)
    go_wp2_with fail
    go_quiet (fail)
    go_wp2_with fail
    go_quiet (fail)
    go_wp2_with fail
    have hi1 : wrap64 ((i : Int) + 1) = ((i + 1 : Nat) : Int) := by
      have := HD.out.few
      unfold wrap64; omega
    rw [hi1]
    go_ret
    refine ⟨_, rfl, (and_i64 _ 255 (by omega)).1, (and_i64 _ 255 (by omega)).2, ?_, ?_⟩
    · exact ((HC.out.set2 _).dN _).set1 _ (by omega)
    · exact grown_trans (grown_trans (grown_set _ _ _ _) (grown_dN _ _ _)) (grown_set _ _ _ _)
  · go_enter Tryd.func36, Tryd.ntmps36
    go_wp2_with fail
    go_quiet (fail)
    go_wp2_with fail
    go_quiet (fail)
    go_wp2_with fail
    go_ret
    refine ⟨_, rfl, (and_i64 _ 255 (by omega)).1, (and_i64 _ 255 (by omega)).2, ?_, ?_⟩
    · exact ((HC.out.set2 _).dN _).dN _
    · exact grown_trans (grown_trans (grown_set _ _ _ _) (grown_dN _ _ _)) (grown_dN _ _ _)

/-- What a callee of the cursor leaves: the cursor, and everything but its block. -/
def Cs (w0 : World) (g : Nat) (a : Option Addr) (n cap : Nat) (w w' : World) : Prop := Cur w0 w' g a n cap ∧ w.grownBy w' (some g)

theorem Cs.trans {w0 w1 w2 w3 : World} {g : Nat} {a : Option Addr} {n cap : Nat} (h : Cs w0 g a n cap w1 w2) (k : Cs w0 g a n cap w2 w3) : Cs w0 g a n cap w1 w3 := ⟨k.1, grown_trans h.2 k.2⟩

theorem Cs.refl {w0 w : World} {g : Nat} {a : Option Addr} {n cap : Nat} (h : Cur w0 w g a n cap) : Cs w0 g a n cap w w := ⟨h, grown_refl _ _⟩

theorem l1Byte_c {w0 : World} {g : Nat} {a : Option Addr} {n cap : Nat} {zs : List Int} (hcd : Code w0 a n zs) (w : World) (hc : Cur w0 w g a n cap) :
    Calls Tryd.prog 36 #[.pointer (some ⟨g, 0, none⟩)] w fun e w' => ∃ x : Int, e = .returned (.int .i64 x) ∧ (0 ≤ x ∧ x ≤ 255) ∧ Hid (Cs w0 g a n cap w w') :=
  (l1Byte_any hcd w hc).mono fun e w' ⟨x, h1, h2, h3, h4, h5⟩ => ⟨x, h1, ⟨h2, h3⟩, ⟨h4, h5⟩⟩

set_option maxHeartbeats 1600000 in
/-- Below n, from 0 on; n is above 0. -/
theorem l1Below_c {w0 : World} {g : Nat} {a : Option Addr} {n cap : Nat} {zs : List Int} (hcd : Code w0 a n zs) (m : Int) (hm : 0 < m) (w : World) (hc : Cur w0 w g a n cap) :
    Calls Tryd.prog 14 #[.pointer (some ⟨g, 0, none⟩), .int .i64 m] w fun e w' => ∃ x : Int, e = .returned (.int .i64 x) ∧ (0 ≤ x ∧ x < m) ∧ Hid (Cs w0 g a n cap w w') := by
  have HD : Hid (Code w0 a n zs) := hcd
  have HC : Hid (Cur w0 w g a n cap) := hc
  have d1 : decide (m ≤ 0) = false := by simp; omega
  have dz : ¬ m = 0 := by omega
  clear hcd hc
  by_cases hle : m ≤ 256
  · have d2 : decide (m ≤ 256) = true := by simpa using hle
    go_enter Tryd.func14, Tryd.ntmps14
    go_wp2_with fail
    refine (l1Byte_c HD.out _ HC.out).mono ?_
    rintro e w1 ⟨x, rfl, ⟨hx0, hx1⟩, hs⟩
    go_wp2_with fail
    go_ret
    refine ⟨_, rfl, ?_, hs⟩
    exact ⟨Int.emod_nonneg _ dz, Int.emod_lt_of_pos _ hm⟩
  · have d2 : decide (m ≤ 256) = false := by simpa using hle
    go_enter Tryd.func14, Tryd.ntmps14
    go_wp2_with fail
    refine (l1Byte_c HD.out _ HC.out).mono ?_
    rintro e w1 ⟨x, rfl, ⟨hx0, hx1⟩, hs1⟩
    go_wp2_with fail
    refine (l1Byte_c HD.out _ hs1.out.1).mono ?_
    rintro e w2 ⟨y, rfl, ⟨hy0, hy1⟩, hs2⟩
    go_wp2_with fail
    refine (l1Byte_c HD.out _ hs2.out.1).mono ?_
    rintro e w3 ⟨z, rfl, ⟨hz0, hz1⟩, hs3⟩
    go_wp2_with fail
    refine (l1Byte_c HD.out _ hs3.out.1).mono ?_
    rintro e w4 ⟨u, rfl, ⟨hu0, hu1⟩, hs4⟩
    go_wp2_with fail
    go_ret
    refine ⟨_, rfl, ?_, hs1.out.trans (hs2.out.trans (hs3.out.trans hs4.out))⟩
    exact ⟨Int.emod_nonneg _ dz, Int.emod_lt_of_pos _ hm⟩

theorem l1Once_c {w0 : World} {g : Nat} {a : Option Addr} {n cap : Nat} {zs : List Int} (hcd : Code w0 a n zs) (m : Int) (hm : 0 < m) (w : World) (hc : Cur w0 w g a n cap) :
    Calls Tryd.prog 17 #[.pointer (some ⟨g, 0, none⟩), .int .i64 m] w fun e w' => ∃ c : Bool, e = .returned (.bool c) ∧ Hid (Cs w0 g a n cap w w') := by
  have HD : Hid (Code w0 a n zs) := hcd
  have HC : Hid (Cur w0 w g a n cap) := hc
  clear hcd hc
  go_enter Tryd.func17, Tryd.ntmps17
  go_wp2_with fail
  refine (l1Below_c HD.out m hm _ HC.out).mono ?_
  rintro e w1 ⟨x, rfl, ⟨hx0, hx1⟩, hs⟩
  go_wp2_with fail
  go_ret
  exact ⟨_, rfl, hs⟩

set_option maxHeartbeats 1600000 in
theorem l1New_c {a : Option Addr} {n : Nat} (cap : Nat) {zs : List Int} (w : World) (hcd : Code w a n zs) :
    Calls Tryd.prog 13 #[.slice a n cap] w fun e w' => ∃ g, e = .returned (.pointer (some ⟨g, 0, none⟩)) ∧ Hid (Cur w w' g a n cap) := by
  have HD : Hid (Code w a n zs) := hcd
  have hn := hcd.few
  clear hcd
  go_enter Tryd.func13, Tryd.ntmps13
  go_wp2_with fail
  go_loopw [3, 4] (fun h i wr => ∃ (k : Nat) (x : Int), k ≤ n ∧ h = .int .i64 x ∧ i = .int .i64 k ∧ Hid (Below w.heap.size w wr))
    (fun _ i _ => n - (intOf i).toNat)
  case atStart => exact ⟨0, _, Nat.zero_le _, rfl, rfl, Below.refl _ _⟩
  case round =>
    obtain ⟨k, x, hk, rfl, rfl, hbel⟩ := hrel
    by_cases hlt : k < n
    · obtain ⟨b, off, rfl, hb, hcl⟩ := HD.out.sl k (by rw [HD.out.len]; exact hlt)
      have KC : wr.cell? ⟨b, off + k, none⟩ = some (.int .u8 (zs.getD k 0)) := (hbel.out.cell (by exact hb)).trans hcl
      clear hcl
      go_wp2_with fail
      go_roundw
      case rel => exact ⟨k + 1, _, by omega, rfl, by go_num, hbel⟩
      case measure => simp [intOf]; omega
    · go_wp2_with fail
      go_ret
      refine ⟨_, rfl, ?_⟩
      exact ⟨hbel.out.size, hbel.out.alloc hbel.out.size _, 0, x, Nat.zero_le _, heap_alloc_new _ _⟩

end Go.Proofs.YtjjpklalihaanaaDoor
