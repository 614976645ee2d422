/- The model's DevLoad. By tools/genDevT.py. -/
import Derived.Test.YtbkddoibefgplaaDevS
namespace Go.Proofs.Ytbkddoibefgplaa
open Go.RowKit
set_option linter.unusedVariables false

theorem row_drew {W : World} {g : Nat} {o : Obj} (h : W.heap[g]? = some o) : W.drew.heap[g]? = some o := h

theorem size_drew (W : World) : W.drew.heap.size = W.heap.size := rfl

theorem row2d {w : World} {o1 o2 : Obj} : ((w.alloc o1).alloc o2).drew.heap[w.heap.size + 1]? = some o2 := (rows2 (w := w) (o1 := o1) (o2 := o2) (Below.refl _ ((w.alloc o1).alloc o2))).2

theorem row2n {w : World} {o1 o2 : Obj} : ((w.alloc o1).alloc o2).heap[w.heap.size + 1]? = some o2 := (rows2 (w := w) (o1 := o1) (o2 := o2) (Below.refl _ ((w.alloc o1).alloc o2))).2

theorem below2d {w : World} {o1 o2 : Obj} : Below w.heap.size w ((w.alloc o1).alloc o2).drew := (((Below.refl _ _).alloc (Nat.le_refl _) o1).alloc (by simp) o2).drew

theorem below2n {w : World} {o1 o2 : Obj} : Below w.heap.size w ((w.alloc o1).alloc o2) := ((Below.refl _ _).alloc (Nat.le_refl _) o1).alloc (by simp) o2

set_option maxRecDepth 100000 in
set_option maxHeartbeats 1600000 in
theorem l8Load_0 (t cm : Int) (so : Bool) (a1 : Option Addr) (n1 c1 : Nat) (a2 : Option Addr) (n2 c2 : Nat) (ir : Int) (w : World) :
    Calls Try.prog 42 #[.agg #[.int .u64 t, .int .u64 cm, .bool so, .slice a1 n1 c1, .slice a2 n2 c2, .int .i64 ir], .int .u64 33554432, .int .i64 4] w fun e w' => e = .returned (.tuple #[.int .u64 (oneIf so), .agg #[.int .u64 t, .int .u64 cm, .bool so, .slice a1 n1 c1, .slice a2 n2 c2, .int .i64 ir], .bool true]) ∧ Below w.heap.size w w' := by
  have HI : Hid (∀ w, Calls Try.prog 59 #[.bool so] w fun e w' => e = .returned (.int .u64 (oneIf so)) ∧ w' = w) := l3If_any so
  generalize oneIf so = v at *
  go_enter Try.func42, Try.ntmps42
  go_wp2_with fail
  go_region_with (first | (go_at_call 59; with_reducible refine (HI.out _).mono ?_; rintro e w1 ⟨rfl, hw1⟩; subst hw1))
  all_goals go_wp2_with fail
  all_goals exact bodyPost_ret (results_tct8 Try.results42 _ _ _ _ _ _ _ rfl row2d Try.underlying26 rfl dev_size) rfl ⟨rfl, below2d⟩

set_option maxRecDepth 100000 in
set_option maxHeartbeats 1600000 in
theorem l8Load_1 (t cm : Int) (so : Bool) (a1 : Option Addr) (n1 c1 : Nat) (a2 : Option Addr) (n2 c2 : Nat) (ir : Int) (w : World) :
    Calls Try.prog 42 #[.agg #[.int .u64 t, .int .u64 cm, .bool so, .slice a1 n1 c1, .slice a2 n2 c2, .int .i64 ir], .int .u64 33570816, .int .i64 8] w fun e w' => e = .returned (.tuple #[.int .u64 cm, .agg #[.int .u64 t, .int .u64 cm, .bool so, .slice a1 n1 c1, .slice a2 n2 c2, .int .i64 ir], .bool true]) ∧ Below w.heap.size w w' := by
  go_enter Try.func42, Try.ntmps42
  go_wp2_with fail
  go_region
  go_wp2_with fail
  exact bodyPost_ret (results_tct8 Try.results42 _ _ _ _ _ _ _ rfl row2d Try.underlying26 rfl dev_size) rfl ⟨rfl, below2d⟩

set_option maxRecDepth 100000 in
set_option maxHeartbeats 1600000 in
theorem l8Load_2 (t cm : Int) (so : Bool) (a1 : Option Addr) (n1 c1 : Nat) (a2 : Option Addr) (n2 c2 : Nat) (ir : Int) (w : World) :
    Calls Try.prog 42 #[.agg #[.int .u64 t, .int .u64 cm, .bool so, .slice a1 n1 c1, .slice a2 n2 c2, .int .i64 ir], .int .u64 33603576, .int .i64 8] w fun e w' => e = .returned (.tuple #[.int .u64 t, .agg #[.int .u64 t, .int .u64 cm, .bool so, .slice a1 n1 c1, .slice a2 n2 c2, .int .i64 ir], .bool true]) ∧ Below w.heap.size w w' := by
  go_enter Try.func42, Try.ntmps42
  go_wp2_with fail
  go_region
  go_wp2_with fail
  exact bodyPost_ret (results_tct8 Try.results42 _ _ _ _ _ _ _ rfl row2d Try.underlying26 rfl dev_size) rfl ⟨rfl, below2d⟩

set_option maxRecDepth 100000 in
set_option maxHeartbeats 1600000 in
theorem l8Load_3e (t cm : Int) (so : Bool) (a1 : Option Addr) (c1 : Nat) (a2 : Option Addr) (n2 c2 : Nat) (ir : Int) (w : World) :
    Calls Try.prog 42 #[.agg #[.int .u64 t, .int .u64 cm, .bool so, .slice a1 0 c1, .slice a2 n2 c2, .int .i64 ir], .int .u64 268435456, .int .i64 1] w fun e w' => e = .returned (.tuple #[.int .u64 0, .agg #[.int .u64 t, .int .u64 cm, .bool so, .slice a1 0 c1, .slice a2 n2 c2, .int .i64 ir], .bool true]) ∧ Below w.heap.size w w' := by
  go_enter Try.func42, Try.ntmps42
  go_wp2_with fail
  go_region
  go_wp2_with fail
  exact bodyPost_ret (results_tct8 Try.results42 _ _ _ _ _ _ _ rfl row2d Try.underlying26 rfl dev_size) rfl ⟨rfl, below2d⟩

set_option maxRecDepth 100000 in
set_option maxHeartbeats 1600000 in
theorem l8Load_4 (t cm : Int) (so : Bool) (a1 : Option Addr) (n1 c1 : Nat) (a2 : Option Addr) (n2 c2 : Nat) (ir : Int) (w : World) :
    Calls Try.prog 42 #[.agg #[.int .u64 t, .int .u64 cm, .bool so, .slice a1 n1 c1, .slice a2 n2 c2, .int .i64 ir], .int .u64 268435457, .int .i64 1] w fun e w' => e = .returned (.tuple #[.int .u64 (IntKind.u64.wrap ir), .agg #[.int .u64 t, .int .u64 cm, .bool so, .slice a1 n1 c1, .slice a2 n2 c2, .int .i64 ir], .bool true]) ∧ Below w.heap.size w w' := by
  go_enter Try.func42, Try.ntmps42
  go_wp2_with fail
  go_region
  go_wp2_with fail
  exact bodyPost_ret (results_tct8 Try.results42 _ _ _ _ _ _ _ rfl row2d Try.underlying26 rfl dev_size) rfl ⟨rfl, below2d⟩

set_option maxRecDepth 100000 in
set_option maxHeartbeats 1600000 in
theorem l8Load_5 (t cm : Int) (so : Bool) (a1 : Option Addr) (n1 c1 : Nat) (a2 : Option Addr) (n2 c2 : Nat) (ir : Int) (hn1 : n1 ≤ 1048576) (w : World) :
    Calls Try.prog 42 #[.agg #[.int .u64 t, .int .u64 cm, .bool so, .slice a1 n1 c1, .slice a2 n2 c2, .int .i64 ir], .int .u64 268435461, .int .i64 1] w fun e w' => e = .returned (.tuple #[.int .u64 (IntKind.u64.wrap (32 + oneIf (decide (0 < n1)))), .agg #[.int .u64 t, .int .u64 cm, .bool so, .slice a1 n1 c1, .slice a2 n2 c2, .int .i64 ir], .bool true]) ∧ Below w.heap.size w w' := by
  have HI : Hid (∀ w, Calls Try.prog 59 #[.bool (decide (0 < n1))] w fun e w' => e = .returned (.int .u64 (oneIf (decide (0 < n1)))) ∧ w' = w) := l3If_any _
  generalize oneIf (decide (0 < n1)) = v at *
  clear hn1
  go_enter Try.func42, Try.ntmps42
  go_wp2_with fail
  go_region_with (first | (go_at_call 59; with_reducible refine (HI.out _).mono ?_; rintro e w1 ⟨rfl, hw1⟩; subst hw1))
  all_goals go_wp2_with fail
  all_goals exact bodyPost_ret (results_tct8 Try.results42 _ _ _ _ _ _ _ rfl row2d Try.underlying26 rfl dev_size) rfl ⟨rfl, below2d⟩

set_option maxRecDepth 100000 in
set_option maxHeartbeats 1600000 in
theorem l8Load_6 (t cm : Int) (so : Bool) (a1 : Option Addr) (n1 c1 : Nat) (a2 : Option Addr) (n2 c2 : Nat) (ir : Int) (addr size : Int) (k0 : addr = 33554432 → ¬ size = 4) (k1 : addr = 33570816 → ¬ size = 8) (k2 : addr = 33603576 → ¬ size = 8) (k3 : addr = 268435456 → ¬ size = 1) (k4 : addr = 268435457 → ¬ size = 1) (k5 : addr = 268435461 → ¬ size = 1) (w : World) :
    Calls Try.prog 42 #[.agg #[.int .u64 t, .int .u64 cm, .bool so, .slice a1 n1 c1, .slice a2 n2 c2, .int .i64 ir], .int .u64 addr, .int .i64 size] w fun e w' => e = .returned (.tuple #[.int .u64 0, .agg #[.int .u64 0, .int .u64 0, .bool false, .slice none 0 0, .slice none 0 0, .int .i64 0], .bool false]) ∧ Below w.heap.size w w' := by
  by_cases q0 : addr = 33554432
  · have s0 : (size == 4) = false := by simpa using k0 q0
    subst q0
    clear k0 k1 k2 k3 k4 k5
    go_enter Try.func42, Try.ntmps42
    go_wp2_with fail
    exact bodyPost_ret (results_tct8 Try.results42 _ _ _ _ _ _ _ rfl row2n Try.underlying26 rfl dev_size) rfl ⟨rfl, below2n⟩
  · have t0 : (addr == 33554432) = false := by simpa using q0
    by_cases q1 : addr = 33570816
    · have s1 : (size == 8) = false := by simpa using k1 q1
      subst q1
      clear k0 k1 k2 k3 k4 k5
      go_enter Try.func42, Try.ntmps42
      go_wp2_with fail
      exact bodyPost_ret (results_tct8 Try.results42 _ _ _ _ _ _ _ rfl row2n Try.underlying26 rfl dev_size) rfl ⟨rfl, below2n⟩
    · have t1 : (addr == 33570816) = false := by simpa using q1
      by_cases q2 : addr = 33603576
      · have s2 : (size == 8) = false := by simpa using k2 q2
        subst q2
        clear k0 k1 k2 k3 k4 k5
        go_enter Try.func42, Try.ntmps42
        go_wp2_with fail
        exact bodyPost_ret (results_tct8 Try.results42 _ _ _ _ _ _ _ rfl row2n Try.underlying26 rfl dev_size) rfl ⟨rfl, below2n⟩
      · have t2 : (addr == 33603576) = false := by simpa using q2
        by_cases q3 : addr = 268435456
        · have s3 : (size == 1) = false := by simpa using k3 q3
          subst q3
          clear k0 k1 k2 k3 k4 k5
          go_enter Try.func42, Try.ntmps42
          go_wp2_with fail
          exact bodyPost_ret (results_tct8 Try.results42 _ _ _ _ _ _ _ rfl row2n Try.underlying26 rfl dev_size) rfl ⟨rfl, below2n⟩
        · have t3 : (addr == 268435456) = false := by simpa using q3
          by_cases q4 : addr = 268435457
          · have s4 : (size == 1) = false := by simpa using k4 q4
            subst q4
            clear k0 k1 k2 k3 k4 k5
            go_enter Try.func42, Try.ntmps42
            go_wp2_with fail
            exact bodyPost_ret (results_tct8 Try.results42 _ _ _ _ _ _ _ rfl row2n Try.underlying26 rfl dev_size) rfl ⟨rfl, below2n⟩
          · have t4 : (addr == 268435457) = false := by simpa using q4
            by_cases q5 : addr = 268435461
            · have s5 : (size == 1) = false := by simpa using k5 q5
              subst q5
              clear k0 k1 k2 k3 k4 k5
              go_enter Try.func42, Try.ntmps42
              go_wp2_with fail
              exact bodyPost_ret (results_tct8 Try.results42 _ _ _ _ _ _ _ rfl row2n Try.underlying26 rfl dev_size) rfl ⟨rfl, below2n⟩
            · have t5 : (addr == 268435461) = false := by simpa using q5
              clear k0 k1 k2 k3 k4 k5 q0 q1 q2 q3 q4 q5
              go_enter Try.func42, Try.ntmps42
              go_wp2_with fail
              exact bodyPost_ret (results_tct8 Try.results42 _ _ _ _ _ _ _ rfl row2n Try.underlying26 rfl dev_size) rfl ⟨rfl, below2n⟩

theorem Sl.next {w : World} {b off : Nat} {zs : List Int} (h : Sl .u8 w (some ⟨b, off, none⟩) zs) : Sl .u8 w (some ⟨b, off + 1, none⟩) (zs.drop 1) := by
  intro i hi
  rw [List.length_drop] at hi
  obtain ⟨b', off', e, hb, hc⟩ := h (i + 1) (by omega)
  simp only [Option.some.injEq, Addr.mk.injEq, and_true] at e
  obtain ⟨rfl, rfl⟩ := e
  refine ⟨_, _, rfl, hb, ?_⟩
  have e2 : (zs.drop 1).getD i 0 = zs.getD (i + 1) 0 := by
    rw [List.getD_eq_getElem?_getD, List.getD_eq_getElem?_getD, List.getElem?_drop, Nat.add_comm]
  rw [e2, show off + 1 + i = off + (i + 1) from by omega]
  exact hc

set_option maxRecDepth 100000 in
set_option maxHeartbeats 1600000 in
theorem l8Load_3 (t cm : Int) (so : Bool) (g off : Nat) (n1 c1 : Nat) (a2 : Option Addr) (n2 c2 : Nat) (ir : Int) (xs ys : List Int) (B E : Nat) (w : World) (hx : xs.length = n1) (hy : ys.length = n2) (hn0 : 1 ≤ n1) (hn1 : n1 ≤ 16) (hc1 : n1 ≤ c1) (hc2 : c1 ≤ 9223372036854775807) (hBE : B ≤ E) (hE : E ≤ w.heap.size) (hf : Fam B E w (devF (some ⟨g, off, none⟩) n1 c1 xs a2 n2 c2 ys)) (hw : 0 ≤ xs.getD 0 0 ∧ xs.getD 0 0 ≤ 255) :
    Calls Try.prog 42 #[.agg #[.int .u64 t, .int .u64 cm, .bool so, .slice (some ⟨g, off, none⟩) n1 c1, .slice a2 n2 c2, .int .i64 ir], .int .u64 268435456, .int .i64 1] w fun e w' => ∃ (b1 : Option Addr) (d1 : Nat), e = .returned (.tuple #[.int .u64 (xs.getD 0 0), .agg #[.int .u64 t, .int .u64 cm, .bool so, .slice b1 (n1 - 1) d1, .slice a2 n2 c2, .int .i64 ir], .bool true]) ∧ Fam B w'.heap.size w' (devF b1 (n1 - 1) d1 (xs.drop 1) a2 n2 c2 ys) ∧ Below w.heap.size w w' := by
  have hs := hf.in_
  obtain ⟨b', off', e, hlt, hc⟩ := hs 0 (by omega)
  simp only [Option.some.injEq, Addr.mk.injEq, and_true] at e
  obtain ⟨rfl, rfl⟩ := e
  have hB2 : ∀ o1 o2, Below w.heap.size w ((w.alloc o1).alloc o2) := fun o1 o2 => below2n
  have k0 : ∀ o1 o2, ((w.alloc o1).alloc o2).cell? ⟨g, off, none⟩ = some (.int .u8 (xs.getD 0 0)) := fun o1 o2 => ((hB2 o1 o2).cell (by exact hlt)).trans hc
  have t0 : ((n1 : Int) == 0) = false := by simp; omega
  have i0 : (0 : Int) < (n1 : Int) := by omega
  have i1 : (1 : Int) ≤ (n1 : Int) := by omega
  have HS : Hid (∀ w', Below w.heap.size w w' → Sl .u8 w' (some ⟨g, off + 1, none⟩) (xs.drop 1)) := fun w' hb => (hs.below hb).next
  have HX : Hid ((xs.drop 1).length = n1 - 1 ∧ n1 - 1 ≤ 1048576) := ⟨by rw [List.length_drop, hx], by omega⟩
  have HF : Hid (Fam B E w (devF (some ⟨g, off, none⟩) n1 c1 xs a2 n2 c2 ys)) := hf
  have HE2 : Hid (B ≤ E ∧ E ≤ w.heap.size) := ⟨hBE, hE⟩
  have hE := own_empty8 ((w.alloc (.cells #[.int .u64 t, .int .u64 cm, .bool so, .slice (some ⟨g, off, none⟩) n1 c1, .slice a2 n2 c2, .int .i64 ir] 26)).alloc (.cells #[.int .u64 0, .int .u64 0, .bool false, .slice none 0 0, .slice none 0 0, .int .i64 0] 26)) (w.heap.size + 1 + 1) (by simp) (.cells #[] 5 (0, 0)) rfl
  rw [World.size_alloc, World.size_alloc] at hE
  have hwr : IntKind.u64.wrap (xs.getD 0 0) = xs.getD 0 0 := by rw [IntKind.wrap_u64]; omega
  have HWR := dhid hwr
  clear hs hc hf hBE hwr hw hx hy
  generalize xs.getD 0 0 = x0 at *
  by_cases hcc : c1 = 1
  · have hnn : n1 = 1 := by omega
    subst hcc hnn
    have hdz : xs.drop 1 = [] := List.length_eq_zero_iff.1 (by have := HX.out.1; simpa using this)
    rw [hdz]
    clear hdz HS HX
    go_enter Try.func42, Try.ntmps42
    go_wp2_with (first | (at_builtin; refine wpList_app8 rfl (.tmp 58) (.tmp 61) rfl (w.heap.size + 1 + 1) _ rfl hE _ 0 _ [] rfl rfl (by omega) (fun i hi => absurd hi (Nat.not_lt_zero _)) (by simp) ?_; intro b1 d1 w1 ow1 gr1; obtain ⟨r0, r1, hb1, z1⟩ := app2 gr1; have R0 := dhid r0; have R1 := dhid r1; have B1 := dhid hb1; have Z1 := dhid z1; have O1 := dhid ow1; obtain ⟨p0, p1, p2, p3, p4, p5⟩ := cells6 r0; obtain ⟨s0, s1, s2, s3, s4, s5⟩ := cells6 r1; obtain ⟨y0, y1, y2, y3, y4, y5⟩ := froz6 r1; have f3 := froz r0 3; clear r0 r1 hb1 z1 ow1 gr1))
    go_region
    go_wp2_with fail
    rw [HWR.out]
    have T1 := row_put6 (row_far R1.out ⟨w.heap.size, 3, none⟩ (.slice b1 0 d1) (by dsimp only; omega)) (.int .u64 t) (.int .u64 cm) (.bool so) (.slice b1 0 d1) (.slice a2 n2 c2) (.int .i64 ir)
    have A1 := ((HF.out.below B1.out).set ⟨w.heap.size, 3, none⟩ (.slice b1 0 d1) (.inr HE2.out.2)).put6 (w.heap.size + 1) (.inr (by have := HE2.out; omega)) (.int .u64 t) (.int .u64 cm) (.bool so) (.slice b1 0 d1) (.slice a2 n2 c2) (.int .i64 ir)
    have A2 := (((Fam.nil (w.heap.size + 1 + 1) (w.heap.size + 1 + 1) w1).snoc (bRow b1 0 d1 []) _ w1.heap.size O1.out (Nat.le_refl _) (Nat.le_refl _) (Nat.le_refl _) (by have := Z1.out; omega)).set ⟨w.heap.size, 3, none⟩ (.slice b1 0 d1) (.inl (by dsimp only; omega))).put6 (w.heap.size + 1) (.inl (by omega)) (.int .u64 t) (.int .u64 cm) (.bool so) (.slice b1 0 d1) (.slice a2 n2 c2) (.int .i64 ir)
    have A3 := A1.newIn b1 0 d1 [] _ w1.heap.size (A2.own (bRow b1 0 d1 []) (by simp)) (by have := HE2.out; omega) (by have := HE2.out; omega) (by rw [size_put6, size_set]; exact Nat.le_refl _) (by have := HE2.out; have := Z1.out; omega)
    have B4 := below_put6 (B1.out.setCell (p := ⟨w.heap.size, 3, none⟩) (Nat.le_refl _) (.slice b1 0 d1)) (g := w.heap.size + 1) (by omega) (.int .u64 t) (.int .u64 cm) (.bool so) (.slice b1 0 d1) (.slice a2 n2 c2) (.int .i64 ir)
    exact bodyPost_ret (results_tct8 Try.results42 _ _ _ _ _ _ _ rfl (row_drew T1) Try.underlying26 rfl dev_size) rfl ⟨b1, d1, rfl, (A3.below (Below.refl _ _).drew).low (Nat.le_refl _) (by rw [size_drew]; simp only [size_set]; exact Nat.le_refl _), B4.drew⟩
  · have hcc2 : ¬ (c1 - 1 = 0) := by omega
    go_enter Try.func42, Try.ntmps42
    go_wp2_with (first | (at_builtin; refine wpList_app8 rfl (.tmp 58) (.tmp 61) rfl (w.heap.size + 1 + 1) _ rfl hE (some ⟨g, off + 1, none⟩) (n1 - 1) (c1 - 1) (xs.drop 1) rfl HX.out.1 HX.out.2 (HS.out _ ((hB2 _ _).alloc (hB2 _ _).size _)) (by simp) ?_; intro b1 d1 w1 ow1 gr1; obtain ⟨r0, r1, hb1, z1⟩ := app2 gr1; have R0 := dhid r0; have R1 := dhid r1; have B1 := dhid hb1; have Z1 := dhid z1; have O1 := dhid ow1; obtain ⟨p0, p1, p2, p3, p4, p5⟩ := cells6 r0; obtain ⟨s0, s1, s2, s3, s4, s5⟩ := cells6 r1; obtain ⟨y0, y1, y2, y3, y4, y5⟩ := froz6 r1; have f3 := froz r0 3; clear r0 r1 hb1 z1 ow1 gr1))
    go_region
    go_wp2_with fail
    rw [HWR.out]
    have T1 := row_put6 (row_far R1.out ⟨w.heap.size, 3, none⟩ (.slice b1 (n1 - 1) d1) (by dsimp only; omega)) (.int .u64 t) (.int .u64 cm) (.bool so) (.slice b1 (n1 - 1) d1) (.slice a2 n2 c2) (.int .i64 ir)
    have A1 := ((HF.out.below B1.out).set ⟨w.heap.size, 3, none⟩ (.slice b1 (n1 - 1) d1) (.inr HE2.out.2)).put6 (w.heap.size + 1) (.inr (by have := HE2.out; omega)) (.int .u64 t) (.int .u64 cm) (.bool so) (.slice b1 (n1 - 1) d1) (.slice a2 n2 c2) (.int .i64 ir)
    have A2 := (((Fam.nil (w.heap.size + 1 + 1) (w.heap.size + 1 + 1) w1).snoc (bRow b1 (n1 - 1) d1 (xs.drop 1)) _ w1.heap.size O1.out (Nat.le_refl _) (Nat.le_refl _) (Nat.le_refl _) (by have := Z1.out; omega)).set ⟨w.heap.size, 3, none⟩ (.slice b1 (n1 - 1) d1) (.inl (by dsimp only; omega))).put6 (w.heap.size + 1) (.inl (by omega)) (.int .u64 t) (.int .u64 cm) (.bool so) (.slice b1 (n1 - 1) d1) (.slice a2 n2 c2) (.int .i64 ir)
    have A3 := A1.newIn b1 (n1 - 1) d1 (xs.drop 1) _ w1.heap.size (A2.own (bRow b1 (n1 - 1) d1 (xs.drop 1)) (by simp)) (by have := HE2.out; omega) (by have := HE2.out; omega) (by rw [size_put6, size_set]; exact Nat.le_refl _) (by have := HE2.out; have := Z1.out; omega)
    have B4 := below_put6 (B1.out.setCell (p := ⟨w.heap.size, 3, none⟩) (Nat.le_refl _) (.slice b1 (n1 - 1) d1)) (g := w.heap.size + 1) (by omega) (.int .u64 t) (.int .u64 cm) (.bool so) (.slice b1 (n1 - 1) d1) (.slice a2 n2 c2) (.int .i64 ir)
    exact bodyPost_ret (results_tct8 Try.results42 _ _ _ _ _ _ _ rfl (row_drew T1) Try.underlying26 rfl dev_size) rfl ⟨b1, d1, rfl, (A3.below (Below.refl _ _).drew).low (Nat.le_refl _) (by rw [size_drew]; simp only [size_set]; exact Nat.le_refl _), B4.drew⟩

end Go.Proofs.Ytbkddoibefgplaa
