/- The model's devices. -/
import Derived.Test.YtcdjfiljlahaeaaDevP
import Derived.Deep.RegionWith
namespace Go.Proofs.Ytcdjfiljlahaeaa
open Go.RowKit
set_option linter.unusedVariables false

theorem l3If_dev (b : Bool) (w : World) : Calls Try.prog 66 #[.bool b] w fun e w' => e = .returned (.int .u64 (oneIf b)) ∧ w' = w := by
  cases b with
  | false =>
    go_enter Try.func66, Try.ntmps66
    go_wp2_with fail
    go_ret
    exact ⟨rfl, rfl⟩
  | true =>
    go_enter Try.func66, Try.ntmps66
    go_wp2_with fail
    go_ret
    exact ⟨rfl, rfl⟩

theorem l1In_8 (x : Int) (w : World) : Calls Try.prog 61 #[.int .i64 x, .int .i64 0, .int .i64 1] w fun e w' => e = .returned (.bool (decide (0 ≤ x ∧ x ≤ 1))) ∧ w' = w := by
  by_cases h1 : 0 ≤ x
  · by_cases h2 : x ≤ 1
    · have F : Hid (decide (0 ≤ x ∧ x ≤ 1) = true) := by show decide (0 ≤ x ∧ x ≤ 1) = true; simp [h1, h2]
      have d1 : decide (0 ≤ x) = true := by simpa using h1
      have d2 : decide (x ≤ 1) = true := by simpa using h2
      clear h1 h2
      generalize decide (0 ≤ x ∧ x ≤ 1) = v at *
      go_enter Try.func61, Try.ntmps61
      go_wp2
      go_ret
      exact ⟨by rw [F.out]; rfl, rfl⟩
    · have F : Hid (decide (0 ≤ x ∧ x ≤ 1) = false) := by show _ = false; simp; omega
      have d1 : decide (0 ≤ x) = true := by simpa using h1
      have d2 : decide (x ≤ 1) = false := by simpa using h2
      clear h1 h2
      generalize decide (0 ≤ x ∧ x ≤ 1) = v at *
      go_enter Try.func61, Try.ntmps61
      go_wp2
      go_ret
      exact ⟨by rw [F.out]; rfl, rfl⟩
  · have F : Hid (decide (0 ≤ x ∧ x ≤ 1) = false) := by show _ = false; simp; omega
    have d1 : decide (0 ≤ x) = false := by simpa using h1
    clear h1
    generalize decide (0 ≤ x ∧ x ≤ 1) = v at *
    go_enter Try.func61, Try.ntmps61
    go_wp2
    go_ret
    exact ⟨by rw [F.out]; rfl, rfl⟩

theorem specDevOk_any (t cm : Int) (so : Bool) (a1 : Option Addr) (n1 c1 : Nat) (a2 : Option Addr) (n2 c2 : Nat) (ir : Int) (w : World) (hn1 : n1 ≤ 1048576) (hn2 : n2 ≤ 1048576) :
    Calls Try.prog 38 #[.agg #[.int .u64 t, .int .u64 cm, .bool so, .slice a1 n1 c1, .slice a2 n2 c2, .int .i64 ir]] w fun e w' => e = .returned (.bool (okD n1 n2 ir)) ∧ Below w.heap.size w w' := by
  have HI : Hid (∀ w, Calls Try.prog 61 #[.int .i64 ir, .int .i64 0, .int .i64 1] w fun e w' => e = .returned (.bool (decide (0 ≤ ir ∧ ir ≤ 1))) ∧ w' = w) := l1In_8 ir
  have hB : ∀ o, Below w.heap.size w (w.alloc o) := fun o => (Below.refl _ _).alloc (Nat.le_refl _) o
  have F : okD n1 n2 ir = (decide (n1 ≤ 16) && decide (n2 ≤ 4096) && decide (0 ≤ ir ∧ ir ≤ 1)) := rfl
  generalize okD n1 n2 ir = v at *
  generalize decide (0 ≤ ir ∧ ir ≤ 1) = q at *
  by_cases h1 : n1 ≤ 16
  · have d1 : decide ((n1 : Int) ≤ 16) = true := by simp; omega
    by_cases h2 : n2 ≤ 4096
    · have d2 : decide ((n2 : Int) ≤ 4096) = true := by simp; omega
      have F2 : Hid (v = q) := by show v = q; rw [F, decide_eq_true h1, decide_eq_true h2]; rfl
      clear F h1 h2 hn1 hn2
      go_enter Try.func38, Try.ntmps38
      go_wp2_with fail
      refine (HI.out _).mono ?_
      rintro e w1 ⟨rfl, hw1⟩
      subst hw1
      go_wp2_with fail
      go_ret
      exact ⟨by rw [F2.out]; rfl, hB _⟩
    · have d2 : decide ((n2 : Int) ≤ 4096) = false := by simp; omega
      have F2 : Hid (v = false) := by show v = _; rw [F, decide_eq_true h1, decide_eq_false h2]; rfl
      clear F h1 h2 hn1 hn2
      go_enter Try.func38, Try.ntmps38
      go_wp2_with fail
      go_ret
      exact ⟨by rw [F2.out]; rfl, hB _⟩
  · have d1 : decide ((n1 : Int) ≤ 16) = false := by simp; omega
    have F2 : Hid (v = false) := by show v = _; rw [F, decide_eq_false h1]; rfl
    clear F h1 hn1 hn2
    go_enter Try.func38, Try.ntmps38
    go_wp2_with fail
    go_ret
    exact ⟨by rw [F2.out]; rfl, hB _⟩

theorem row_al8 {W : World} {g : Nat} {o : Obj} (h : W.heap[g]? = some o) (o' : Obj) : (W.alloc o').heap[g]? = some o := (Below.heap_alloc W o' g (Array.getElem?_eq_some_iff.1 h).1).trans h

theorem app2 {w w1 : World} {o1 o2 o3 : Obj} (gr : (((w.alloc o1).alloc o2).alloc o3).grownBy w1 (some (w.heap.size + 1 + 1))) : w1.heap[w.heap.size]? = some o1 ∧ w1.heap[w.heap.size + 1]? = some o2 ∧ Below w.heap.size w w1 ∧ w.heap.size + 1 + 1 + 1 ≤ w1.heap.size := by
  obtain ⟨h1, h2, _⟩ := rows3 (w := w) (o1 := o1) (o2 := o2) (o3 := o3) (Below.refl _ (((w.alloc o1).alloc o2).alloc o3))
  have hs := gr.size
  simp only [World.size_alloc] at hs
  refine ⟨(gr.block _ (by simp only [World.size_alloc]; omega) (by simp; omega)).trans h1, (gr.block _ (by simp only [World.size_alloc]; omega) (by simp)).trans h2, ?_, hs⟩
  exact Below.grown ((((Below.refl _ _).alloc (Nat.le_refl _) o1).alloc (by simp) o2).alloc (by simp; omega) o3) gr (by simp only [World.size_alloc]; omega) (fun k hk => by simp at hk; omega)

theorem app1 {w w1 : World} {o : Obj} {g : Nat} (gr : (w.alloc o).grownBy w1 (some g)) (hg : g = w.heap.size) : Below w.heap.size w w1 := by
  subst hg
  exact Below.grown ((Below.refl _ _).alloc (Nat.le_refl _) o) gr (by simp) (fun k hk => by simp at hk; omega)

set_option maxRecDepth 100000 in
set_option maxHeartbeats 1600000 in
theorem l8Copy_any (t cm : Int) (so : Bool) (a1 : Option Addr) (n1 c1 : Nat) (a2 : Option Addr) (n2 c2 : Nat) (ir : Int) (xs ys : List Int) (w : World) (hx : xs.length = n1) (hy : ys.length = n2) (hn1 : n1 ≤ 1048576) (hn2 : n2 ≤ 1048576) (hs1 : Sl .u8 w a1 xs) (hs2 : Sl .u8 w a2 ys) :
    Calls Try.prog 62 #[.agg #[.int .u64 t, .int .u64 cm, .bool so, .slice a1 n1 c1, .slice a2 n2 c2, .int .i64 ir]] w fun e w' => ∃ (b1 : Option Addr) (d1 : Nat) (b2 : Option Addr) (d2 : Nat), e = .returned (.agg #[.int .u64 t, .int .u64 cm, .bool so, .slice b1 n1 d1, .slice b2 n2 d2, .int .i64 ir]) ∧
      Fam w.heap.size w'.heap.size w' (devF b1 n1 d1 xs b2 n2 d2 ys) ∧ Below w.heap.size w w' := by
  have hB2 : ∀ o1 o2, Below w.heap.size w ((w.alloc o1).alloc o2) := fun o1 o2 => ((Below.refl _ _).alloc (Nat.le_refl _) o1).alloc (by simp) o2
  have hE := own_empty8 ((w.alloc (.cells #[.int .u64 t, .int .u64 cm, .bool so, .slice a1 n1 c1, .slice a2 n2 c2, .int .i64 ir] 28)).alloc (.cells #[.int .u64 0, .int .u64 0, .bool false, .slice none 0 0, .slice none 0 0, .int .i64 0] 28)) (w.heap.size + 1 + 1) (by simp) (.cells #[] 5 (0, 0)) rfl
  rw [World.size_alloc, World.size_alloc] at hE
  have HS1 : Hid (∀ w', Below w.heap.size w w' → Sl .u8 w' a1 xs) := fun w' hb => hs1.below hb
  have HS2 : Hid (∀ w', Below w.heap.size w w' → Sl .u8 w' a2 ys) := fun w' hb => hs2.below hb
  have HX : Hid (xs.length = n1 ∧ ys.length = n2 ∧ n1 ≤ 1048576 ∧ n2 ≤ 1048576) := ⟨hx, hy, hn1, hn2⟩
  clear hs1 hs2 hx hy hn1 hn2
  go_enter Try.func62, Try.ntmps62
  go_wp2_with (first
    | (at_builtin; refine wpList_app8 rfl (.tmp 3) (.tmp 5) rfl (w.heap.size + 1 + 1) _ rfl hE a1 n1 c1 xs rfl HX.out.1 HX.out.2.2.1 (HS1.out _ ((hB2 _ _).alloc (hB2 _ _).size _)) (by simp) ?_; intro b1 d1 w1 ow1 gr1; obtain ⟨r0, r1, hb1, z1⟩ := app2 gr1; have R0 := dhid r0; have R1 := dhid r1; have B1 := dhid hb1; have Z1 := dhid z1; have A1 := dhid ((Fam.nil (w.heap.size + 1 + 1) (w.heap.size + 1 + 1) w1).snoc (bRow b1 n1 d1 xs) _ w1.heap.size ow1 (Nat.le_refl _) (Nat.le_refl _) (Nat.le_refl _) (by omega)); obtain ⟨p0, p1, p2, p3, p4, p5⟩ := cells6 r0; have f3 := froz r0 3; have hE2 := own_empty8 (w1.setCell ⟨w.heap.size, 3, none⟩ (.slice b1 n1 d1)) w1.heap.size (by rw [size_set]; exact Nat.le_refl _) (.cells #[] 5 (0, 0)) rfl; rw [size_set] at hE2; have R0' : (w1.setCell ⟨w.heap.size, 3, none⟩ (.slice b1 n1 d1)).heap[w.heap.size]? = some (.cells #[.int .u64 t, .int .u64 cm, .bool so, .slice b1 n1 d1, .slice a2 n2 c2, .int .i64 ir] 28 (0, 0)) := row_set R0.out 3 (.slice b1 n1 d1); have p4' := fun o => (cells6 (row_al8 R0' o)).2.2.2.2.1; clear r0 r1 hb1 z1 ow1 gr1 R0')
    | (at_builtin; refine wpList_app8 rfl (.tmp 8) (.tmp 10) rfl w1.heap.size _ rfl hE2 a2 n2 c2 ys rfl HX.out.2.1 HX.out.2.2.2 (HS2.out _ ((B1.out.setCell (p := ⟨w.heap.size, 3, none⟩) (Nat.le_refl _) _).alloc (B1.out.setCell (p := ⟨w.heap.size, 3, none⟩) (Nat.le_refl _) _).size _)) (by rw [World.size_alloc, size_set]; omega) ?_; intro b2 d2 w2 ow2 gr2; have hb2 := app1 gr2 (by rw [size_set]); have z2 := hb2.size; have S0 : Hid (w2.heap[w.heap.size]? = some (.cells #[.int .u64 t, .int .u64 cm, .bool so, .slice b1 n1 d1, .slice a2 n2 c2, .int .i64 ir] 28 (0, 0))) := dstays hb2 (row_set R0.out 3 (.slice b1 n1 d1)); have S1 := dhid (dstays hb2 (row_far R1.out ⟨w.heap.size, 3, none⟩ (.slice b1 n1 d1) (by dsimp only; omega))); have B2 := dhid (below_trans (B1.out.setCell (p := ⟨w.heap.size, 3, none⟩) (Nat.le_refl _) (.slice b1 n1 d1)) hb2); rw [size_set] at z2; have A2 := dhid (((A1.out.set ⟨w.heap.size, 3, none⟩ (.slice b1 n1 d1) (.inl (by dsimp only; omega))).below hb2).snoc (bRow b2 n2 d2 ys) _ w2.heap.size ow2 (Nat.le_refl _) (by have := Z1.out; omega) (Nat.le_refl _) z2); clear p0 p1 p2 p3 p4 p5 f3 p4'; obtain ⟨p0, p1, p2, p3, p4, p5⟩ := cells6 S0.out; have f4 := froz S0.out 4; obtain ⟨s0, s1, s2, s3, s4, s5⟩ := cells6 S1.out; obtain ⟨y0, y1, y2, y3, y4, y5⟩ := froz6 S1.out; clear ow2 gr2 hb2 z2))
  have T1 := row_far S1.out ⟨w.heap.size, 4, none⟩ (.slice b2 n2 d2) (by dsimp only; omega)
  have A3 := (A2.out.set ⟨w.heap.size, 4, none⟩ (.slice b2 n2 d2) (.inl (by dsimp only; omega))).put6 (w.heap.size + 1) (.inl (by omega)) (.int .u64 t) (.int .u64 cm) (.bool so) (.slice b1 n1 d1) (.slice b2 n2 d2) (.int .i64 ir)
  have B3 := below_put6 (B2.out.setCell (p := ⟨w.heap.size, 4, none⟩) (Nat.le_refl _) (.slice b2 n2 d2)) (g := w.heap.size + 1) (by omega) (.int .u64 t) (.int .u64 cm) (.bool so) (.slice b1 n1 d1) (.slice b2 n2 d2) (.int .i64 ir)
  exact bodyPost_ret (results_cell_row Try.results62 _ _ _ _ _ _ _ rfl (row_put6 T1 _ _ _ _ _ _) Try.underlying28 rfl dev_size) rfl ⟨b1, d1, b2, d2, rfl, A3.low (by omega) (by simp only [size_set]; exact Nat.le_refl _), B3⟩

end Go.Proofs.Ytcdjfiljlahaeaa
