/- The model's Tick and Byte. By tools/genDevX.py. -/
import Derived.Test.YtbkddoibefgplaaDevS
import Derived.Test.YtbkddoibefgplaaPushP
import Derived.Deep.Cut
namespace Go.Proofs.Ytbkddoibefgplaa
open Go.RowKit
set_option linter.unusedVariables false

theorem belowx {w : World} {o1 o2 : Obj} : Below w.heap.size w ((w.alloc o1).alloc o2) := ((Below.refl _ _).alloc (Nat.le_refl _) o1).alloc (by simp) o2

set_option maxRecDepth 100000 in
set_option maxHeartbeats 1600000 in
theorem specTick_any (D : DV) (a1 : Option Addr) (c1 : Nat) (a2 : Option Addr) (c2 : Nat) (n : Int) (w : World) (hn1 : D.xs.length ≤ 1048576) (hn2 : D.ys.length ≤ 1048576) (hs1 : Sl .u8 w a1 D.xs) (hs2 : Sl .u8 w a2 D.ys) :
    Calls Try.prog 22 #[.agg #[.int .u64 D.t, .int .u64 D.cm, .bool D.so, .slice a1 D.xs.length c1, .slice a2 D.ys.length c2, .int .i64 D.ir], .int .i64 n] w fun e w' => ∃ (b1 : Option Addr) (d1 : Nat) (b2 : Option Addr) (d2 : Nat), e = .returned (.agg (dvc (tickD D n) b1 d1 b2 d2)) ∧
      Fam w.heap.size w'.heap.size w' (dvF (tickD D n) b1 d1 b2 d2) ∧ Below w.heap.size w w' := by
  have HOK : Hid (∀ w, Calls Try.prog 23 #[.agg #[.int .u64 D.t, .int .u64 D.cm, .bool D.so, .slice a1 D.xs.length c1, .slice a2 D.ys.length c2, .int .i64 D.ir]] w fun e w' => e = .returned (.bool (okD D.xs.length D.ys.length D.ir)) ∧ Below w.heap.size w w') := fun w => specDevOk_any _ _ _ _ _ _ _ _ _ _ w hn1 hn2
  have HCP : Hid (∀ w', Below w.heap.size w w' → Calls Try.prog 39 #[.agg #[.int .u64 D.t, .int .u64 D.cm, .bool D.so, .slice a1 D.xs.length c1, .slice a2 D.ys.length c2, .int .i64 D.ir]] w' fun e w'' => ∃ (b1 : Option Addr) (d1 : Nat) (b2 : Option Addr) (d2 : Nat), e = .returned (.agg #[.int .u64 D.t, .int .u64 D.cm, .bool D.so, .slice b1 D.xs.length d1, .slice b2 D.ys.length d2, .int .i64 D.ir]) ∧ Fam w'.heap.size w''.heap.size w'' (devF b1 D.xs.length d1 D.xs b2 D.ys.length d2 D.ys) ∧ Below w'.heap.size w' w'') := fun w' hb => l8Copy_any _ _ _ _ _ _ _ _ _ _ D.xs D.ys w' rfl rfl hn1 hn2 (hs1.below hb) (hs2.below hb)
  cases hok : okD D.xs.length D.ys.length D.ir with
  | false =>
    have F : tickD D n = zeroD := by unfold tickD; rw [hok]; rfl
    rw [F]
    rw [hok] at HOK
    clear hs1 hs2 hn1 hn2 HCP F hok
    obtain ⟨t, cm, so, xs, ys, ir⟩ := D
    dsimp only at HOK ⊢
    generalize xs.length = n1 at *
    generalize ys.length = n2 at *
    go_enter Try.func22, Try.ntmps22
    go_wp2_with fail
    refine (HOK.out _).mono ?_
    rintro e w1 ⟨rfl, hb1⟩
    obtain ⟨r0, r1⟩ := rows2 hb1
    have R1 := dhid r1
    have B1 := dhid (below_trans belowx hb1)
    obtain ⟨s0, s1, s2, s3, s4, s5⟩ := cells6 r1
    obtain ⟨y0, y1, y2, y3, y4, y5⟩ := froz6 r1
    clear r0 r1 hb1
    go_wp2_with fail
    exact bodyPost_ret (results_cell_row Try.results22 _ _ _ _ _ _ _ rfl (row_put6 R1.out _ _ _ _ _ _) Try.underlying26 rfl dev_size) rfl ⟨none, 0, none, 0, rfl, fam_zero _ _ _, below_put6 B1.out (by omega) _ _ _ _ _ _⟩
  | true =>
    rw [hok] at HOK
    cases hneg : decide (n < 0) with
    | true =>
      have F : tickD D n = zeroD := by unfold tickD; rw [hok, hneg]; rfl
      rw [F]
      clear hs1 hs2 hn1 hn2 HCP F hok
      obtain ⟨t, cm, so, xs, ys, ir⟩ := D
      dsimp only at HOK ⊢
      generalize xs.length = n1 at *
      generalize ys.length = n2 at *
      go_enter Try.func22, Try.ntmps22
      go_wp2_with fail
      refine (HOK.out _).mono ?_
      rintro e w1 ⟨rfl, hb1⟩
      obtain ⟨r0, r1⟩ := rows2 hb1
      have R1 := dhid r1
      have B1 := dhid (below_trans belowx hb1)
      obtain ⟨s0, s1, s2, s3, s4, s5⟩ := cells6 r1
      obtain ⟨y0, y1, y2, y3, y4, y5⟩ := froz6 r1
      clear r0 r1 hb1
      go_wp2_with fail
      exact bodyPost_ret (results_cell_row Try.results22 _ _ _ _ _ _ _ rfl (row_put6 R1.out _ _ _ _ _ _) Try.underlying26 rfl dev_size) rfl ⟨none, 0, none, 0, rfl, fam_zero _ _ _, below_put6 B1.out (by omega) _ _ _ _ _ _⟩
    | false =>
      obtain ⟨tt, htt⟩ : ∃ tt, IntKind.u64.wrap (D.t + IntKind.u64.wrap n) = tt := ⟨_, rfl⟩
      have F : tickD D n = ⟨tt, D.cm, D.so, D.xs, D.ys, D.ir⟩ := by unfold tickD; rw [hok, hneg, htt]; rfl
      rw [F]
      have HT := dhid htt
      clear hs1 hs2 hn1 hn2 F hok htt
      obtain ⟨t, cm, so, xs, ys, ir⟩ := D
      dsimp only [dvc, dvF] at HOK HCP HT ⊢
      generalize xs.length = n1 at *
      generalize ys.length = n2 at *
      go_enter Try.func22, Try.ntmps22
      go_wp2_with fail
      refine (HOK.out _).mono ?_
      rintro e w1 ⟨rfl, hb1⟩
      obtain ⟨r0, r1⟩ := rows2 hb1
      have R0 := dhid r0
      have R1 := dhid r1
      have B1 := dhid (below_trans belowx hb1)
      obtain ⟨p0, p1, p2, p3, p4, p5⟩ := cells6 r0
      clear r0 r1 hb1
      go_wp2_with fail
      refine (HCP.out _ B1.out).mono ?_
      rintro e w2 ⟨b1, d1, b2, d2, rfl, fm2, hb2⟩
      have FM2 := dhid fm2
      have S0 := dhid (dstays hb2 R0.out)
      have S1 := dhid (dstays hb2 R1.out)
      have B2 := dhid (below_trans B1.out hb2)
      have Z1 := dhid (show w.heap.size + 1 < w1.heap.size ∧ w1.heap.size ≤ w2.heap.size from ⟨(Array.getElem?_eq_some_iff.1 R1.out).1, hb2.size⟩)
      have u0 := fun o => (cells6 (row_al8 S0.out o)).1
      have s0 := fun o => (cells6 (row_al8 S1.out o)).1
      have s1 := fun o => (cells6 (row_al8 S1.out o)).2.1
      have s2 := fun o => (cells6 (row_al8 S1.out o)).2.2.1
      have s3 := fun o => (cells6 (row_al8 S1.out o)).2.2.2.1
      have s4 := fun o => (cells6 (row_al8 S1.out o)).2.2.2.2.1
      have s5 := fun o => (cells6 (row_al8 S1.out o)).2.2.2.2.2
      have y0 := fun o => froz (row_al8 S1.out o) 0
      have y1 := fun o => froz (row_al8 S1.out o) 1
      have y2 := fun o => froz (row_al8 S1.out o) 2
      have y3 := fun o => froz (row_al8 S1.out o) 3
      have y4 := fun o => froz (row_al8 S1.out o) 4
      have y5 := fun o => froz (row_al8 S1.out o) 5
      clear fm2 hb2 p0 p1 p2 p3 p4 p5
      go_wp2_with fail
      rw [HT.out]
      exact bodyPost_ret (results_cell_row Try.results22 _ _ _ _ _ _ _ rfl (row_put6 (row_al8 S1.out _) _ _ _ _ _ _) Try.underlying26 rfl dev_size) rfl ⟨b1, d1, b2, d2, rfl, (((FM2.out.below ((Below.refl _ _).alloc (Nat.le_refl _) _)).put6 (w.heap.size + 1) (.inl Z1.out.1) _ _ _ _ _ _).low (by have := Z1.out; omega) (by simp only [size_set, World.size_alloc]; omega)), below_put6 (B2.out.alloc B2.out.size _) (by omega) _ _ _ _ _ _⟩

theorem Fam.pushIn {B E : Nat} {w w' : World} {a1 : Option Addr} {n1 c1 : Nat} {xs : List Int} {a2 : Option Addr} {n2 c2 : Nat} {ys : List Int} (h : Fam B E w (devF a1 n1 c1 xs a2 n2 c2 ys)) (hE : E ≤ w.heap.size) (gr : w.grownBy w' (Value.slice a1 n1 c1).ownBlock) {f : Option Addr} {m g : Nat} {zs : List Int} (ho : w'.ownsRow B 5 1 (.slice f m g) m (zs.map (Value.int .u8))) (hw : (Value.slice f m g).ownBlock = (Value.slice a1 n1 c1).ownBlock ∨ (Value.slice f m g).ownBlock = some w.heap.size) : Fam B w'.heap.size w' (devF f m g zs a2 n2 c2 ys) := by
  have hne := (List.pairwise_cons.1 h.ne).1 (bRow a2 n2 c2 ys) (List.mem_singleton.2 rfl)
  have h2 := h.own (bRow a2 n2 c2 ys) (by simp [devF])
  have hi2 := h.hi (bRow a2 n2 c2 ys) (by simp [devF])
  refine ⟨fun r hr => ?_, fun r hr k e => ?_, List.pairwise_cons.2 ⟨fun r hr k e e2 => ?_, List.pairwise_singleton _ _⟩⟩
  · rcases List.mem_cons.1 hr with rfl | hr
    · exact ho
    · rw [List.mem_singleton.1 hr]
      exact fown_of h2 (fun k e => gr.block k (h2.lt k e).2 (fun e2 => hne k e2.symm e))
  · rcases List.mem_cons.1 hr with rfl | hr
    · exact (ho.lt k e).2
    · rw [List.mem_singleton.1 hr] at e
      have := (h2.lt k e).2
      have := gr.size
      omega
  · rw [List.mem_singleton.1 hr] at e2
    rcases hw with hw | hw
    · exact hne k (hw.symm.trans e) e2
    · have e3 : some w.heap.size = some k := hw.symm.trans e
      cases e3
      have := hi2 _ e2
      omega

theorem Fam.setNe {B E : Nat} {w : World} {a1 : Option Addr} {n1 c1 : Nat} {xs : List Int} {a2 : Option Addr} {n2 c2 : Nat} {ys : List Int} (h : Fam B E w (devF a1 n1 c1 xs a2 n2 c2 ys)) (p : Addr) (v : Value) (h1 : ∀ k, (Value.slice a1 n1 c1).ownBlock = some k → k ≠ p.block) (h2 : ∀ k, (Value.slice a2 n2 c2).ownBlock = some k → k ≠ p.block) : Fam B E (w.setCell p v) (devF a1 n1 c1 xs a2 n2 c2 ys) := by
  refine ⟨fun r hr => fown_of (h.own r hr) (fun k e => Below.heap_setCell w p v k ?_), h.hi, h.ne⟩
  rcases List.mem_cons.1 hr with rfl | hr
  · exact h1 k e
  · rw [List.mem_singleton.1 hr] at e
    exact h2 k e

theorem one_new9 (w : World) (o : Obj) (b : Int) (j : Nat) (u : Value) (h : [Value.int .u8 b][j]? = some u) : ((w.alloc o).alloc (.cells #[.int .u8 b] 5)).cell? ((⟨w.heap.size + 1, 0, none⟩ : Addr).add j) = some u := by
  have h2 := one_new8 (w.alloc o) b j u h
  rw [World.size_alloc] at h2
  exact h2

end Go.Proofs.Ytbkddoibefgplaa
