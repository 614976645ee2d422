/- The model's Tick and Byte. By tools/genDevX.py. -/
import Derived.Test.YtbkddoibefgplabDevS
import Derived.Test.YtbkddoibefgplabPushP
import Derived.Deep.Cut
namespace Go.Proofs.Ytbkddoibefgplab
open Go.RowKit
set_option linter.unusedVariables false

theorem belowx {w : World} {o1 o2 : Obj} : Below w.heap.size w ((w.alloc o1).alloc o2) := ((Below.refl _ _).alloc (Nat.le_refl _) o1).alloc (by simp) o2

set_option maxRecDepth 100000 in
set_option maxHeartbeats 1600000 in
theorem specTick_any (D : DV) (a1 : Option Addr) (c1 : Nat) (a2 : Option Addr) (c2 : Nat) (n : Int) (w : World) (hn1 : D.xs.length ≤ 1048576) (hn2 : D.ys.length ≤ 1048576) (hs1 : Sl .u8 w a1 D.xs) (hs2 : Sl .u8 w a2 D.ys) :
    Calls Try.prog 6 #[.agg #[.int .u64 D.t, .int .u64 D.cm, .bool D.so, .slice a1 D.xs.length c1, .slice a2 D.ys.length c2, .int .i64 D.ir], .int .i64 n] w fun e w' => ∃ (b1 : Option Addr) (d1 : Nat) (b2 : Option Addr) (d2 : Nat), e = .returned (.agg (dvc (tickD D n) b1 d1 b2 d2)) ∧
      Fam w.heap.size w'.heap.size w' (dvF (tickD D n) b1 d1 b2 d2) ∧ Below w.heap.size w w' := by
  have HOK : Hid (∀ w, Calls Try.prog 15 #[.agg #[.int .u64 D.t, .int .u64 D.cm, .bool D.so, .slice a1 D.xs.length c1, .slice a2 D.ys.length c2, .int .i64 D.ir]] w fun e w' => e = .returned (.bool (okD D.xs.length D.ys.length D.ir)) ∧ Below w.heap.size w w') := fun w => specDevOk_any _ _ _ _ _ _ _ _ _ _ w hn1 hn2
  have HCP : Hid (∀ w', Below w.heap.size w w' → Calls Try.prog 16 #[.agg #[.int .u64 D.t, .int .u64 D.cm, .bool D.so, .slice a1 D.xs.length c1, .slice a2 D.ys.length c2, .int .i64 D.ir]] w' fun e w'' => ∃ (b1 : Option Addr) (d1 : Nat) (b2 : Option Addr) (d2 : Nat), e = .returned (.agg #[.int .u64 D.t, .int .u64 D.cm, .bool D.so, .slice b1 D.xs.length d1, .slice b2 D.ys.length d2, .int .i64 D.ir]) ∧ Fam w'.heap.size w''.heap.size w'' (devF b1 D.xs.length d1 D.xs b2 D.ys.length d2 D.ys) ∧ Below w'.heap.size w' w'') := fun w' hb => l8Copy_any _ _ _ _ _ _ _ _ _ _ D.xs D.ys w' rfl rfl hn1 hn2 (hs1.below hb) (hs2.below hb)
  cases hok : okD D.xs.length D.ys.length D.ir with
  | false =>
    have F : tickD D n = zeroD := by unfold tickD; rw [hok]; rfl
    rw [F]
    rw [hok] at HOK
    clear hs1 hs2 hn1 hn2 HCP F hok
    obtain ⟨t, cm, so, xs, ys, ir⟩ := D
    dsimp only at HOK ⊢
    generalize xs.length = n1 at *
    generalize ys.length = n2 at *
    go_enter Try.func6, Try.ntmps6
    go_wp2_with fail
    refine (HOK.out _).mono ?_
    rintro e w1 ⟨rfl, hb1⟩
    obtain ⟨r0, r1⟩ := rows2 hb1
    have R1 := dhid r1
    have B1 := dhid (below_trans belowx hb1)
    obtain ⟨s0, s1, s2, s3, s4, s5⟩ := cells6 r1
    obtain ⟨y0, y1, y2, y3, y4, y5⟩ := froz6 r1
    clear r0 r1 hb1
    go_wp2_with fail
    exact bodyPost_ret (results_cell_row Try.results6 _ _ _ _ _ _ _ rfl (row_put6 R1.out _ _ _ _ _ _) Try.underlying27 rfl dev_size) rfl ⟨none, 0, none, 0, rfl, fam_zero _ _ _, below_put6 B1.out (by omega) _ _ _ _ _ _⟩
  | true =>
    rw [hok] at HOK
    cases hneg : decide (n < 0) with
    | true =>
      have F : tickD D n = zeroD := by unfold tickD; rw [hok, hneg]; rfl
      rw [F]
      clear hs1 hs2 hn1 hn2 HCP F hok
      obtain ⟨t, cm, so, xs, ys, ir⟩ := D
      dsimp only at HOK ⊢
      generalize xs.length = n1 at *
      generalize ys.length = n2 at *
      go_enter Try.func6, Try.ntmps6
      go_wp2_with fail
      refine (HOK.out _).mono ?_
      rintro e w1 ⟨rfl, hb1⟩
      obtain ⟨r0, r1⟩ := rows2 hb1
      have R1 := dhid r1
      have B1 := dhid (below_trans belowx hb1)
      obtain ⟨s0, s1, s2, s3, s4, s5⟩ := cells6 r1
      obtain ⟨y0, y1, y2, y3, y4, y5⟩ := froz6 r1
      clear r0 r1 hb1
      go_wp2_with fail
      exact bodyPost_ret (results_cell_row Try.results6 _ _ _ _ _ _ _ rfl (row_put6 R1.out _ _ _ _ _ _) Try.underlying27 rfl dev_size) rfl ⟨none, 0, none, 0, rfl, fam_zero _ _ _, below_put6 B1.out (by omega) _ _ _ _ _ _⟩
    | false =>
      obtain ⟨tt, htt⟩ : ∃ tt, IntKind.u64.wrap (D.t + IntKind.u64.wrap n) = tt := ⟨_, rfl⟩
      have F : tickD D n = ⟨tt, D.cm, D.so, D.xs, D.ys, D.ir⟩ := by unfold tickD; rw [hok, hneg, htt]; rfl
      rw [F]
      have HT := dhid htt
      clear hs1 hs2 hn1 hn2 F hok htt
      obtain ⟨t, cm, so, xs, ys, ir⟩ := D
      dsimp only [dvc, dvF] at HOK HCP HT ⊢
      generalize xs.length = n1 at *
      generalize ys.length = n2 at *
      go_enter Try.func6, Try.ntmps6
      go_wp2_with fail
      refine (HOK.out _).mono ?_
      rintro e w1 ⟨rfl, hb1⟩
      obtain ⟨r0, r1⟩ := rows2 hb1
      have R0 := dhid r0
      have R1 := dhid r1
      have B1 := dhid (below_trans belowx hb1)
      obtain ⟨p0, p1, p2, p3, p4, p5⟩ := cells6 r0
      clear r0 r1 hb1
      go_wp2_with fail
      refine (HCP.out _ B1.out).mono ?_
      rintro e w2 ⟨b1, d1, b2, d2, rfl, fm2, hb2⟩
      have FM2 := dhid fm2
      have S0 := dhid (dstays hb2 R0.out)
      have S1 := dhid (dstays hb2 R1.out)
      have B2 := dhid (below_trans B1.out hb2)
      have Z1 := dhid (show w.heap.size + 1 < w1.heap.size ∧ w1.heap.size ≤ w2.heap.size from ⟨(Array.getElem?_eq_some_iff.1 R1.out).1, hb2.size⟩)
      have u0 := fun o => (cells6 (row_al8 S0.out o)).1
      have s0 := fun o => (cells6 (row_al8 S1.out o)).1
      have s1 := fun o => (cells6 (row_al8 S1.out o)).2.1
      have s2 := fun o => (cells6 (row_al8 S1.out o)).2.2.1
      have s3 := fun o => (cells6 (row_al8 S1.out o)).2.2.2.1
      have s4 := fun o => (cells6 (row_al8 S1.out o)).2.2.2.2.1
      have s5 := fun o => (cells6 (row_al8 S1.out o)).2.2.2.2.2
      have y0 := fun o => froz (row_al8 S1.out o) 0
      have y1 := fun o => froz (row_al8 S1.out o) 1
      have y2 := fun o => froz (row_al8 S1.out o) 2
      have y3 := fun o => froz (row_al8 S1.out o) 3
      have y4 := fun o => froz (row_al8 S1.out o) 4
      have y5 := fun o => froz (row_al8 S1.out o) 5
      clear fm2 hb2 p0 p1 p2 p3 p4 p5
      go_wp2_with fail
      rw [HT.out]
      exact bodyPost_ret (results_cell_row Try.results6 _ _ _ _ _ _ _ rfl (row_put6 (row_al8 S1.out _) _ _ _ _ _ _) Try.underlying27 rfl dev_size) rfl ⟨b1, d1, b2, d2, rfl, (((FM2.out.below ((Below.refl _ _).alloc (Nat.le_refl _) _)).put6 (w.heap.size + 1) (.inl Z1.out.1) _ _ _ _ _ _).low (by have := Z1.out; omega) (by simp only [size_set, World.size_alloc]; omega)), below_put6 (B2.out.alloc B2.out.size _) (by omega) _ _ _ _ _ _⟩

theorem Fam.pushIn {B E : Nat} {w w' : World} {a1 : Option Addr} {n1 c1 : Nat} {xs : List Int} {a2 : Option Addr} {n2 c2 : Nat} {ys : List Int} (h : Fam B E w (devF a1 n1 c1 xs a2 n2 c2 ys)) (hE : E ≤ w.heap.size) (gr : w.grownBy w' (Value.slice a1 n1 c1).ownBlock) {f : Option Addr} {m g : Nat} {zs : List Int} (ho : w'.ownsRow B 5 1 (.slice f m g) m (zs.map (Value.int .u8))) (hw : (Value.slice f m g).ownBlock = (Value.slice a1 n1 c1).ownBlock ∨ (Value.slice f m g).ownBlock = some w.heap.size) : Fam B w'.heap.size w' (devF f m g zs a2 n2 c2 ys) := by
  have hne := (List.pairwise_cons.1 h.ne).1 (bRow a2 n2 c2 ys) (List.mem_singleton.2 rfl)
  have h2 := h.own (bRow a2 n2 c2 ys) (by simp [devF])
  have hi2 := h.hi (bRow a2 n2 c2 ys) (by simp [devF])
  refine ⟨fun r hr => ?_, fun r hr k e => ?_, List.pairwise_cons.2 ⟨fun r hr k e e2 => ?_, List.pairwise_singleton _ _⟩⟩
  · rcases List.mem_cons.1 hr with rfl | hr
    · exact ho
    · rw [List.mem_singleton.1 hr]
      exact fown_of h2 (fun k e => gr.block k (h2.lt k e).2 (fun e2 => hne k e2.symm e))
  · rcases List.mem_cons.1 hr with rfl | hr
    · exact (ho.lt k e).2
    · rw [List.mem_singleton.1 hr] at e
      have := (h2.lt k e).2
      have := gr.size
      omega
  · rw [List.mem_singleton.1 hr] at e2
    rcases hw with hw | hw
    · exact hne k (hw.symm.trans e) e2
    · have e3 : some w.heap.size = some k := hw.symm.trans e
      cases e3
      have := hi2 _ e2
      omega

theorem Fam.setNe {B E : Nat} {w : World} {a1 : Option Addr} {n1 c1 : Nat} {xs : List Int} {a2 : Option Addr} {n2 c2 : Nat} {ys : List Int} (h : Fam B E w (devF a1 n1 c1 xs a2 n2 c2 ys)) (p : Addr) (v : Value) (h1 : ∀ k, (Value.slice a1 n1 c1).ownBlock = some k → k ≠ p.block) (h2 : ∀ k, (Value.slice a2 n2 c2).ownBlock = some k → k ≠ p.block) : Fam B E (w.setCell p v) (devF a1 n1 c1 xs a2 n2 c2 ys) := by
  refine ⟨fun r hr => fown_of (h.own r hr) (fun k e => Below.heap_setCell w p v k ?_), h.hi, h.ne⟩
  rcases List.mem_cons.1 hr with rfl | hr
  · exact h1 k e
  · rw [List.mem_singleton.1 hr] at e
    exact h2 k e

theorem one_new9 (w : World) (o : Obj) (b : Int) (j : Nat) (u : Value) (h : [Value.int .u8 b][j]? = some u) : ((w.alloc o).alloc (.cells #[.int .u8 b] 5)).cell? ((⟨w.heap.size + 1, 0, none⟩ : Addr).add j) = some u := by
  have h2 := one_new8 (w.alloc o) b j u h
  rw [World.size_alloc] at h2
  exact h2

set_option maxRecDepth 100000 in
set_option maxHeartbeats 1600000 in
theorem specByte_any (D : DV) (a1 : Option Addr) (c1 : Nat) (a2 : Option Addr) (c2 : Nat) (b : Int) (w : World) (hn1 : D.xs.length ≤ 1048576) (hn2 : D.ys.length ≤ 1048576) (hs1 : Sl .u8 w a1 D.xs) (hs2 : Sl .u8 w a2 D.ys) :
    Calls Try.prog 12 #[.agg #[.int .u64 D.t, .int .u64 D.cm, .bool D.so, .slice a1 D.xs.length c1, .slice a2 D.ys.length c2, .int .i64 D.ir], .int .u8 b] w fun e w' => ∃ (b1 : Option Addr) (d1 : Nat) (b2 : Option Addr) (d2 : Nat), e = .returned (.agg (dvc (byteD D b) b1 d1 b2 d2)) ∧
      Fam w.heap.size w'.heap.size w' (dvF (byteD D b) b1 d1 b2 d2) ∧ Below w.heap.size w w' := by
  have HOK : Hid (∀ w, Calls Try.prog 15 #[.agg #[.int .u64 D.t, .int .u64 D.cm, .bool D.so, .slice a1 D.xs.length c1, .slice a2 D.ys.length c2, .int .i64 D.ir]] w fun e w' => e = .returned (.bool (okD D.xs.length D.ys.length D.ir)) ∧ Below w.heap.size w w') := fun w => specDevOk_any _ _ _ _ _ _ _ _ _ _ w hn1 hn2
  have HCP : Hid (∀ w', Below w.heap.size w w' → Calls Try.prog 16 #[.agg #[.int .u64 D.t, .int .u64 D.cm, .bool D.so, .slice a1 D.xs.length c1, .slice a2 D.ys.length c2, .int .i64 D.ir]] w' fun e w'' => ∃ (b1 : Option Addr) (d1 : Nat) (b2 : Option Addr) (d2 : Nat), e = .returned (.agg #[.int .u64 D.t, .int .u64 D.cm, .bool D.so, .slice b1 D.xs.length d1, .slice b2 D.ys.length d2, .int .i64 D.ir]) ∧ Fam w'.heap.size w''.heap.size w'' (devF b1 D.xs.length d1 D.xs b2 D.ys.length d2 D.ys) ∧ Below w'.heap.size w' w'') := fun w' hb => l8Copy_any _ _ _ _ _ _ _ _ _ _ D.xs D.ys w' rfl rfl hn1 hn2 (hs1.below hb) (hs2.below hb)
  cases hok : okD D.xs.length D.ys.length D.ir with
  | false =>
    have F : byteD D b = zeroD := by unfold byteD; rw [hok]; rfl
    rw [F]
    rw [hok] at HOK
    clear hs1 hs2 hn1 hn2 HCP F hok
    obtain ⟨t, cm, so, xs, ys, ir⟩ := D
    dsimp only at HOK ⊢
    generalize xs.length = n1 at *
    generalize ys.length = n2 at *
    go_enter Try.func12, Try.ntmps12
    go_wp2_with fail
    refine (HOK.out _).mono ?_
    rintro e w1 ⟨rfl, hb1⟩
    obtain ⟨r0, r1⟩ := rows2 hb1
    have R1 := dhid r1
    have B1 := dhid (below_trans belowx hb1)
    obtain ⟨s0, s1, s2, s3, s4, s5⟩ := cells6 r1
    obtain ⟨y0, y1, y2, y3, y4, y5⟩ := froz6 r1
    clear r0 r1 hb1
    go_wp2_with fail
    exact bodyPost_ret (results_cell_row Try.results12 _ _ _ _ _ _ _ rfl (row_put6 R1.out _ _ _ _ _ _) Try.underlying27 rfl dev_size) rfl ⟨none, 0, none, 0, rfl, fam_zero _ _ _, below_put6 B1.out (by omega) _ _ _ _ _ _⟩
  | true =>
    rw [hok] at HOK
    by_cases hl : D.xs.length < 16
    · have F : byteD D b = ⟨D.t, D.cm, D.so, D.xs ++ [b], D.ys, D.ir⟩ := by unfold byteD; rw [hok, if_pos rfl, if_pos hl]
      have el : (D.xs ++ [b]).length = D.xs.length + 1 := by rw [List.length_append]; rfl
      rw [F]
      dsimp only [dvc, dvF]
      rw [el]
      have dl : decide ((D.xs.length : Int) < 16) = true := by simp; omega
      have HN : Hid (D.xs.length < 16) := hl
      clear hs1 hs2 hn1 hn2 F hok el hl
      obtain ⟨t, cm, so, xs, ys, ir⟩ := D
      dsimp only at HOK HCP HN dl ⊢
      generalize xs.length = n1 at *
      generalize ys.length = n2 at *
      go_enter Try.func12, Try.ntmps12
      go_wp2_with fail
      refine (HOK.out _).mono ?_
      rintro e w1 ⟨rfl, hb1⟩
      obtain ⟨r0, r1⟩ := rows2 hb1
      have R0 := dhid r0
      have R1 := dhid r1
      have B1 := dhid (below_trans belowx hb1)
      obtain ⟨p0, p1, p2, p3, p4, p5⟩ := cells6 r0
      clear r0 r1 hb1
      go_wp2_with fail
      refine (HCP.out _ B1.out).mono ?_
      rintro e w2 ⟨b1, d1, b2, d2, rfl, fm2, hb2⟩
      have FM2 := dhid fm2
      have S0 := dhid (dstays hb2 R0.out)
      have S1 := dhid (dstays hb2 R1.out)
      have B2 := dhid (below_trans B1.out hb2)
      have Z1 := dhid (show w.heap.size + 1 < w1.heap.size ∧ w1.heap.size ≤ w2.heap.size from ⟨(Array.getElem?_eq_some_iff.1 R1.out).1, hb2.size⟩)
      have u0 := fun o => (cells6 (row_al8 S0.out o)).1
      have s0 := fun o => (cells6 (row_al8 S1.out o)).1
      have s1 := fun o => (cells6 (row_al8 S1.out o)).2.1
      have s2 := fun o => (cells6 (row_al8 S1.out o)).2.2.1
      have s3 := fun o => (cells6 (row_al8 S1.out o)).2.2.2.1
      have s4 := fun o => (cells6 (row_al8 S1.out o)).2.2.2.2.1
      have s5 := fun o => (cells6 (row_al8 S1.out o)).2.2.2.2.2
      have y0 := fun o => froz (row_al8 S1.out o) 0
      have y1 := fun o => froz (row_al8 S1.out o) 1
      have y2 := fun o => froz (row_al8 S1.out o) 2
      have y3 := fun o => froz (row_al8 S1.out o) 3
      have y4 := fun o => froz (row_al8 S1.out o) 4
      have y5 := fun o => froz (row_al8 S1.out o) 5
      clear fm2 hb2 p0 p1 p2 p3 p4 p5
      have FMW : Hid (Fam w1.heap.size w2.heap.size ((w2.alloc (.cells #[.int .u64 t, .int .u64 cm, .bool so, .slice b1 n1 d1, .slice b2 n2 d2, .int .i64 ir] 27)).alloc (.cells #[.int .u8 b] 5)) (devF b1 n1 d1 xs b2 n2 d2 ys)) := FM2.out.below (((Below.refl _ _).alloc (Nat.le_refl _) _).alloc (by simp) _)
      have HOW : ((w2.alloc (.cells #[.int .u64 t, .int .u64 cm, .bool so, .slice b1 n1 d1, .slice b2 n2 d2, .int .i64 ir] 27)).alloc (.cells #[.int .u8 b] 5)).ownsRow w1.heap.size 5 1 (.slice b1 n1 d1) n1 (xs.map (Value.int .u8)) := FMW.out.own (bRow b1 n1 d1 xs) (by simp [devF])
      have HOWN := dhid HOW
      have hlt := fun k e => HOW.lt k e
      have HNW : ∀ j u, [Value.int .u8 b][j]? = some u → ((w2.alloc (.cells #[.int .u64 t, .int .u64 cm, .bool so, .slice b1 n1 d1, .slice b2 n2 d2, .int .i64 ir] 27)).alloc (.cells #[.int .u8 b] 5)).cell? ((⟨w2.heap.size + 1, 0, none⟩ : Addr).add j) = some u := one_new9 w2 _ b
      have HNEW := dhid HNW
      have FHI := dhid (fun k e => FM2.out.hi (bRow b1 n1 d1 xs) (by simp [devF]) k e)
      have FLO := dhid (fun k e => (HOW.lt k e).1)
      have nd1 : ¬ w2.heap.size = w.heap.size + 1 := by have := Z1.out; omega
      have nd2 : ¬ w.heap.size + 1 = w2.heap.size := by have := Z1.out; omega
      clear HOW HNW hlt
      go_upto_region 5 with fail
      go_wp2_with (first
        | (at_builtin; refine wpList_push8 rfl (.tmp 17) (.tmp 19) rfl w1.heap.size n1 (.slice b1 n1 d1) xs rfl HOWN.out (by have := HN.out; omega) ⟨w2.heap.size + 1, 0, none⟩ 1 b rfl HNEW.out (by have := Z1.out; simp only [World.size_alloc]; omega) ?_; intro f1 g1 w3 ow3 gr3 hw3; have NE1 : Hid (∀ k, (Value.slice f1 (n1 + 1) g1).ownBlock = some k → k ≠ w2.heap.size) := (fun k e => by rcases hw3 with h | h; (have := FHI.out k (h.symm.trans e); omega); (rw [h] at e; simp only [World.size_alloc, Option.some.injEq] at e; omega)); have A3 := dhid (FMW.out.pushIn (by simp only [World.size_alloc]; omega) gr3 ow3 hw3); have hne : ∀ k, (k < w1.heap.size ∨ w2.heap.size ≤ k) → some k ≠ (Value.slice b1 n1 d1).ownBlock := (fun k hk e => by have h5 := FHI.out k e.symm; have h6 := FLO.out k e.symm; omega); have V5 : w3.heap[w2.heap.size]? = some (.cells #[.int .u64 t, .int .u64 cm, .bool so, .slice b1 n1 d1, .slice b2 n2 d2, .int .i64 ir] 27 (0, 0)) := (gr3.block _ (by simp only [World.size_alloc]; omega) (hne _ (.inr (Nat.le_refl _)))).trans (row_al8 (heap_alloc_new w2 _) _); have V1 := dhid ((gr3.block _ (by have := Z1.out; simp only [World.size_alloc]; omega) (hne _ (.inl Z1.out.1))).trans (row_al8 (row_al8 S1.out _) _)); have B3 := dhid (B2.out.trans (Below.grown (((Below.refl w.heap.size w2).alloc (by have := Z1.out; omega) _).alloc (by have := Z1.out; simp only [World.size_alloc]; omega) _) gr3 (by have := Z1.out; simp only [World.size_alloc]; omega) (fun k hk => by have h6 := FLO.out k hk; have := Z1.out; omega))); obtain ⟨x0, x1, x2, x3, x4, x5⟩ := cells6 V5; have xf := froz V5 3; have Z3 := dhid (show w2.heap.size < w3.heap.size from (Array.getElem?_eq_some_iff.1 V5).1); clear u0 s0 s1 s2 s3 s4 s5 y0 y1 y2 y3 y4 y5; obtain ⟨s0, s1, s2, s3, s4, s5⟩ := cells6 V1.out; obtain ⟨y0, y1, y2, y3, y4, y5⟩ := froz6 V1.out; clear gr3 ow3 hw3 hne V5))
      have NE2 : ∀ k, (Value.slice b2 n2 d2).ownBlock = some k → k ≠ w2.heap.size := fun k e => by have := FM2.out.hi (bRow b2 n2 d2 ys) (by simp [devF]) k e; omega
      have A4 := (A3.out.setNe ⟨w2.heap.size, 3, none⟩ (.slice f1 (n1 + 1) g1) NE1.out NE2).put6 (w.heap.size + 1) (.inl Z1.out.1) (.int .u64 t) (.int .u64 cm) (.bool so) (.slice f1 (n1 + 1) g1) (.slice b2 n2 d2) (.int .i64 ir)
      have T1 := row_put6 (row_far V1.out ⟨w2.heap.size, 3, none⟩ (.slice f1 (n1 + 1) g1) nd2) (.int .u64 t) (.int .u64 cm) (.bool so) (.slice f1 (n1 + 1) g1) (.slice b2 n2 d2) (.int .i64 ir)
      exact bodyPost_ret (results_cell_row Try.results12 _ _ _ _ _ _ _ rfl T1 Try.underlying27 rfl dev_size) rfl ⟨f1, g1, b2, d2, rfl, A4.low (by have := Z1.out; omega) (by simp only [size_set]; exact Nat.le_refl _), below_put6 (B3.out.setCell (p := ⟨w2.heap.size, 3, none⟩) (by have := Z1.out; dsimp only; omega) _) (by omega) _ _ _ _ _ _⟩
    · have F : byteD D b = D := by unfold byteD; rw [hok, if_pos rfl, if_neg hl]
      rw [F]
      have dl : decide ((D.xs.length : Int) < 16) = false := by simp; omega
      clear hs1 hs2 hn1 hn2 F hok hl
      obtain ⟨t, cm, so, xs, ys, ir⟩ := D
      dsimp only [dvc, dvF] at HOK HCP dl ⊢
      generalize xs.length = n1 at *
      generalize ys.length = n2 at *
      go_enter Try.func12, Try.ntmps12
      go_wp2_with fail
      refine (HOK.out _).mono ?_
      rintro e w1 ⟨rfl, hb1⟩
      obtain ⟨r0, r1⟩ := rows2 hb1
      have R0 := dhid r0
      have R1 := dhid r1
      have B1 := dhid (below_trans belowx hb1)
      obtain ⟨p0, p1, p2, p3, p4, p5⟩ := cells6 r0
      clear r0 r1 hb1
      go_wp2_with fail
      refine (HCP.out _ B1.out).mono ?_
      rintro e w2 ⟨b1, d1, b2, d2, rfl, fm2, hb2⟩
      have FM2 := dhid fm2
      have S0 := dhid (dstays hb2 R0.out)
      have S1 := dhid (dstays hb2 R1.out)
      have B2 := dhid (below_trans B1.out hb2)
      have Z1 := dhid (show w.heap.size + 1 < w1.heap.size ∧ w1.heap.size ≤ w2.heap.size from ⟨(Array.getElem?_eq_some_iff.1 R1.out).1, hb2.size⟩)
      have u0 := fun o => (cells6 (row_al8 S0.out o)).1
      have s0 := fun o => (cells6 (row_al8 S1.out o)).1
      have s1 := fun o => (cells6 (row_al8 S1.out o)).2.1
      have s2 := fun o => (cells6 (row_al8 S1.out o)).2.2.1
      have s3 := fun o => (cells6 (row_al8 S1.out o)).2.2.2.1
      have s4 := fun o => (cells6 (row_al8 S1.out o)).2.2.2.2.1
      have s5 := fun o => (cells6 (row_al8 S1.out o)).2.2.2.2.2
      have y0 := fun o => froz (row_al8 S1.out o) 0
      have y1 := fun o => froz (row_al8 S1.out o) 1
      have y2 := fun o => froz (row_al8 S1.out o) 2
      have y3 := fun o => froz (row_al8 S1.out o) 3
      have y4 := fun o => froz (row_al8 S1.out o) 4
      have y5 := fun o => froz (row_al8 S1.out o) 5
      clear fm2 hb2 p0 p1 p2 p3 p4 p5
      go_wp2_with fail
      exact bodyPost_ret (results_cell_row Try.results12 _ _ _ _ _ _ _ rfl (row_put6 (row_al8 S1.out _) _ _ _ _ _ _) Try.underlying27 rfl dev_size) rfl ⟨b1, d1, b2, d2, rfl, (((FM2.out.below ((Below.refl _ _).alloc (Nat.le_refl _) _)).put6 (w.heap.size + 1) (.inl Z1.out.1) _ _ _ _ _ _).low (by have := Z1.out; omega) (by simp only [size_set, World.size_alloc]; omega)), below_put6 (B2.out.alloc B2.out.size _) (by omega) _ _ _ _ _ _⟩

end Go.Proofs.Ytbkddoibefgplab
