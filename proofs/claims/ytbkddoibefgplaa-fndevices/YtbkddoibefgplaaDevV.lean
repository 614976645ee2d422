/- The model's l8Store. By tools/genDevV.py. -/
import Derived.Test.YtbkddoibefgplaaDevU
namespace Go.Proofs.Ytbkddoibefgplaa
open Go.RowKit
set_option linter.unusedVariables false

set_option maxRecDepth 100000 in
set_option maxHeartbeats 1600000 in
theorem l8Store_0 (t cm : Int) (so : Bool) (a1 : Option Addr) (n1 c1 : Nat) (a2 : Option Addr) (n2 c2 : Nat) (ir : Int) (x : Int) (w : World) :
    Calls Try.prog 38 #[.agg #[.int .u64 t, .int .u64 cm, .bool so, .slice a1 n1 c1, .slice a2 n2 c2, .int .i64 ir], .int .u64 33554432, .int .i64 4, .int .u64 x] w fun e w' => e = .returned (.tuple #[.agg #[.int .u64 t, .int .u64 cm, .bool (bits .and .u64 x 1 == 1), .slice a1 n1 c1, .slice a2 n2 c2, .int .i64 ir], .bool true]) ∧ Below w.heap.size w w' := by
  go_enter Try.func38, Try.ntmps38
  go_wp2_with fail
  exact bodyPost_ret (results_ct8 Try.results38 _ _ _ _ _ _ _ rfl row2n Try.underlying26 rfl dev_size) rfl ⟨rfl, below2n⟩

set_option maxRecDepth 100000 in
set_option maxHeartbeats 1600000 in
theorem l8Store_1 (t cm : Int) (so : Bool) (a1 : Option Addr) (n1 c1 : Nat) (a2 : Option Addr) (n2 c2 : Nat) (ir : Int) (x : Int) (w : World) :
    Calls Try.prog 38 #[.agg #[.int .u64 t, .int .u64 cm, .bool so, .slice a1 n1 c1, .slice a2 n2 c2, .int .i64 ir], .int .u64 33570816, .int .i64 8, .int .u64 x] w fun e w' => e = .returned (.tuple #[.agg #[.int .u64 t, .int .u64 x, .bool so, .slice a1 n1 c1, .slice a2 n2 c2, .int .i64 ir], .bool true]) ∧ Below w.heap.size w w' := by
  go_enter Try.func38, Try.ntmps38
  go_wp2_with fail
  exact bodyPost_ret (results_ct8 Try.results38 _ _ _ _ _ _ _ rfl row2n Try.underlying26 rfl dev_size) rfl ⟨rfl, below2n⟩

set_option maxRecDepth 100000 in
set_option maxHeartbeats 1600000 in
theorem l8Store_2 (t cm : Int) (so : Bool) (a1 : Option Addr) (n1 c1 : Nat) (a2 : Option Addr) (n2 c2 : Nat) (ir : Int) (x : Int) (w : World) :
    Calls Try.prog 38 #[.agg #[.int .u64 t, .int .u64 cm, .bool so, .slice a1 n1 c1, .slice a2 n2 c2, .int .i64 ir], .int .u64 33603576, .int .i64 8, .int .u64 x] w fun e w' => e = .returned (.tuple #[.agg #[.int .u64 x, .int .u64 cm, .bool so, .slice a1 n1 c1, .slice a2 n2 c2, .int .i64 ir], .bool true]) ∧ Below w.heap.size w w' := by
  go_enter Try.func38, Try.ntmps38
  go_wp2_with fail
  exact bodyPost_ret (results_ct8 Try.results38 _ _ _ _ _ _ _ rfl row2n Try.underlying26 rfl dev_size) rfl ⟨rfl, below2n⟩

set_option maxRecDepth 100000 in
set_option maxHeartbeats 1600000 in
theorem l8Store_3f (t cm : Int) (so : Bool) (a1 : Option Addr) (n1 c1 : Nat) (a2 : Option Addr) (n2 c2 : Nat) (ir : Int) (x : Int) (hf : ¬ n2 < 4096) (hn2 : n2 ≤ 4096) (w : World) :
    Calls Try.prog 38 #[.agg #[.int .u64 t, .int .u64 cm, .bool so, .slice a1 n1 c1, .slice a2 n2 c2, .int .i64 ir], .int .u64 268435456, .int .i64 1, .int .u64 x] w fun e w' => e = .returned (.tuple #[.agg #[.int .u64 t, .int .u64 cm, .bool so, .slice a1 n1 c1, .slice a2 n2 c2, .int .i64 ir], .bool true]) ∧ Below w.heap.size w w' := by
  have dd : decide ((n2 : Int) < 4096) = false := by simp; omega
  clear hf hn2
  go_enter Try.func38, Try.ntmps38
  go_wp2_with fail
  exact bodyPost_ret (results_ct8 Try.results38 _ _ _ _ _ _ _ rfl row2n Try.underlying26 rfl dev_size) rfl ⟨rfl, below2n⟩

set_option maxRecDepth 100000 in
set_option maxHeartbeats 1600000 in
theorem l8Store_4 (t cm : Int) (so : Bool) (a1 : Option Addr) (n1 c1 : Nat) (a2 : Option Addr) (n2 c2 : Nat) (ir : Int) (x : Int) (w : World) :
    Calls Try.prog 38 #[.agg #[.int .u64 t, .int .u64 cm, .bool so, .slice a1 n1 c1, .slice a2 n2 c2, .int .i64 ir], .int .u64 268435457, .int .i64 1, .int .u64 x] w fun e w' => e = .returned (.tuple #[.agg #[.int .u64 t, .int .u64 cm, .bool so, .slice a1 n1 c1, .slice a2 n2 c2, .int .i64 (wrap64 (bits .and .u64 x 1))], .bool true]) ∧ Below w.heap.size w w' := by
  go_enter Try.func38, Try.ntmps38
  go_wp2_with fail
  exact bodyPost_ret (results_ct8 Try.results38 _ _ _ _ _ _ _ rfl row2n Try.underlying26 rfl dev_size) rfl ⟨rfl, below2n⟩

set_option maxRecDepth 100000 in
set_option maxHeartbeats 1600000 in
theorem l8Store_5 (t cm : Int) (so : Bool) (a1 : Option Addr) (n1 c1 : Nat) (a2 : Option Addr) (n2 c2 : Nat) (ir : Int) (x : Int) (w : World) :
    Calls Try.prog 38 #[.agg #[.int .u64 t, .int .u64 cm, .bool so, .slice a1 n1 c1, .slice a2 n2 c2, .int .i64 ir], .int .u64 268435461, .int .i64 1, .int .u64 x] w fun e w' => e = .returned (.tuple #[.agg #[.int .u64 t, .int .u64 cm, .bool so, .slice a1 n1 c1, .slice a2 n2 c2, .int .i64 ir], .bool true]) ∧ Below w.heap.size w w' := by
  go_enter Try.func38, Try.ntmps38
  go_wp2_with fail
  exact bodyPost_ret (results_ct8 Try.results38 _ _ _ _ _ _ _ rfl row2n Try.underlying26 rfl dev_size) rfl ⟨rfl, below2n⟩

set_option maxRecDepth 100000 in
set_option maxHeartbeats 1600000 in
theorem l8Store_6 (t cm : Int) (so : Bool) (a1 : Option Addr) (n1 c1 : Nat) (a2 : Option Addr) (n2 c2 : Nat) (ir : Int) (x addr size : Int) (k0 : addr = 33554432 → ¬ size = 4) (k1 : addr = 33570816 → ¬ size = 8) (k2 : addr = 33603576 → ¬ size = 8) (k3 : addr = 268435456 → ¬ size = 1) (k4 : addr = 268435457 → ¬ size = 1) (k5 : addr = 268435461 → ¬ size = 1) (w : World) :
    Calls Try.prog 38 #[.agg #[.int .u64 t, .int .u64 cm, .bool so, .slice a1 n1 c1, .slice a2 n2 c2, .int .i64 ir], .int .u64 addr, .int .i64 size, .int .u64 x] w fun e w' => e = .returned (.tuple #[.agg #[.int .u64 0, .int .u64 0, .bool false, .slice none 0 0, .slice none 0 0, .int .i64 0], .bool false]) ∧ Below w.heap.size w w' := by
  by_cases q0 : addr = 33554432
  · have s0 : (size == 4) = false := by simpa using k0 q0
    subst q0
    clear k0 k1 k2 k3 k4 k5
    go_enter Try.func38, Try.ntmps38
    go_wp2_with fail
    exact bodyPost_ret (results_ct8 Try.results38 _ _ _ _ _ _ _ rfl row2n Try.underlying26 rfl dev_size) rfl ⟨rfl, below2n⟩
  · have t0 : (addr == 33554432) = false := by simpa using q0
    by_cases q1 : addr = 33570816
    · have s1 : (size == 8) = false := by simpa using k1 q1
      subst q1
      clear k0 k1 k2 k3 k4 k5
      go_enter Try.func38, Try.ntmps38
      go_wp2_with fail
      exact bodyPost_ret (results_ct8 Try.results38 _ _ _ _ _ _ _ rfl row2n Try.underlying26 rfl dev_size) rfl ⟨rfl, below2n⟩
    · have t1 : (addr == 33570816) = false := by simpa using q1
      by_cases q2 : addr = 33603576
      · have s2 : (size == 8) = false := by simpa using k2 q2
        subst q2
        clear k0 k1 k2 k3 k4 k5
        go_enter Try.func38, Try.ntmps38
        go_wp2_with fail
        exact bodyPost_ret (results_ct8 Try.results38 _ _ _ _ _ _ _ rfl row2n Try.underlying26 rfl dev_size) rfl ⟨rfl, below2n⟩
      · have t2 : (addr == 33603576) = false := by simpa using q2
        by_cases q3 : addr = 268435456
        · have s3 : (size == 1) = false := by simpa using k3 q3
          subst q3
          clear k0 k1 k2 k3 k4 k5
          go_enter Try.func38, Try.ntmps38
          go_wp2_with fail
          exact bodyPost_ret (results_ct8 Try.results38 _ _ _ _ _ _ _ rfl row2n Try.underlying26 rfl dev_size) rfl ⟨rfl, below2n⟩
        · have t3 : (addr == 268435456) = false := by simpa using q3
          by_cases q4 : addr = 268435457
          · have s4 : (size == 1) = false := by simpa using k4 q4
            subst q4
            clear k0 k1 k2 k3 k4 k5
            go_enter Try.func38, Try.ntmps38
            go_wp2_with fail
            exact bodyPost_ret (results_ct8 Try.results38 _ _ _ _ _ _ _ rfl row2n Try.underlying26 rfl dev_size) rfl ⟨rfl, below2n⟩
          · have t4 : (addr == 268435457) = false := by simpa using q4
            by_cases q5 : addr = 268435461
            · have s5 : (size == 1) = false := by simpa using k5 q5
              subst q5
              clear k0 k1 k2 k3 k4 k5
              go_enter Try.func38, Try.ntmps38
              go_wp2_with fail
              exact bodyPost_ret (results_ct8 Try.results38 _ _ _ _ _ _ _ rfl row2n Try.underlying26 rfl dev_size) rfl ⟨rfl, below2n⟩
            · have t5 : (addr == 268435461) = false := by simpa using q5
              clear k0 k1 k2 k3 k4 k5 q0 q1 q2 q3 q4 q5
              go_enter Try.func38, Try.ntmps38
              go_wp2_with fail
              exact bodyPost_ret (results_ct8 Try.results38 _ _ _ _ _ _ _ rfl row2n Try.underlying26 rfl dev_size) rfl ⟨rfl, below2n⟩

theorem one_new (w : World) (b : Int) (j : Nat) (u : Value) (h : [Value.int .u8 b][j]? = some u) : (w.alloc (.cells #[.int .u8 b] 5)).cell? ((⟨w.heap.size, 0, none⟩ : Addr).add j) = some u := by
  have hj : j = 0 := by
    rcases Nat.eq_zero_or_pos j with h0 | h0
    · exact h0
    · rw [List.getElem?_eq_none (by simp; omega)] at h; cases h
  subst hj
  rw [adds]
  simp only [List.getElem?_cons_zero, Option.some.injEq] at h
  subst h
  have e := heap_alloc_new w (.cells #[.int .u8 b] 5)
  show (w.alloc (.cells #[.int .u8 b] 5)).cell? ⟨w.heap.size, 0, none⟩ = _
  simp only [World.cell?, e]
  rfl

theorem own_form {w : World} {base n : Nat} {t : TypeId} {v : Value} {xs : List Value} (h : w.ownsRow base t 1 v n xs) : ∃ a c, v = .slice a n c := by
  rcases h.2 with ⟨e, e0⟩ | ⟨g', cap, cur, e, _⟩
  · exact ⟨none, 0, by rw [e, e0]⟩
  · exact ⟨_, _, e⟩

theorem app3 {w w1 w2 : World} {o o1 o2 : Obj} {n : Nat} {t : TypeId} {v : Value} {xs : List Value} (h0 : w1.heap[w.heap.size]? = some o1) (h1 : w1.heap[w.heap.size + 1]? = some o2) (ho : w1.ownsRow (w.heap.size + 1 + 1) t 1 v n xs) (gr : (w1.alloc o).grownBy w2 v.ownBlock) :
    w2.heap[w.heap.size]? = some o1 ∧ w2.heap[w.heap.size + 1]? = some o2 ∧ Below (w.heap.size + 1 + 1) w1 w2 := by
  have z := (Array.getElem?_eq_some_iff.1 h1).1
  have hk : ∀ k, k < w.heap.size + 1 + 1 → w2.heap[k]? = w1.heap[k]? := fun k hk => (gr.block k (by rw [World.size_alloc]; omega) (fun e => by have := (ho.lt k e.symm).1; omega)).trans (Below.heap_alloc w1 o k (by omega))
  refine ⟨(hk _ (by omega)).trans h0, (hk _ (by omega)).trans h1, ⟨gr.os, gr.tape, gr.output, ?_, hk⟩⟩
  have := gr.size
  rw [World.size_alloc] at this
  omega

set_option maxRecDepth 100000 in
set_option maxHeartbeats 1600000 in
theorem l8Store_3 (t cm : Int) (so : Bool) (a1 : Option Addr) (n1 c1 : Nat) (a2 : Option Addr) (n2 c2 : Nat) (ir : Int) (x : Int) (xs ys : List Int) (B E : Nat) (w : World) (hy : ys.length = n2) (hn2 : n2 < 4096) (hBE : B ≤ E) (hE0 : E ≤ w.heap.size) (hf : Fam B E w (devF a1 n1 c1 xs a2 n2 c2 ys)) :
    Calls Try.prog 38 #[.agg #[.int .u64 t, .int .u64 cm, .bool so, .slice a1 n1 c1, .slice a2 n2 c2, .int .i64 ir], .int .u64 268435456, .int .i64 1, .int .u64 x] w fun e w' => ∃ (f1 : Option Addr) (g1 : Nat), e = .returned (.tuple #[.agg #[.int .u64 t, .int .u64 cm, .bool so, .slice a1 n1 c1, .slice f1 (n2 + 1) g1, .int .i64 ir], .bool true]) ∧ Fam B w'.heap.size w' (devF a1 n1 c1 xs f1 (n2 + 1) g1 (ys ++ [IntKind.u8.wrap x])) ∧ Below w.heap.size w w' := by
  have hs := hf.out_
  have hB2 : ∀ o1 o2, Below w.heap.size w ((w.alloc o1).alloc o2) := fun o1 o2 => below2n
  have dd : decide ((n2 : Int) < 4096) = true := by simp; omega
  have HS : Hid (∀ w', Below w.heap.size w w' → Sl .u8 w' a2 ys) := fun w' hb => hs.below hb
  have HX : Hid (ys.length = n2 ∧ n2 < 4096) := ⟨hy, hn2⟩
  have HF : Hid (Fam B E w (devF a1 n1 c1 xs a2 n2 c2 ys)) := hf
  have HE2 : Hid (B ≤ E ∧ E ≤ w.heap.size) := ⟨hBE, hE0⟩
  have hE := own_empty8 ((w.alloc (.cells #[.int .u64 t, .int .u64 cm, .bool so, .slice a1 n1 c1, .slice a2 n2 c2, .int .i64 ir] 26)).alloc (.cells #[.int .u64 0, .int .u64 0, .bool false, .slice none 0 0, .slice none 0 0, .int .i64 0] 26)) (w.heap.size + 1 + 1) (by simp) (.cells #[] 5 (0, 0)) rfl
  rw [World.size_alloc, World.size_alloc] at hE
  obtain ⟨i0, hi, hz0, hz1, hz2⟩ := info_parts Try.info5
  clear hs hf hBE hE0 hy hn2
  rw [show IntKind.u8.wrap x = x % 256 from IntKind.wrap_u8 x]
  go_enter Try.func38, Try.ntmps38
  go_wp2_with (first
    | (at_builtin; refine wpList_app8 rfl (.tmp 51) (.tmp 53) rfl (w.heap.size + 1 + 1) _ rfl hE a2 n2 c2 ys rfl HX.out.1 (by have := HX.out.2; omega) (HS.out _ ((hB2 _ _).alloc (hB2 _ _).size _)) (by simp) ?_; intro b1 d1 w1 ow1 gr1; obtain ⟨r0, r1, hb1, z1⟩ := app2 gr1; have R0 := dhid r0; have R1 := dhid r1; have B1 := dhid hb1; have Z1 := dhid z1; have O1 := dhid ow1; clear r0 r1 hb1 z1 ow1 gr1)
    | (at_builtin; refine wpList_append_own _ rfl (.tmp 54) (.tmp 57) 22 rfl (w.heap.size + 1 + 1) 5 i0 (.int .u8 0) 1 1 Try.underlying22 hi hz0 hz1 hz2 rfl (by decide) _ n2 (ys.map (Value.int .u8)) rfl (ownsRow_below O1.out ((Below.refl _ _).alloc (Nat.le_refl _) _)) ⟨w1.heap.size, 0, none⟩ 1 1 [.int .u8 (x % 256)] rfl rfl (one_new _ _) (by simp [Value.oneCell']) (by have := HX.out.2; unfold maxLen; omega) (by have := HX.out.2; omega) (by have := Z1.out; rw [World.size_alloc]; omega) ?_; intro v' w2 ow2 gr2 hnil2; obtain ⟨f1, g1, rfl⟩ := own_form ow2; obtain ⟨hr0, hr1, hb2⟩ := app3 R0.out R1.out O1.out gr2; have S0 := dhid hr0; have S1 := dhid hr1; have B2 := dhid (B1.out.trans (hb2.mono (by omega))); have Z2 := dhid hb2.size; have O2 := dhid ow2; obtain ⟨p0, p1, p2, p3, p4, p5⟩ := cells6 hr0; obtain ⟨s0, s1, s2, s3, s4, s5⟩ := cells6 hr1; obtain ⟨y0, y1, y2, y3, y4, y5⟩ := froz6 hr1; have f4 := froz hr0 4; clear hr0 hr1 hb2 ow2 gr2 hnil2))
  have T1 := row_put6 (row_far S1.out ⟨w.heap.size, 4, none⟩ (.slice f1 (n2 + 1) g1) (by dsimp only; omega)) (.int .u64 t) (.int .u64 cm) (.bool so) (.slice a1 n1 c1) (.slice f1 (n2 + 1) g1) (.int .i64 ir)
  have A1 := ((HF.out.below B2.out).set ⟨w.heap.size, 4, none⟩ (.slice f1 (n2 + 1) g1) (.inr HE2.out.2)).put6 (w.heap.size + 1) (.inr (by have := HE2.out; omega)) (.int .u64 t) (.int .u64 cm) (.bool so) (.slice a1 n1 c1) (.slice f1 (n2 + 1) g1) (.int .i64 ir)
  have O3 : w2.ownsRow (w.heap.size + 1 + 1) 5 1 (.slice f1 (n2 + 1) g1) (n2 + 1) ((ys ++ [x % 256]).map (Value.int .u8)) := by rw [List.map_append]; exact O2.out
  have A2 := (((Fam.nil (w.heap.size + 1 + 1) (w.heap.size + 1 + 1) w2).snoc (bRow f1 (n2 + 1) g1 (ys ++ [x % 256])) _ w2.heap.size O3 (Nat.le_refl _) (Nat.le_refl _) (Nat.le_refl _) (by have := Z1.out; have := Z2.out; omega)).set ⟨w.heap.size, 4, none⟩ (.slice f1 (n2 + 1) g1) (.inl (by dsimp only; omega))).put6 (w.heap.size + 1) (.inl (by omega)) (.int .u64 t) (.int .u64 cm) (.bool so) (.slice a1 n1 c1) (.slice f1 (n2 + 1) g1) (.int .i64 ir)
  have A3 := A1.newOut f1 (n2 + 1) g1 (ys ++ [x % 256]) _ w2.heap.size (A2.own (bRow f1 (n2 + 1) g1 (ys ++ [x % 256])) (by simp)) (by have := HE2.out; omega) (by have := HE2.out; omega) (by rw [size_put6, size_set]; exact Nat.le_refl _) (by have := HE2.out; have := Z1.out; have := Z2.out; omega)
  have B4 := below_put6 (B2.out.setCell (p := ⟨w.heap.size, 4, none⟩) (Nat.le_refl _) (.slice f1 (n2 + 1) g1)) (g := w.heap.size + 1) (by omega) (.int .u64 t) (.int .u64 cm) (.bool so) (.slice a1 n1 c1) (.slice f1 (n2 + 1) g1) (.int .i64 ir)
  exact bodyPost_ret (results_ct8 Try.results38 _ _ _ _ _ _ _ rfl T1 Try.underlying26 rfl dev_size) rfl ⟨f1, g1, rfl, A3.low (Nat.le_refl _) (by simp only [size_set]; exact Nat.le_refl _), B4⟩

end Go.Proofs.Ytbkddoibefgplaa
