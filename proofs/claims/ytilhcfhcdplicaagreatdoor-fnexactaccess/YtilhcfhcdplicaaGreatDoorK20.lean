/- Own lemmas. -/
import Derived.Test.YtilhcfhcdplicaaGreatDoorK05
import Derived.Test.YtilhcfhcdplicaaGreatDoorK10
namespace Go.Proofs.YtilhcfhcdplicaaGreatDoor
open Go.RowKit
set_option linter.unusedVariables false

set_option maxRecDepth 100000 in
set_option maxHeartbeats 1600000 in
theorem l8Load_3n (t cm : Int) (so : Bool) (g off : Nat) (n1 c1 : Nat) (a2 : Option Addr) (n2 c2 : Nat) (ir : Int) (xs ys : List Int) (B E : Nat) (w : World) (hx : xs.length = n1) (hy : ys.length = n2) (hn0 : 1 ≤ n1) (hn1 : n1 ≤ 16) (hc1 : n1 ≤ c1) (hc2 : c1 ≤ 9223372036854775807) (hBE : B ≤ E) (hE : E ≤ w.heap.size) (hf : Fam B E w (devF (some ⟨g, off, none⟩) n1 c1 xs a2 n2 c2 ys)) (hw : 0 ≤ xs.getD 0 0 ∧ xs.getD 0 0 ≤ 255) :
    Calls Tryz.prog 103 #[.agg #[.int .u64 t, .int .u64 cm, .bool so, .slice (some ⟨g, off, none⟩) n1 c1, .slice a2 n2 c2, .int .i64 ir], .int .u64 268435456, .int .i64 1] w fun e w' => ∃ (b1 : Option Addr) (d1 : Nat), e = .returned (.tuple #[.int .u64 (xs.getD 0 0), .agg #[.int .u64 t, .int .u64 cm, .bool so, .slice b1 (n1 - 1) d1, .slice a2 n2 c2, .int .i64 ir], .bool true]) ∧ w'.ownsRow w.heap.size 5 1 (.slice b1 (n1 - 1) d1) (n1 - 1) ((xs.drop 1).map (Value.int .u8)) ∧ Below w.heap.size w w' := by
  have hs := hf.in_
  obtain ⟨b', off', e, hlt, hc⟩ := hs 0 (by omega)
  simp only [Option.some.injEq, Addr.mk.injEq, and_true] at e
  obtain ⟨rfl, rfl⟩ := e
  have hB2 : ∀ o1 o2, Below w.heap.size w ((w.alloc o1).alloc o2) := fun o1 o2 => below2n
  have k0 : ∀ o1 o2, ((w.alloc o1).alloc o2).cell? ⟨g, off, none⟩ = some (.int .u8 (xs.getD 0 0)) := fun o1 o2 => ((hB2 o1 o2).cell (by exact hlt)).trans hc
  have t0 : ((n1 : Int) == 0) = false := by simp; omega
  have i0 : (0 : Int) < (n1 : Int) := by omega
  have i1 : (1 : Int) ≤ (n1 : Int) := by omega
  have HS : Hid (∀ w', Below w.heap.size w w' → Sl .u8 w' (some ⟨g, off + 1, none⟩) (xs.drop 1)) := fun w' hb => (hs.below hb).next
  have HX : Hid ((xs.drop 1).length = n1 - 1 ∧ n1 - 1 ≤ 1048576) := ⟨by rw [List.length_drop, hx], by omega⟩
  have HF : Hid (Fam B E w (devF (some ⟨g, off, none⟩) n1 c1 xs a2 n2 c2 ys)) := hf
  have HE2 : Hid (B ≤ E ∧ E ≤ w.heap.size) := ⟨hBE, hE⟩
  have hE := own_empty8 ((w.alloc (.cells #[.int .u64 t, .int .u64 cm, .bool so, .slice (some ⟨g, off, none⟩) n1 c1, .slice a2 n2 c2, .int .i64 ir] 27)).alloc (.cells #[.int .u64 0, .int .u64 0, .bool false, .slice none 0 0, .slice none 0 0, .int .i64 0] 27)) (w.heap.size + 1 + 1) (by simp) (.cells #[] 5 (0, 0)) rfl
  rw [World.size_alloc, World.size_alloc] at hE
  have hwr : IntKind.u64.wrap (xs.getD 0 0) = xs.getD 0 0 := by rw [IntKind.wrap_u64]; omega
  have HWR := dhid hwr
  clear hs hc hf hBE hwr hw hx hy
  generalize xs.getD 0 0 = x0 at *
  by_cases hcc : c1 = 1
  · have hnn : n1 = 1 := by omega
    subst hcc hnn
    have hdz : xs.drop 1 = [] := List.length_eq_zero_iff.1 (by have := HX.out.1; simpa using this)
    rw [hdz]
    clear hdz HS HX
    go_enter Tryz.func103, Tryz.ntmps103
    go_wp2_with (first | (at_builtin; refine wpList_app8 rfl (.tmp 58) (.tmp 61) rfl (w.heap.size + 1 + 1) _ rfl hE _ 0 _ [] rfl rfl (by omega) (fun i hi => absurd hi (Nat.not_lt_zero _)) (by simp) ?_; intro b1 d1 w1 ow1 gr1; obtain ⟨r0, r1, hb1, z1⟩ := app2 gr1; have R0 := dhid r0; have R1 := dhid r1; have B1 := dhid hb1; have Z1 := dhid z1; have O1 := dhid ow1; obtain ⟨p0, p1, p2, p3, p4, p5⟩ := cells6 r0; obtain ⟨s0, s1, s2, s3, s4, s5⟩ := cells6 r1; obtain ⟨y0, y1, y2, y3, y4, y5⟩ := froz6 r1; have f3 := froz r0 3; clear r0 r1 hb1 z1 ow1 gr1))
    go_region
    go_wp2_with fail
    rw [HWR.out]
    have T1 := row_put6 (row_far R1.out ⟨w.heap.size, 3, none⟩ (.slice b1 0 d1) (by dsimp only; omega)) (.int .u64 t) (.int .u64 cm) (.bool so) (.slice b1 0 d1) (.slice a2 n2 c2) (.int .i64 ir)
    have A2 := (((Fam.nil (w.heap.size + 1 + 1) (w.heap.size + 1 + 1) w1).snoc (bRow b1 0 d1 []) _ w1.heap.size O1.out (Nat.le_refl _) (Nat.le_refl _) (Nat.le_refl _) (by have := Z1.out; omega)).set ⟨w.heap.size, 3, none⟩ (.slice b1 0 d1) (.inl (by dsimp only; omega))).put6 (w.heap.size + 1) (.inl (by omega)) (.int .u64 t) (.int .u64 cm) (.bool so) (.slice b1 0 d1) (.slice a2 n2 c2) (.int .i64 ir)
    have B4 := below_put6 (B1.out.setCell (p := ⟨w.heap.size, 3, none⟩) (Nat.le_refl _) (.slice b1 0 d1)) (g := w.heap.size + 1) (by omega) (.int .u64 t) (.int .u64 cm) (.bool so) (.slice b1 0 d1) (.slice a2 n2 c2) (.int .i64 ir)
    exact bodyPost_ret (results_tct8 Tryz.results103 _ _ _ _ _ _ _ rfl (row_drew T1) Tryz.underlying27 rfl dev_size) rfl ⟨b1, d1, rfl, own_low (ownsRow_below (A2.own _ (List.mem_singleton.2 rfl)) (Below.refl _ _).drew) (by omega), B4.drew⟩
  · have hcc2 : ¬ (c1 - 1 = 0) := by omega
    go_enter Tryz.func103, Tryz.ntmps103
    go_wp2_with (first | (at_builtin; refine wpList_app8 rfl (.tmp 58) (.tmp 61) rfl (w.heap.size + 1 + 1) _ rfl hE (some ⟨g, off + 1, none⟩) (n1 - 1) (c1 - 1) (xs.drop 1) rfl HX.out.1 HX.out.2 (HS.out _ ((hB2 _ _).alloc (hB2 _ _).size _)) (by simp) ?_; intro b1 d1 w1 ow1 gr1; obtain ⟨r0, r1, hb1, z1⟩ := app2 gr1; have R0 := dhid r0; have R1 := dhid r1; have B1 := dhid hb1; have Z1 := dhid z1; have O1 := dhid ow1; obtain ⟨p0, p1, p2, p3, p4, p5⟩ := cells6 r0; obtain ⟨s0, s1, s2, s3, s4, s5⟩ := cells6 r1; obtain ⟨y0, y1, y2, y3, y4, y5⟩ := froz6 r1; have f3 := froz r0 3; clear r0 r1 hb1 z1 ow1 gr1))
    go_region
    go_wp2_with fail
    rw [HWR.out]
    have T1 := row_put6 (row_far R1.out ⟨w.heap.size, 3, none⟩ (.slice b1 (n1 - 1) d1) (by dsimp only; omega)) (.int .u64 t) (.int .u64 cm) (.bool so) (.slice b1 (n1 - 1) d1) (.slice a2 n2 c2) (.int .i64 ir)
    have A2 := (((Fam.nil (w.heap.size + 1 + 1) (w.heap.size + 1 + 1) w1).snoc (bRow b1 (n1 - 1) d1 (xs.drop 1)) _ w1.heap.size O1.out (Nat.le_refl _) (Nat.le_refl _) (Nat.le_refl _) (by have := Z1.out; omega)).set ⟨w.heap.size, 3, none⟩ (.slice b1 (n1 - 1) d1) (.inl (by dsimp only; omega))).put6 (w.heap.size + 1) (.inl (by omega)) (.int .u64 t) (.int .u64 cm) (.bool so) (.slice b1 (n1 - 1) d1) (.slice a2 n2 c2) (.int .i64 ir)
    have B4 := below_put6 (B1.out.setCell (p := ⟨w.heap.size, 3, none⟩) (Nat.le_refl _) (.slice b1 (n1 - 1) d1)) (g := w.heap.size + 1) (by omega) (.int .u64 t) (.int .u64 cm) (.bool so) (.slice b1 (n1 - 1) d1) (.slice a2 n2 c2) (.int .i64 ir)
    exact bodyPost_ret (results_tct8 Tryz.results103 _ _ _ _ _ _ _ rfl (row_drew T1) Tryz.underlying27 rfl dev_size) rfl ⟨b1, d1, rfl, own_low (ownsRow_below (A2.own _ (List.mem_singleton.2 rfl)) (Below.refl _ _).drew) (by omega), B4.drew⟩

set_option maxRecDepth 100000 in
set_option maxHeartbeats 1600000 in
theorem l8Store_3n (t cm : Int) (so : Bool) (a1 : Option Addr) (n1 c1 : Nat) (a2 : Option Addr) (n2 c2 : Nat) (ir : Int) (x : Int) (xs ys : List Int) (B E : Nat) (w : World) (hy : ys.length = n2) (hn2 : n2 < 4096) (hBE : B ≤ E) (hE0 : E ≤ w.heap.size) (hf : Fam B E w (devF a1 n1 c1 xs a2 n2 c2 ys)) :
    Calls Tryz.prog 105 #[.agg #[.int .u64 t, .int .u64 cm, .bool so, .slice a1 n1 c1, .slice a2 n2 c2, .int .i64 ir], .int .u64 268435456, .int .i64 1, .int .u64 x] w fun e w' => ∃ (f1 : Option Addr) (g1 : Nat), e = .returned (.tuple #[.agg #[.int .u64 t, .int .u64 cm, .bool so, .slice a1 n1 c1, .slice f1 (n2 + 1) g1, .int .i64 ir], .bool true]) ∧ w'.ownsRow w.heap.size 5 1 (.slice f1 (n2 + 1) g1) (n2 + 1) ((ys ++ [IntKind.u8.wrap x]).map (Value.int .u8)) ∧ Below w.heap.size w w' := by
  have hs := hf.out_
  have hB2 : ∀ o1 o2, Below w.heap.size w ((w.alloc o1).alloc o2) := fun o1 o2 => below2n
  have dd : decide ((n2 : Int) < 4096) = true := by simp; omega
  have HS : Hid (∀ w', Below w.heap.size w w' → Sl .u8 w' a2 ys) := fun w' hb => hs.below hb
  have HX : Hid (ys.length = n2 ∧ n2 < 4096) := ⟨hy, hn2⟩
  have HF : Hid (Fam B E w (devF a1 n1 c1 xs a2 n2 c2 ys)) := hf
  have HE2 : Hid (B ≤ E ∧ E ≤ w.heap.size) := ⟨hBE, hE0⟩
  have hE := own_empty8 ((w.alloc (.cells #[.int .u64 t, .int .u64 cm, .bool so, .slice a1 n1 c1, .slice a2 n2 c2, .int .i64 ir] 27)).alloc (.cells #[.int .u64 0, .int .u64 0, .bool false, .slice none 0 0, .slice none 0 0, .int .i64 0] 27)) (w.heap.size + 1 + 1) (by simp) (.cells #[] 5 (0, 0)) rfl
  rw [World.size_alloc, World.size_alloc] at hE
  obtain ⟨i0, hi, hz0, hz1, hz2⟩ := info_parts Tryz.info5
  clear hs hf hBE hE0 hy hn2
  rw [show IntKind.u8.wrap x = x % 256 from IntKind.wrap_u8 x]
  go_enter Tryz.func105, Tryz.ntmps105
  go_wp2_with (first
    | (at_builtin; refine wpList_app8 rfl (.tmp 51) (.tmp 53) rfl (w.heap.size + 1 + 1) _ rfl hE a2 n2 c2 ys rfl HX.out.1 (by have := HX.out.2; omega) (HS.out _ ((hB2 _ _).alloc (hB2 _ _).size _)) (by simp) ?_; intro b1 d1 w1 ow1 gr1; obtain ⟨r0, r1, hb1, z1⟩ := app2 gr1; have R0 := dhid r0; have R1 := dhid r1; have B1 := dhid hb1; have Z1 := dhid z1; have O1 := dhid ow1; clear r0 r1 hb1 z1 ow1 gr1)
    | (at_builtin; refine wpList_append_own _ rfl (.tmp 54) (.tmp 57) 22 rfl (w.heap.size + 1 + 1) 5 i0 (.int .u8 0) 1 1 Tryz.underlying22 hi hz0 hz1 hz2 rfl (by decide) _ n2 (ys.map (Value.int .u8)) rfl (ownsRow_below O1.out ((Below.refl _ _).alloc (Nat.le_refl _) _)) ⟨w1.heap.size, 0, none⟩ 1 1 [.int .u8 (x % 256)] rfl rfl (one_new _ _) (by simp [Value.oneCell']) (by have := HX.out.2; unfold maxLen; omega) (by have := HX.out.2; omega) (by have := Z1.out; rw [World.size_alloc]; omega) ?_; intro v' w2 ow2 gr2 hnil2; obtain ⟨f1, g1, rfl⟩ := own_form ow2; obtain ⟨hr0, hr1, hb2⟩ := app3 R0.out R1.out O1.out gr2; have S0 := dhid hr0; have S1 := dhid hr1; have B2 := dhid (B1.out.trans (hb2.mono (by omega))); have Z2 := dhid hb2.size; have O2 := dhid ow2; obtain ⟨p0, p1, p2, p3, p4, p5⟩ := cells6 hr0; obtain ⟨s0, s1, s2, s3, s4, s5⟩ := cells6 hr1; obtain ⟨y0, y1, y2, y3, y4, y5⟩ := froz6 hr1; have f4 := froz hr0 4; clear hr0 hr1 hb2 ow2 gr2 hnil2))
  have T1 := row_put6 (row_far S1.out ⟨w.heap.size, 4, none⟩ (.slice f1 (n2 + 1) g1) (by dsimp only; omega)) (.int .u64 t) (.int .u64 cm) (.bool so) (.slice a1 n1 c1) (.slice f1 (n2 + 1) g1) (.int .i64 ir)
  have O3 : w2.ownsRow (w.heap.size + 1 + 1) 5 1 (.slice f1 (n2 + 1) g1) (n2 + 1) ((ys ++ [x % 256]).map (Value.int .u8)) := by rw [List.map_append]; exact O2.out
  have A2 := (((Fam.nil (w.heap.size + 1 + 1) (w.heap.size + 1 + 1) w2).snoc (bRow f1 (n2 + 1) g1 (ys ++ [x % 256])) _ w2.heap.size O3 (Nat.le_refl _) (Nat.le_refl _) (Nat.le_refl _) (by have := Z1.out; have := Z2.out; omega)).set ⟨w.heap.size, 4, none⟩ (.slice f1 (n2 + 1) g1) (.inl (by dsimp only; omega))).put6 (w.heap.size + 1) (.inl (by omega)) (.int .u64 t) (.int .u64 cm) (.bool so) (.slice a1 n1 c1) (.slice f1 (n2 + 1) g1) (.int .i64 ir)
  have B4 := below_put6 (B2.out.setCell (p := ⟨w.heap.size, 4, none⟩) (Nat.le_refl _) (.slice f1 (n2 + 1) g1)) (g := w.heap.size + 1) (by omega) (.int .u64 t) (.int .u64 cm) (.bool so) (.slice a1 n1 c1) (.slice f1 (n2 + 1) g1) (.int .i64 ir)
  exact bodyPost_ret (results_ct8 Tryz.results105 _ _ _ _ _ _ _ rfl T1 Tryz.underlying27 rfl dev_size) rfl ⟨f1, g1, rfl, own_low (A2.own _ (List.mem_singleton.2 rfl)) (by omega), B4⟩

def Renew (w w' : World) (a1 : Option Addr) (c1 : Nat) (xs : List Int) (a2 : Option Addr) (c2 : Nat) (ys : List Int) (b1 : Option Addr) (d1 : Nat) (zs : List Int) (b2 : Option Addr) (d2 : Nat) (us : List Int) : Prop :=
  ((b1 = a1 ∧ d1 = c1 ∧ zs = xs) ∧ b2 = a2 ∧ d2 = c2 ∧ us = ys) ∨
  (w'.ownsRow w.heap.size 5 1 (.slice b1 zs.length d1) zs.length (zs.map (Value.int .u8)) ∧ b2 = a2 ∧ d2 = c2 ∧ us = ys) ∨
  ((b1 = a1 ∧ d1 = c1 ∧ zs = xs) ∧ w'.ownsRow w.heap.size 5 1 (.slice b2 us.length d2) us.length (us.map (Value.int .u8))) ∨
  Fam w.heap.size w'.heap.size w' (devF b1 zs.length d1 zs b2 us.length d2 us)

theorem Renew.same (w w' : World) (a1 : Option Addr) (c1 : Nat) (xs : List Int) (a2 : Option Addr) (c2 : Nat) (ys : List Int) : Renew w w' a1 c1 xs a2 c2 ys a1 c1 xs a2 c2 ys := .inl ⟨⟨rfl, rfl, rfl⟩, rfl, rfl, rfl⟩

theorem Renew.below {w w1 w' : World} {a1 : Option Addr} {c1 : Nat} {xs : List Int} {a2 : Option Addr} {c2 : Nat} {ys : List Int} {b1 : Option Addr} {d1 : Nat} {zs : List Int} {b2 : Option Addr} {d2 : Nat} {us : List Int} (h : Renew w w1 a1 c1 xs a2 c2 ys b1 d1 zs b2 d2 us) (hb : Below w1.heap.size w1 w') : Renew w w' a1 c1 xs a2 c2 ys b1 d1 zs b2 d2 us := by
  rcases h with h | ⟨h1, h2⟩ | ⟨h1, h2⟩ | h
  · exact .inl h
  · exact .inr (.inl ⟨ownsRow_below h1 hb, h2⟩)
  · exact .inr (.inr (.inl ⟨h1, ownsRow_below h2 hb⟩))
  · exact .inr (.inr (.inr ((h.below hb).low (Nat.le_refl _) hb.size)))

theorem l8Load_own (D : DV) (a1 : Option Addr) (c1 : Nat) (a2 : Option Addr) (c2 : Nat) (addr size : Int) (B E : Nat) (w : World) (h16 : D.xs.length ≤ 16) (hb : bytesOk D) (hBE : B ≤ E) (hE : E ≤ w.heap.size) (hf : Fam B E w (devF a1 D.xs.length c1 D.xs a2 D.ys.length c2 D.ys)) :
    Calls Tryz.prog 103 #[.agg #[.int .u64 D.t, .int .u64 D.cm, .bool D.so, .slice a1 D.xs.length c1, .slice a2 D.ys.length c2, .int .i64 D.ir], .int .u64 addr, .int .i64 size] w fun e w' => ∃ (b1 : Option Addr) (d1 : Nat) (b2 : Option Addr) (d2 : Nat), e = .returned (.tuple #[.int .u64 (ldV D (sel addr size)).1, .agg (dvc (ldV D (sel addr size)).2.1 b1 d1 b2 d2), .bool (ldV D (sel addr size)).2.2]) ∧ Renew w w' a1 c1 D.xs a2 c2 D.ys b1 d1 (ldV D (sel addr size)).2.1.xs b2 d2 (ldV D (sel addr size)).2.1.ys ∧ Below w.heap.size w w' := by
  refine sel_cases addr size (fun k => Calls Tryz.prog 103 #[.agg #[.int .u64 D.t, .int .u64 D.cm, .bool D.so, .slice a1 D.xs.length c1, .slice a2 D.ys.length c2, .int .i64 D.ir], .int .u64 addr, .int .i64 size] w fun e w' => ∃ (b1 : Option Addr) (d1 : Nat) (b2 : Option Addr) (d2 : Nat), e = .returned (.tuple #[.int .u64 (ldV D k).1, .agg (dvc (ldV D k).2.1 b1 d1 b2 d2), .bool (ldV D k).2.2]) ∧ Renew w w' a1 c1 D.xs a2 c2 D.ys b1 d1 (ldV D k).2.1.xs b2 d2 (ldV D k).2.1.ys ∧ Below w.heap.size w w') ?_ ?_ ?_ ?_ ?_ ?_ ?_
  · rintro rfl rfl
    exact (l8Load_0 D.t D.cm D.so a1 _ c1 a2 _ c2 D.ir w).mono fun e w' h => ⟨a1, c1, a2, c2, h.1, Renew.same _ _ _ _ _ _ _ _, h.2⟩
  · rintro rfl rfl
    exact (l8Load_1 D.t D.cm D.so a1 _ c1 a2 _ c2 D.ir w).mono fun e w' h => ⟨a1, c1, a2, c2, h.1, Renew.same _ _ _ _ _ _ _ _, h.2⟩
  · rintro rfl rfl
    exact (l8Load_2 D.t D.cm D.so a1 _ c1 a2 _ c2 D.ir w).mono fun e w' h => ⟨a1, c1, a2, c2, h.1, Renew.same _ _ _ _ _ _ _ _, h.2⟩
  · rintro rfl rfl
    rcases Nat.eq_zero_or_pos D.xs.length with h0 | h0
    · have hx : D.xs = [] := List.length_eq_zero_iff.1 h0
      have h := l8Load_3e D.t D.cm D.so a1 c1 a2 D.ys.length c2 D.ir w
      rw [h0]
      refine h.mono fun e w' h => ⟨a1, c1, a2, c2, ?_, ?_, h.2⟩
      · rw [h.1]
        simp only [ldV, dvc, hx]
        rfl
      · simp only [ldV, hx]
        exact Renew.same _ _ _ _ _ _ _ _
    · obtain ⟨g, rfl, hc1, hc2⟩ := fam_shape hf h0
      unfold maxLen at hc2
      have hw := byte_bd hb.1 0
      refine (l8Load_3n D.t D.cm D.so g 0 D.xs.length c1 a2 D.ys.length c2 D.ir D.xs D.ys B E w rfl rfl h0 h16 hc1 (by omega) hBE hE hf hw).mono fun e w' h => ?_
      obtain ⟨b1, d1, h1, h2, h3⟩ := h
      refine ⟨b1, d1, a2, c2, ?_, .inr (.inl ⟨?_, rfl, rfl, ?_⟩), h3⟩
      · rw [h1]
        simp only [ldV, dvc, List.length_drop]
      · simp only [ldV, List.length_drop]
        exact h2
      · simp only [ldV]
  · rintro rfl rfl
    exact (l8Load_4 D.t D.cm D.so a1 _ c1 a2 _ c2 D.ir w).mono fun e w' h => ⟨a1, c1, a2, c2, h.1, Renew.same _ _ _ _ _ _ _ _, h.2⟩
  · rintro rfl rfl
    exact (l8Load_5 D.t D.cm D.so a1 _ c1 a2 _ c2 D.ir (by omega) w).mono fun e w' h => ⟨a1, c1, a2, c2, h.1, Renew.same _ _ _ _ _ _ _ _, h.2⟩
  · intro k0 k1 k2 k3 k4 k5
    exact (l8Load_6 D.t D.cm D.so a1 _ c1 a2 _ c2 D.ir addr size k0 k1 k2 k3 k4 k5 w).mono fun e w' h => ⟨none, 0, none, 0, h.1, .inr (.inr (.inr (fam_zero _ _ _))), h.2⟩

theorem l8Store_4n (D : DV) (a1 : Option Addr) (c1 : Nat) (a2 : Option Addr) (c2 : Nat) (x : Int) (w : World) (q : Int) (hq : wrap64 (bits .and .u64 x 1) = q) : Calls Tryz.prog 105 #[.agg #[.int .u64 D.t, .int .u64 D.cm, .bool D.so, .slice a1 D.xs.length c1, .slice a2 D.ys.length c2, .int .i64 D.ir], .int .u64 268435457, .int .i64 1, .int .u64 x] w fun e w' => ∃ (b1 : Option Addr) (d1 : Nat) (b2 : Option Addr) (d2 : Nat), e = .returned (.tuple #[.agg (dvc ((⟨D.t, D.cm, D.so, D.xs, D.ys, q⟩, true) : DV × Bool).1 b1 d1 b2 d2), .bool ((⟨D.t, D.cm, D.so, D.xs, D.ys, q⟩, true) : DV × Bool).2]) ∧ Renew w w' a1 c1 D.xs a2 c2 D.ys b1 d1 ((⟨D.t, D.cm, D.so, D.xs, D.ys, q⟩, true) : DV × Bool).1.xs b2 d2 ((⟨D.t, D.cm, D.so, D.xs, D.ys, q⟩, true) : DV × Bool).1.ys ∧ Below w.heap.size w w' := by
  have h4 := l8Store_4 D.t D.cm D.so a1 D.xs.length c1 a2 D.ys.length c2 D.ir x w
  rw [hq] at h4
  exact h4.mono fun e w' h => ⟨a1, c1, a2, c2, h.1, Renew.same _ _ _ _ _ _ _ _, h.2⟩

theorem l8Store_own (D : DV) (a1 : Option Addr) (c1 : Nat) (a2 : Option Addr) (c2 : Nat) (addr size x : Int) (B E : Nat) (w : World) (h2 : D.ys.length ≤ 4096) (hBE : B ≤ E) (hE : E ≤ w.heap.size) (hf : Fam B E w (devF a1 D.xs.length c1 D.xs a2 D.ys.length c2 D.ys)) :
    Calls Tryz.prog 105 #[.agg #[.int .u64 D.t, .int .u64 D.cm, .bool D.so, .slice a1 D.xs.length c1, .slice a2 D.ys.length c2, .int .i64 D.ir], .int .u64 addr, .int .i64 size, .int .u64 x] w fun e w' => ∃ (b1 : Option Addr) (d1 : Nat) (b2 : Option Addr) (d2 : Nat), e = .returned (.tuple #[.agg (dvc (stV D x (sel addr size)).1 b1 d1 b2 d2), .bool (stV D x (sel addr size)).2]) ∧ Renew w w' a1 c1 D.xs a2 c2 D.ys b1 d1 (stV D x (sel addr size)).1.xs b2 d2 (stV D x (sel addr size)).1.ys ∧ Below w.heap.size w w' := by
  refine sel_cases addr size (fun k => Calls Tryz.prog 105 #[.agg #[.int .u64 D.t, .int .u64 D.cm, .bool D.so, .slice a1 D.xs.length c1, .slice a2 D.ys.length c2, .int .i64 D.ir], .int .u64 addr, .int .i64 size, .int .u64 x] w fun e w' => ∃ (b1 : Option Addr) (d1 : Nat) (b2 : Option Addr) (d2 : Nat), e = .returned (.tuple #[.agg (dvc (stV D x k).1 b1 d1 b2 d2), .bool (stV D x k).2]) ∧ Renew w w' a1 c1 D.xs a2 c2 D.ys b1 d1 (stV D x k).1.xs b2 d2 (stV D x k).1.ys ∧ Below w.heap.size w w') ?_ ?_ ?_ ?_ ?_ ?_ ?_
  · rintro rfl rfl
    rw [stV_0]
    exact (l8Store_0 D.t D.cm D.so a1 _ c1 a2 _ c2 D.ir x w).mono fun e w' h => ⟨a1, c1, a2, c2, h.1, Renew.same _ _ _ _ _ _ _ _, h.2⟩
  · rintro rfl rfl
    rw [stV_1]
    exact (l8Store_1 D.t D.cm D.so a1 _ c1 a2 _ c2 D.ir x w).mono fun e w' h => ⟨a1, c1, a2, c2, h.1, Renew.same _ _ _ _ _ _ _ _, h.2⟩
  · rintro rfl rfl
    rw [stV_2]
    exact (l8Store_2 D.t D.cm D.so a1 _ c1 a2 _ c2 D.ir x w).mono fun e w' h => ⟨a1, c1, a2, c2, h.1, Renew.same _ _ _ _ _ _ _ _, h.2⟩
  · rintro rfl rfl
    by_cases hl : D.ys.length < 4096
    · rw [stV_3r D x hl]
      refine (l8Store_3n D.t D.cm D.so a1 _ c1 a2 _ c2 D.ir x D.xs D.ys B E w rfl hl hBE hE hf).mono fun e w' h => ?_
      obtain ⟨f1, g1, h1, h2, h3⟩ := h
      have el : (D.ys ++ [IntKind.u8.wrap x]).length = D.ys.length + 1 := by rw [List.length_append]; rfl
      refine ⟨a1, c1, f1, g1, ?_, .inr (.inr (.inl ⟨⟨rfl, rfl, rfl⟩, ?_⟩)), h3⟩
      · rw [h1]
        dsimp only [dvc]
        rw [el]
      · dsimp only
        rw [el]
        exact h2
    · rw [stV_3f D x hl]
      exact (l8Store_3f D.t D.cm D.so a1 _ c1 a2 _ c2 D.ir x hl h2 w).mono fun e w' h => ⟨a1, c1, a2, c2, h.1, Renew.same _ _ _ _ _ _ _ _, h.2⟩
  · rintro rfl rfl
    rw [stV_4]
    exact l8Store_4n D a1 c1 a2 c2 x w _ rfl
  · rintro rfl rfl
    rw [stV_5]
    exact (l8Store_5 D.t D.cm D.so a1 _ c1 a2 _ c2 D.ir x w).mono fun e w' h => ⟨a1, c1, a2, c2, h.1, Renew.same _ _ _ _ _ _ _ _, h.2⟩
  · intro k0 k1 k2 k3 k4 k5
    rw [stV_6]
    exact (l8Store_6 D.t D.cm D.so a1 _ c1 a2 _ c2 D.ir x addr size k0 k1 k2 k3 k4 k5 w).mono fun e w' h => ⟨none, 0, none, 0, h.1, .inr (.inr (.inr (fam_zero _ _ _))), h.2⟩

theorem Fam.sub {B E : Nat} {w : World} {L L' : List FRow} (h : Fam B E w L) (hs : L'.Sublist L) : Fam B E w L' :=
  ⟨fun q hq => h.own q (hs.subset hq), fun q hq => h.hi q (hs.subset hq), h.ne.sublist hs⟩

theorem Fam.ins {B E E' : Nat} {w : World} {L1 L2 : List FRow} {q : FRow} (h : Fam B E w (L1 ++ L2)) (hq : w.ownsRow E q.t 1 q.v q.n q.xs) (h1 : B ≤ E) (h2 : w.heap.size ≤ E') (h3 : E ≤ E') : Fam B E' w (L1 ++ q :: L2) := by
  have hne := List.pairwise_append.1 h.ne
  have hi : ∀ s ∈ L1 ++ L2, ∀ k, s.v.ownBlock = some k → k < E := fun s hs k e => h.hi s hs k e
  have lo : ∀ k, q.v.ownBlock = some k → E ≤ k ∧ k < w.heap.size := fun k e => hq.lt k e
  refine ⟨fun s hs => ?_, fun s hs k e => ?_, List.pairwise_append.2 ⟨hne.1, List.pairwise_cons.2 ⟨fun s hs k e e2 => ?_, hne.2.1⟩, fun s hs t ht k e e2 => ?_⟩⟩
  · rcases List.mem_append.1 hs with hs | hs
    · exact h.own s (List.mem_append_left _ hs)
    · rcases List.mem_cons.1 hs with rfl | hs
      · exact own_low hq h1
      · exact h.own s (List.mem_append_right _ hs)
  · rcases List.mem_append.1 hs with hs | hs
    · have := hi s (List.mem_append_left _ hs) k e; omega
    · rcases List.mem_cons.1 hs with rfl | hs
      · have := lo k e; omega
      · have := hi s (List.mem_append_right _ hs) k e; omega
  · have := lo k e
    have := hi s (List.mem_append_right _ hs) k e2
    omega
  · rcases List.mem_cons.1 ht with rfl | ht
    · have := lo k e2
      have := hi s (List.mem_append_left _ hs) k e
      omega
    · exact hne.2.2 s hs t ht k e e2

theorem Fam.app {B E E' : Nat} {w : World} {L1 L2 : List FRow} (h : Fam B E w L1) (h2 : Fam E E' w L2) (h1 : B ≤ E) (h3 : E ≤ E') : Fam B E' w (L1 ++ L2) := by
  refine ⟨fun s hs => ?_, fun s hs k e => ?_, List.pairwise_append.2 ⟨h.ne, h2.ne, fun s hs t ht k e e2 => ?_⟩⟩
  · rcases List.mem_append.1 hs with hs | hs
    · exact h.own s hs
    · exact own_low (h2.own s hs) h1
  · rcases List.mem_append.1 hs with hs | hs
    · have := h.hi s hs k e; omega
    · exact h2.hi s hs k e
  · have := h.hi s hs k e
    have := ((h2.own t ht).lt k e2).1
    omega

def devA (A : MA) (b1 : Option Addr) (d1 : Nat) (b2 : Option Addr) (d2 : Nat) : MA := ⟨A.ax, A.cx, A.ac, A.cc, A.ar, A.cr, b1, d1, b2, d2⟩

theorem dev_fam {B : Nat} {M : MV} {A : MA} {w w' : World} (h : Fam B w.heap.size w (mvF M A)) (hB : B ≤ w.heap.size) (hb : Below w.heap.size w w') (D : DV) {b1 : Option Addr} {d1 : Nat} {b2 : Option Addr} {d2 : Nat} (hr : Renew w w' A.ai A.ci M.d.xs A.ao A.co M.d.ys b1 d1 D.xs b2 d2 D.ys) : Fam B w'.heap.size w' (mvF (devM M D) (devA A b1 d1 b2 d2)) := by
  have hf := h.below hb
  rcases hr with ⟨⟨rfl, rfl, e1⟩, rfl, rfl, e2⟩ | ⟨h1, rfl, rfl, e2⟩ | ⟨⟨rfl, rfl, e1⟩, h1⟩ | h1
  · unfold mvF devM devA
    dsimp only
    rw [e1, e2]
    exact hf.low (Nat.le_refl _) hb.size
  · have h4 : Fam B w.heap.size w' ([wRow A.ax M.x.length A.cx M.x, wRow A.ac M.cs.length A.cc M.cs, bRow A.ar M.ram.length A.cr M.ram] ++ [bRow A.ao M.d.ys.length A.co M.d.ys]) := hf.sub (by unfold mvF; simp)
    unfold mvF devM devA
    dsimp only
    rw [e2]
    exact h4.ins (q := bRow b1 D.xs.length d1 D.xs) h1 hB (Nat.le_refl _) hb.size
  · have h4 : Fam B w.heap.size w' ([wRow A.ax M.x.length A.cx M.x, wRow A.ac M.cs.length A.cc M.cs, bRow A.ar M.ram.length A.cr M.ram, bRow A.ai M.d.xs.length A.ci M.d.xs] ++ []) := hf.sub (by unfold mvF; simp)
    unfold mvF devM devA
    dsimp only
    rw [e1]
    exact h4.ins (q := bRow b2 D.ys.length d2 D.ys) h1 hB (Nat.le_refl _) hb.size
  · have h4 : Fam B w.heap.size w' [wRow A.ax M.x.length A.cx M.x, wRow A.ac M.cs.length A.cc M.cs, bRow A.ar M.ram.length A.cr M.ram] := hf.sub (by unfold mvF; simp)
    exact h4.app h1 hB hb.size

theorem dev_own {M : MV} {A : MA} {w w' : World} (D : DV) {b1 : Option Addr} {d1 : Nat} {b2 : Option Addr} {d2 : Nat} (hr : Renew w w' A.ai A.ci M.d.xs A.ao A.co M.d.ys b1 d1 D.xs b2 d2 D.ys) : ∀ q ∈ mvF (devM M D) (devA A b1 d1 b2 d2), ∀ k, q.v.ownBlock = some k → k < w.heap.size → ∃ q0 ∈ mvF M A, q0.v.ownBlock = some k := by
  intro q hq k e hk
  simp only [mvF, devM, devA, List.mem_cons, List.not_mem_nil, or_false] at hq
  have nw : ∀ (b : Option Addr) (d : Nat) (zs : List Int), w'.ownsRow w.heap.size 5 1 (.slice b zs.length d) zs.length (zs.map (Value.int .u8)) → ∀ k, (Value.slice b zs.length d).ownBlock = some k → k < w.heap.size → False := fun b d zs h k e hk => by have := (h.lt k e).1; omega
  have m4 : bRow A.ai M.d.xs.length A.ci M.d.xs ∈ mvF M A := by simp [mvF]
  have m5 : bRow A.ao M.d.ys.length A.co M.d.ys ∈ mvF M A := by simp [mvF]
  rcases hq with rfl | rfl | rfl | rfl | rfl
  · exact ⟨_, by simp [mvF], e⟩
  · exact ⟨wRow A.ac M.cs.length A.cc M.cs, by simp [mvF], e⟩
  · exact ⟨bRow A.ar M.ram.length A.cr M.ram, by simp [mvF], e⟩
  · rcases hr with ⟨⟨rfl, rfl, e1⟩, _⟩ | ⟨h1, _⟩ | ⟨⟨rfl, rfl, e1⟩, _⟩ | h1
    · rw [e1] at e; exact ⟨_, m4, e⟩
    · exact (nw _ _ _ h1 k e hk).elim
    · rw [e1] at e; exact ⟨_, m4, e⟩
    · exact (nw _ _ _ (h1.own (bRow b1 D.xs.length d1 D.xs) (by simp [devF])) k e hk).elim
  · rcases hr with ⟨_, rfl, rfl, e2⟩ | ⟨_, rfl, rfl, e2⟩ | ⟨_, h1⟩ | h1
    · rw [e2] at e; exact ⟨_, m5, e⟩
    · rw [e2] at e; exact ⟨_, m5, e⟩
    · exact (nw _ _ _ h1 k e hk).elim
    · exact (nw _ _ _ (h1.own (bRow b2 D.ys.length d2 D.ys) (by simp [devF])) k e hk).elim

def put6r (w : World) (r : Nat) (D : DV) (b1 : Option Addr) (d1 : Nat) (b2 : Option Addr) (d2 : Nat) : World := (((((w.setCell ⟨r, 5, none⟩ (.int .u64 D.t)).setCell ⟨r, 6, none⟩ (.int .u64 D.cm)).setCell ⟨r, 7, none⟩ (.bool D.so)).setCell ⟨r, 8, none⟩ (.slice b1 D.xs.length d1)).setCell ⟨r, 9, none⟩ (.slice b2 D.ys.length d2)).setCell ⟨r, 10, none⟩ (.int .i64 D.ir)

theorem Kx.put6r {r : Nat} {L : List FRow} (w : World) (D : DV) (b1 : Option Addr) (d1 : Nat) (b2 : Option Addr) (d2 : Nat) : Kx r L L w (put6r w r D b1 d1 b2 d2) :=
  (((((Kx.set w 5 _).trans (Kx.set _ 6 _)).trans (Kx.set _ 7 _)).trans (Kx.set _ 8 _)).trans (Kx.set _ 9 _)).trans (Kx.set _ 10 _)

theorem Mp.fam_set {B r : Nat} {L : List FRow} {w : World} (h : Fam B w.heap.size w L) (hne : ∀ q ∈ L, q.v.ownBlock ≠ some r) (i : Nat) (v : Value) : Fam B (w.setCell ⟨r, i, none⟩ v).heap.size (w.setCell ⟨r, i, none⟩ v) L :=
  ⟨fun q hq => fown_of (h.own q hq) (fun k e => Below.heap_setCell w ⟨r, i, none⟩ v k (fun e2 => hne q hq (by rw [show r = k from e2.symm]; exact e))), fun q hq k e => by rw [size_set]; exact h.hi q hq k e, h.ne⟩

theorem Mp.dev {B r : Nat} {M : MV} {A : MA} {w w' : World} (h : Mp B r M A w) (hb : Below w.heap.size w w') (D : DV) {b1 : Option Addr} {d1 : Nat} {b2 : Option Addr} {d2 : Nat} (hr : Renew w w' A.ai A.ci M.d.xs A.ao A.co M.d.ys b1 d1 D.xs b2 d2 D.ys) : Mp B r (devM M D) (devA A b1 d1 b2 d2) (put6r w' r D b1 d1 b2 d2) ∧ Kx r (mvF M A) (mvF (devM M D) (devA A b1 d1 b2 d2)) w (put6r w' r D b1 d1 b2 d2) := by
  have hlt := h.lt
  have hB : B ≤ w.heap.size := by have := h.lo; omega
  have hown := dev_own D hr
  have hne : ∀ q ∈ mvF (devM M D) (devA A b1 d1 b2 d2), q.v.ownBlock ≠ some r := fun q hq e => by
    obtain ⟨q0, h0, e0⟩ := hown q hq r e hlt
    exact h.ne q0 h0 e0
  have hf := dev_fam h.fam hB hb D hr
  refine ⟨⟨?_, ?_, hne, h.lo⟩, ?_⟩
  · have R0 := dstays hb h.row
    unfold mvc at R0
    have R1 := row_set R0 5 (.int .u64 D.t)
    have R2 := row_set R1 6 (.int .u64 D.cm)
    have R3 := row_set R2 7 (.bool D.so)
    have R4 := row_set R3 8 (.slice b1 D.xs.length d1)
    have R5 := row_set R4 9 (.slice b2 D.ys.length d2)
    exact row_set R5 10 (.int .i64 D.ir)
  · exact Mp.fam_set (Mp.fam_set (Mp.fam_set (Mp.fam_set (Mp.fam_set (Mp.fam_set hf hne 5 _) hne 6 _) hne 7 _) hne 8 _) hne 9 _) hne 10 _
  · have k1 : Kx r (mvF M A) (mvF (devM M D) (devA A b1 d1 b2 d2)) w w' := ⟨hb.os, hb.tape, hb.output, hb.size, fun k hk _ _ => hb.block k hk, hown⟩
    exact k1.trans (Kx.put6r w' D b1 d1 b2 d2)

def put2r (w : World) (r : Nat) : World := (w.setCell ⟨r, 12, none⟩ (.bool false)).setCell ⟨r, 11, none⟩ (.int .u64 0)

theorem Mp.free {B r : Nat} {M : MV} {A : MA} {w : World} (h : Mp B r M A w) : Mp B r (freeM M) A (put2r w r) ∧ Kx r (mvF M A) (mvF (freeM M) A) w (put2r w r) := by
  refine ⟨⟨?_, Mp.fam_set (Mp.fam_set h.fam h.ne 12 _) h.ne 11 _, h.ne, h.lo⟩, (Kx.set w 12 _).trans (Kx.set _ 11 _)⟩
  have R0 := h.row
  unfold mvc at R0
  exact row_set (row_set R0 12 (.bool false)) 11 (.int .u64 0)

theorem l1Put_mp (M : MV) (A : MA) (B r : Nat) (addr size x : Int) (w : World) (hl : M.ram.length ≤ 1048576) (hok : okB M.ram.length addr size = true) (hx0 : 0 ≤ x) (hx1 : x ≤ 18446744073709551615) (h : Mp B r M A w) :
    Calls Tryz.prog 102 #[.slice A.ar M.ram.length A.cr, .int .u64 addr, .int .i64 size, .int .u64 x] w fun e w' => e = .returned (.tuple #[]) ∧ Mp B r (memM M (put M.ram (addr - 2147483648).toNat x size.toNat)) A w' ∧ Kx r (mvF M A) (mvF (memM M (put M.ram (addr - 2147483648).toNat x size.toNat)) A) w w' := by
  have hb := okB_true hok
  obtain ⟨f, hf⟩ : ∃ f : Nat, f = (addr - 2147483648).toNat := ⟨_, rfl⟩
  obtain ⟨m, hm⟩ : ∃ m : Nat, m = size.toNat := ⟨_, rfl⟩
  have ea : addr = 2147483648 + (f : Int) := by omega
  have es : size = (m : Int) := by omega
  have hmem : bRow A.ar M.ram.length A.cr M.ram ∈ mvF M A := by simp [mvF]
  have ho := h.fam.own _ hmem
  have hfm : f + m ≤ M.ram.length := by omega
  have hg : ∃ g, A.ar = some ⟨g, 0, none⟩ := by
    rcases ho.2 with ⟨e, e0⟩ | ⟨g', cap, cur, e, _⟩
    · have : M.ram.length = 0 := e0; omega
    · have e2 : Value.slice A.ar M.ram.length A.cr = .slice (some ⟨g', 0, none⟩) M.ram.length cap := e
      injection e2 with e3
      exact ⟨g', e3⟩
  obtain ⟨g, hg⟩ := hg
  have hplen : (put M.ram f x m).length = M.ram.length := put_len _ _ _ _
  rw [← hf, ← hm]
  rw [ea, es]
  have ho2 : w.ownsRow B 5 1 (.slice (some ⟨g, 0, none⟩) M.ram.length A.cr) M.ram.length (M.ram.map (Value.int .u8)) := by rw [← hg]; exact ho
  rw [hg]
  refine (l1Put_any g M.ram.length A.cr f m B M.ram x w hl (by omega) hfm hx0 hx1 ho2).mono fun e w' ⟨h1, h2, h3⟩ => ⟨h1, ?_⟩
  have hgr : w.grownBy w' (bRow A.ar M.ram.length A.cr M.ram).v.ownBlock := by
    have e : (bRow A.ar M.ram.length A.cr M.ram).v.ownBlock = some g := by show (Value.slice A.ar M.ram.length A.cr).ownBlock = _; rw [hg]; rfl
    rw [e]; exact h3
  have hst : w'.ownsRow B 5 1 (bRow A.ar M.ram.length A.cr M.ram).v M.ram.length ((put M.ram f x m).map (Value.int .u8)) := by
    show w'.ownsRow B 5 1 (.slice A.ar M.ram.length A.cr) _ _
    rw [hg]; exact h2
  have hmk := Fam.markL (L1 := [wRow A.ax M.x.length A.cx M.x, wRow A.ac M.cs.length A.cc M.cs]) (L2 := [bRow A.ai M.d.xs.length A.ci M.d.xs, bRow A.ao M.d.ys.length A.co M.d.ys]) (r := bRow A.ar M.ram.length A.cr M.ram) h.fam hgr _ hst
  have hsame := mvF_same (M := M) (M' := memM M (put M.ram f x m)) (A := A) rfl rfl hplen rfl rfl
  have hF : Fam B w.heap.size w' (mvF (memM M (put M.ram f x m)) A) := by
    unfold mvF memM
    dsimp only
    rw [hplen]
    exact hmk.1
  refine ⟨⟨?_, hF.low (Nat.le_refl _) h3.size, fun q hq e => ?_, h.lo⟩, Kx.of_keepL hmk.2 hsame⟩
  · have hr : w'.heap[r]? = w.heap[r]? := hmk.2.block r h.lt (fun q hq e => h.ne q hq e)
    rw [hr, h.row]
    unfold mvc memM
    dsimp only
    rw [hplen]
  · obtain ⟨q0, h0, e0⟩ := hsame q hq
    exact h.ne q0 h0 (by rw [e0]; exact e)

def put2q (w : World) (r : Nat) : World := (w.setCell ⟨r, 11, none⟩ (.int .u64 0)).setCell ⟨r, 12, none⟩ (.bool false)

theorem Mp.freeq {B r : Nat} {M : MV} {A : MA} {w : World} (h : Mp B r M A w) : Mp B r (freeM M) A (put2q w r) ∧ Kx r (mvF M A) (mvF (freeM M) A) w (put2q w r) := by
  refine ⟨⟨?_, Mp.fam_set (Mp.fam_set h.fam h.ne 11 _) h.ne 12 _, h.ne, h.lo⟩, (Kx.set w 11 _).trans (Kx.set _ 12 _)⟩
  have R0 := h.row
  unfold mvc at R0
  exact row_set (row_set R0 11 (.int .u64 0)) 12 (.bool false)

def ramA (A : MA) (a : Option Addr) (c : Nat) : MA := ⟨A.ax, A.cx, A.ac, A.cc, a, c, A.ai, A.ci, A.ao, A.co⟩

theorem Mp.ram {B r : Nat} {M : MV} {A : MA} {w w' : World} (h : Mp B r M A w) (hb : Below w.heap.size w w') (R : List Int) (a : Option Addr) (c : Nat) (ho : w'.ownsRow w.heap.size 5 1 (.slice a R.length c) R.length (R.map (Value.int .u8))) : Mp B r (memM M R) (ramA A a c) (w'.setCell ⟨r, 4, none⟩ (.slice a R.length c)) ∧ Kx r (mvF M A) (mvF (memM M R) (ramA A a c)) w (w'.setCell ⟨r, 4, none⟩ (.slice a R.length c)) := by
  have hlt := h.lt
  have hB : B ≤ w.heap.size := by have := h.lo; omega
  have hf := h.fam.below hb
  have h4 : Fam B w.heap.size w' ([wRow A.ax M.x.length A.cx M.x, wRow A.ac M.cs.length A.cc M.cs] ++ [bRow A.ai M.d.xs.length A.ci M.d.xs, bRow A.ao M.d.ys.length A.co M.d.ys]) := hf.sub (by unfold mvF; simp)
  have hF : Fam B w'.heap.size w' (mvF (memM M R) (ramA A a c)) := h4.ins (q := bRow a R.length c R) ho hB (Nat.le_refl _) hb.size
  have hown : ∀ q ∈ mvF (memM M R) (ramA A a c), ∀ k, q.v.ownBlock = some k → k < w.heap.size → ∃ q0 ∈ mvF M A, q0.v.ownBlock = some k := by
    intro q hq k e hk
    simp only [mvF, memM, ramA, List.mem_cons, List.not_mem_nil, or_false] at hq
    rcases hq with rfl | rfl | rfl | rfl | rfl
    · exact ⟨wRow A.ax M.x.length A.cx M.x, by simp [mvF], e⟩
    · exact ⟨wRow A.ac M.cs.length A.cc M.cs, by simp [mvF], e⟩
    · have := (ho.lt k e).1; omega
    · exact ⟨bRow A.ai M.d.xs.length A.ci M.d.xs, by simp [mvF], e⟩
    · exact ⟨bRow A.ao M.d.ys.length A.co M.d.ys, by simp [mvF], e⟩
  have hne : ∀ q ∈ mvF (memM M R) (ramA A a c), q.v.ownBlock ≠ some r := fun q hq e => by
    obtain ⟨q0, h0, e0⟩ := hown q hq r e hlt
    exact h.ne q0 h0 e0
  have R0 := dstays hb h.row
  unfold mvc at R0
  have k1 : Kx r (mvF M A) (mvF (memM M R) (ramA A a c)) w w' := ⟨hb.os, hb.tape, hb.output, hb.size, fun k hk _ _ => hb.block k hk, hown⟩
  exact ⟨⟨row_set R0 4 (.slice a R.length c), Mp.fam_set hF hne 4 _, hne, h.lo⟩, k1.trans (Kx.set w' 4 _)⟩

set_option maxRecDepth 100000 in
set_option maxHeartbeats 6400000 in
theorem take_mp (M : MV) (A : MA) (B r : Nat) (addr size yd : Int) (D : DV) (is : Bool) (w : World) (hm : Mp B r M A w)
    (h8 : ∀ w', Mp B r M A w' → Calls Tryz.prog 214 #[.agg #[.int .u64 M.d.t, .int .u64 M.d.cm, .bool M.d.so, .slice A.ai M.d.xs.length A.ci, .slice A.ao M.d.ys.length A.co, .int .i64 M.d.ir], .int .u64 addr, .int .i64 size] w' fun e w'' => ∃ (b1 : Option Addr) (d1 : Nat) (b2 : Option Addr) (d2 : Nat), e = .returned (.tuple #[.int .u64 yd, .agg #[.int .u64 D.t, .int .u64 D.cm, .bool D.so, .slice b1 D.xs.length d1, .slice b2 D.ys.length d2, .int .i64 D.ir], .bool is]) ∧ Fam w'.heap.size w''.heap.size w'' (devF b1 D.xs.length d1 D.xs b2 D.ys.length d2 D.ys) ∧ Below w'.heap.size w' w'') :
    Calls Tryz.prog 149 #[.pointer (some ⟨r, 5, none⟩), .int .u64 addr, .int .i64 size] w fun e w' => e = .returned (.tuple #[.int .u64 yd, .bool is]) ∧ ∃ A', Mp B r (if is = true then devM M D else M) A' w' ∧ Kx r (mvF M A) (mvF (if is = true then devM M D else M) A') w w' := by
  have HM := dhid hm
  have H8 := dhid h8
  obtain ⟨c0, c1, c2, c3, c4, c5, c6, c7, c8, c9, c10, c11, c12, c13⟩ := cells14 hm.row
  clear hm h8
  go_enter Tryz.func149, Tryz.ntmps149
  go_wp2_with fail
  refine (H8.out _ HM.out).mono ?_
  rintro e w5 ⟨b1, d1, b2, d2, rfl, fm5, hb5⟩
  have BB := dhid (below_trans hb5 ((Below.refl _ _).alloc (Nat.le_refl _) (.cells #[.int .u64 D.t, .int .u64 D.cm, .bool D.so, .slice b1 D.xs.length d1, .slice b2 D.ys.length d2, .int .i64 D.ir] 27 (0, 0))))
  have RN : Hid (Renew w (w5.alloc (.cells #[.int .u64 D.t, .int .u64 D.cm, .bool D.so, .slice b1 D.xs.length d1, .slice b2 D.ys.length d2, .int .i64 D.ir] 27 (0, 0))) A.ai A.ci M.d.xs A.ao A.co M.d.ys b1 d1 D.xs b2 d2 D.ys) := Renew.below (.inr (.inr (.inr fm5))) ((Below.refl _ _).alloc (Nat.le_refl _) _)
  have ROW5 := dstays hb5 HM.out.row
  unfold mvc at ROW5
  have nb1 : ¬ r = w5.heap.size := by have h1 := HM.out.lt; have h2 := hb5.size; omega
  have nb2 : ¬ w5.heap.size = r := fun h => nb1 h.symm
  clear c0 c1 c2 c3 c4 c5 c6 c7 c8 c9 c10 c11 c12 c13
  have c5 := fun o => (cells14 (row_al8 ROW5 o)).2.2.2.2.2.1
  have c6 := fun o => (cells14 (row_al8 ROW5 o)).2.2.2.2.2.2.1
  have c7 := fun o => (cells14 (row_al8 ROW5 o)).2.2.2.2.2.2.2.1
  have c8 := fun o => (cells14 (row_al8 ROW5 o)).2.2.2.2.2.2.2.2.1
  have c9 := fun o => (cells14 (row_al8 ROW5 o)).2.2.2.2.2.2.2.2.2.1
  have c10 := fun o => (cells14 (row_al8 ROW5 o)).2.2.2.2.2.2.2.2.2.2.1
  have f5 := fun o => (froz14 (row_al8 ROW5 o)).2.2.2.2.2.1
  have f6 := fun o => (froz14 (row_al8 ROW5 o)).2.2.2.2.2.2.1
  have f7 := fun o => (froz14 (row_al8 ROW5 o)).2.2.2.2.2.2.2.1
  have f8 := fun o => (froz14 (row_al8 ROW5 o)).2.2.2.2.2.2.2.2.1
  have f9 := fun o => (froz14 (row_al8 ROW5 o)).2.2.2.2.2.2.2.2.2.1
  have f10 := fun o => (froz14 (row_al8 ROW5 o)).2.2.2.2.2.2.2.2.2.2.1
  clear hb5 fm5 ROW5
  cases is with
  | false =>
    go_wp2_with fail
    refine bodyPost_ret (results_tmp2 rfl _ _ _) rfl ?_
    exact ⟨rfl, A, HM.out.below BB.out, Kx.of_below BB.out⟩
  | true =>
    obtain ⟨MPD, KXD⟩ := HM.out.dev BB.out D RN.out
    have MP7 := dhid MPD
    have KX7 := dhid KXD
    clear MPD KXD
    go_wp2_with fail
    refine bodyPost_ret (results_tmp2 rfl _ _ _) rfl ?_
    exact ⟨rfl, devA A b1 d1 b2 d2, MP7.out, KX7.out⟩

set_option maxRecDepth 100000 in
set_option maxHeartbeats 6400000 in
theorem give_mp (M : MV) (A : MA) (B r : Nat) (addr size x : Int) (D : DV) (is : Bool) (w : World) (hm : Mp B r M A w)
    (h8 : ∀ w', Mp B r M A w' → Calls Tryz.prog 251 #[.agg #[.int .u64 M.d.t, .int .u64 M.d.cm, .bool M.d.so, .slice A.ai M.d.xs.length A.ci, .slice A.ao M.d.ys.length A.co, .int .i64 M.d.ir], .int .u64 addr, .int .i64 size, .int .u64 x] w' fun e w'' => ∃ (b1 : Option Addr) (d1 : Nat) (b2 : Option Addr) (d2 : Nat), e = .returned (.tuple #[.agg #[.int .u64 D.t, .int .u64 D.cm, .bool D.so, .slice b1 D.xs.length d1, .slice b2 D.ys.length d2, .int .i64 D.ir], .bool is]) ∧ Fam w'.heap.size w''.heap.size w'' (devF b1 D.xs.length d1 D.xs b2 D.ys.length d2 D.ys) ∧ Below w'.heap.size w' w'') :
    Calls Tryz.prog 209 #[.pointer (some ⟨r, 5, none⟩), .int .u64 addr, .int .i64 size, .int .u64 x] w fun e w' => e = .returned (.bool is) ∧ ∃ A', Mp B r (if is = true then devM M D else M) A' w' ∧ Kx r (mvF M A) (mvF (if is = true then devM M D else M) A') w w' := by
  have HM := dhid hm
  have H8 := dhid h8
  obtain ⟨c0, c1, c2, c3, c4, c5, c6, c7, c8, c9, c10, c11, c12, c13⟩ := cells14 hm.row
  clear hm h8
  go_enter Tryz.func209, Tryz.ntmps209
  go_wp2_with fail
  refine (H8.out _ HM.out).mono ?_
  rintro e w5 ⟨b1, d1, b2, d2, rfl, fm5, hb5⟩
  have BB := dhid (below_trans hb5 ((Below.refl _ _).alloc (Nat.le_refl _) (.cells #[.int .u64 D.t, .int .u64 D.cm, .bool D.so, .slice b1 D.xs.length d1, .slice b2 D.ys.length d2, .int .i64 D.ir] 27 (0, 0))))
  have RN : Hid (Renew w (w5.alloc (.cells #[.int .u64 D.t, .int .u64 D.cm, .bool D.so, .slice b1 D.xs.length d1, .slice b2 D.ys.length d2, .int .i64 D.ir] 27 (0, 0))) A.ai A.ci M.d.xs A.ao A.co M.d.ys b1 d1 D.xs b2 d2 D.ys) := Renew.below (.inr (.inr (.inr fm5))) ((Below.refl _ _).alloc (Nat.le_refl _) _)
  have ROW5 := dstays hb5 HM.out.row
  unfold mvc at ROW5
  have nb1 : ¬ r = w5.heap.size := by have h1 := HM.out.lt; have h2 := hb5.size; omega
  have nb2 : ¬ w5.heap.size = r := fun h => nb1 h.symm
  clear c0 c1 c2 c3 c4 c5 c6 c7 c8 c9 c10 c11 c12 c13
  have c5 := fun o => (cells14 (row_al8 ROW5 o)).2.2.2.2.2.1
  have c6 := fun o => (cells14 (row_al8 ROW5 o)).2.2.2.2.2.2.1
  have c7 := fun o => (cells14 (row_al8 ROW5 o)).2.2.2.2.2.2.2.1
  have c8 := fun o => (cells14 (row_al8 ROW5 o)).2.2.2.2.2.2.2.2.1
  have c9 := fun o => (cells14 (row_al8 ROW5 o)).2.2.2.2.2.2.2.2.2.1
  have c10 := fun o => (cells14 (row_al8 ROW5 o)).2.2.2.2.2.2.2.2.2.2.1
  have f5 := fun o => (froz14 (row_al8 ROW5 o)).2.2.2.2.2.1
  have f6 := fun o => (froz14 (row_al8 ROW5 o)).2.2.2.2.2.2.1
  have f7 := fun o => (froz14 (row_al8 ROW5 o)).2.2.2.2.2.2.2.1
  have f8 := fun o => (froz14 (row_al8 ROW5 o)).2.2.2.2.2.2.2.2.1
  have f9 := fun o => (froz14 (row_al8 ROW5 o)).2.2.2.2.2.2.2.2.2.1
  have f10 := fun o => (froz14 (row_al8 ROW5 o)).2.2.2.2.2.2.2.2.2.2.1
  clear hb5 fm5 ROW5
  cases is with
  | false =>
    go_wp2_with fail
    go_ret
    exact ⟨rfl, A, HM.out.below BB.out, Kx.of_below BB.out⟩
  | true =>
    obtain ⟨MPD, KXD⟩ := HM.out.dev BB.out D RN.out
    have MP7 := dhid MPD
    have KX7 := dhid KXD
    clear MPD KXD
    go_wp2_with fail
    go_ret
    exact ⟨rfl, devA A b1 d1 b2 d2, MP7.out, KX7.out⟩

set_option maxRecDepth 100000 in
set_option maxHeartbeats 6400000 in
theorem letGo_mp (M : MV) (A : MA) (B r : Nat) (pa : Int) (hit : Bool) (w : World) (hm : Mp B r M A w) (hht : (M.hl && (IntKind.u64.wrap (pa.tdiv 8) == IntKind.u64.wrap (M.hd.tdiv 8))) = hit) :
    Calls Tryz.prog 210 #[.pointer (some ⟨r, 0, none⟩), .int .u64 pa] w fun e w' => e = .returned (.tuple #[]) ∧ Mp B r (if hit = true then freeM M else M) A w' ∧ Kx r (mvF M A) (mvF (if hit = true then freeM M else M) A) w w' := by
  have HM := dhid hm
  obtain ⟨c0, c1, c2, c3, c4, c5, c6, c7, c8, c9, c10, c11, c12, c13⟩ := cells14 hm.row
  obtain ⟨f0, f1, f2, f3, f4, f5, f6, f7, f8, f9, f10, f11, f12, f13⟩ := froz14 hm.row
  clear hm
  obtain ⟨bh, hbh⟩ : ∃ b, b = M.hl := ⟨_, rfl⟩
  rw [← hbh] at c12 hht
  clear hbh
  cases bh with
  | false =>
    rw [Bool.false_and] at hht
    subst hht
    go_enter Tryz.func210, Tryz.ntmps210
    go_wp2_with fail
    refine bodyPost_end (results_none rfl _ _ _) rfl ?_
    exact ⟨rfl, HM.out, Kx.refl _ _ _⟩
  | true =>
    rw [Bool.true_and] at hht
    cases hit with
    | false =>
      go_enter Tryz.func210, Tryz.ntmps210
      go_wp2_with fail
      refine bodyPost_end (results_none rfl _ _ _) rfl ?_
      exact ⟨rfl, HM.out, Kx.refl _ _ _⟩
    | true =>
      go_enter Tryz.func210, Tryz.ntmps210
      go_wp2_with fail
      refine bodyPost_end (results_none rfl _ _ _) rfl ?_
      exact ⟨rfl, HM.out.freeq.1, HM.out.freeq.2⟩

set_option maxRecDepth 100000 in
set_option maxHeartbeats 6400000 in
theorem put_mp (M : MV) (A : MA) (B r : Nat) (pa size x : Int) (R : List Int) (D : DV) (ins is : Bool) (TL LG : MV → MV) (w : World) (hm : Mp B r M A w)
    (hS : ∀ w', Mp B r M A w' → Calls Tryz.prog 208 #[.slice A.ar M.ram.length A.cr, .int .u64 pa, .int .i64 size, .int .u64 x] w' fun e w'' => ∃ (a' : Option Addr) (c' : Nat), e = .returned (.tuple #[.slice a' R.length c', .bool ins]) ∧ w''.ownsRow w'.heap.size 5 1 (.slice a' R.length c') R.length (R.map (Value.int .u8)) ∧ Below w'.heap.size w' w'')
    (hV : ∀ w', Mp B r M A w' → Calls Tryz.prog 209 #[.pointer (some ⟨r, 5, none⟩), .int .u64 pa, .int .i64 size, .int .u64 x] w' fun e w'' => e = .returned (.bool is) ∧ ∃ A', Mp B r (if is = true then devM M D else M) A' w'' ∧ Kx r (mvF M A) (mvF (if is = true then devM M D else M) A') w' w'')
    (hT : ∀ (X : MV) (A' : MA) w', Mp B r X A' w' → (X = memM M R ∨ X = devM M D) → Calls Tryz.prog 150 #[.pointer (some ⟨r, 0, none⟩)] w' fun e w'' => e = .returned (.tuple #[]) ∧ Mp B r (TL X) A' w'' ∧ Kx r (mvF X A') (mvF (TL X) A') w' w'')
    (hG : ∀ (X : MV) (A' : MA) w', Mp B r X A' w' → (X = TL (memM M R) ∨ X = TL (devM M D)) → Calls Tryz.prog 210 #[.pointer (some ⟨r, 0, none⟩), .int .u64 pa] w' fun e w'' => e = .returned (.tuple #[]) ∧ Mp B r (LG X) A' w'' ∧ Kx r (mvF X A') (mvF (LG X) A') w' w'') :
    Calls Tryz.prog 147 #[.pointer (some ⟨r, 0, none⟩), .int .u64 pa, .int .i64 size, .int .u64 x] w fun e w' => e = .returned (.bool (ins || is)) ∧ ∃ A', Mp B r (if ins = true then LG (TL (memM M R)) else if is = true then LG (TL (devM M D)) else M) A' w' ∧ Kx r (mvF M A) (mvF (if ins = true then LG (TL (memM M R)) else if is = true then LG (TL (devM M D)) else M) A') w w' := by
  have HM := dhid hm
  have HS := dhid hS
  have HV := dhid hV
  have HTM : Hid (∀ (A' : MA) w', Mp B r (memM M R) A' w' → Calls Tryz.prog 150 #[.pointer (some ⟨r, 0, none⟩)] w' fun e w'' => e = .returned (.tuple #[]) ∧ Mp B r (TL (memM M R)) A' w'' ∧ Kx r (mvF (memM M R) A') (mvF (TL (memM M R)) A') w' w'') := fun A' w' h => hT _ A' w' h (.inl rfl)
  have HTD : Hid (∀ (A' : MA) w', Mp B r (devM M D) A' w' → Calls Tryz.prog 150 #[.pointer (some ⟨r, 0, none⟩)] w' fun e w'' => e = .returned (.tuple #[]) ∧ Mp B r (TL (devM M D)) A' w'' ∧ Kx r (mvF (devM M D) A') (mvF (TL (devM M D)) A') w' w'') := fun A' w' h => hT _ A' w' h (.inr rfl)
  have HGM : Hid (∀ (A' : MA) w', Mp B r (TL (memM M R)) A' w' → Calls Tryz.prog 210 #[.pointer (some ⟨r, 0, none⟩), .int .u64 pa] w' fun e w'' => e = .returned (.tuple #[]) ∧ Mp B r (LG (TL (memM M R))) A' w'' ∧ Kx r (mvF (TL (memM M R)) A') (mvF (LG (TL (memM M R))) A') w' w'') := fun A' w' h => hG _ A' w' h (.inl rfl)
  have HGD : Hid (∀ (A' : MA) w', Mp B r (TL (devM M D)) A' w' → Calls Tryz.prog 210 #[.pointer (some ⟨r, 0, none⟩), .int .u64 pa] w' fun e w'' => e = .returned (.tuple #[]) ∧ Mp B r (LG (TL (devM M D))) A' w'' ∧ Kx r (mvF (TL (devM M D)) A') (mvF (LG (TL (devM M D))) A') w' w'') := fun A' w' h => hG _ A' w' h (.inr rfl)
  obtain ⟨c0, c1, c2, c3, c4, c5, c6, c7, c8, c9, c10, c11, c12, c13⟩ := cells14 hm.row
  clear hm hS hV hT hG
  go_enter Tryz.func147, Tryz.ntmps147
  go_wp2_with fail
  refine (HS.out _ HM.out).mono ?_
  rintro e w5 ⟨a', c', rfl, ow5, hb5⟩
  have MP5 := dhid (HM.out.below hb5)
  have KX5 := dhid (Kx.of_below (r := r) (L := mvF M A) hb5)
  cases ins with
  | true =>
    obtain ⟨MPR, KXR⟩ := HM.out.ram hb5 R a' c' ow5
    have MP6 := dhid MPR
    have KX6 := dhid KXR
    clear c0 c1 c2 c3 c4 c5 c6 c7 c8 c9 c10 c11 c12 c13
    obtain ⟨c0, c1, c2, c3, c4, c5, c6, c7, c8, c9, c10, c11, c12, c13⟩ := cells14 MP5.out.row
    obtain ⟨f0, f1, f2, f3, f4, f5, f6, f7, f8, f9, f10, f11, f12, f13⟩ := froz14 MP5.out.row
    clear MPR KXR ow5 hb5
    go_wp2_with fail
    refine (HTM.out (ramA A a' c') _ MP6.out).mono ?_
    rintro e w7 ⟨rfl, mp7, kx7⟩
    have MP7 := dhid mp7
    have KX7 := dhid ((KX6.out).trans kx7)
    clear mp7 kx7
    go_wp2_with fail
    refine (HGM.out (ramA A a' c') _ MP7.out).mono ?_
    rintro e w8 ⟨rfl, mp8, kx8⟩
    have MP8 := dhid mp8
    have KX8 := dhid (KX7.out.trans kx8)
    clear mp8 kx8
    go_wp2_with fail
    go_ret
    exact ⟨rfl, (ramA A a' c'), MP8.out, KX8.out⟩
  | false =>
    clear ow5 hb5
    clear c0 c1 c2 c3 c4 c5 c6 c7 c8 c9 c10 c11 c12 c13
    obtain ⟨c0, c1, c2, c3, c4, c5, c6, c7, c8, c9, c10, c11, c12, c13⟩ := cells14 MP5.out.row
    go_wp2_with fail
    refine (HV.out _ MP5.out).mono ?_
    rintro e w6 ⟨rfl, A', mp6, kx6⟩
    have MP6 := dhid mp6
    have KX6 := dhid (KX5.out.trans kx6)
    clear mp6 kx6
    cases is with
    | false =>
      go_wp2_with fail
      go_ret
      exact ⟨rfl, A', MP6.out, KX6.out⟩
    | true =>
      have MP6b : Hid (Mp B r (devM M D) A' w6) := MP6.out
      have KX6b : Hid (Kx r (mvF M A) (mvF (devM M D) A') w w6) := KX6.out
      clear MP6 KX6
      go_wp2_with fail
      refine (HTD.out A' _ MP6b.out).mono ?_
      rintro e w7 ⟨rfl, mp7, kx7⟩
      have MP7 := dhid mp7
      have KX7 := dhid ((KX6b.out).trans kx7)
      clear mp7 kx7
      go_wp2_with fail
      refine (HGD.out A' _ MP7.out).mono ?_
      rintro e w8 ⟨rfl, mp8, kx8⟩
      have MP8 := dhid mp8
      have KX8 := dhid (KX7.out.trans kx8)
      clear mp8 kx8
      go_wp2_with fail
      go_ret
      exact ⟨rfl, A', MP8.out, KX8.out⟩

set_option maxRecDepth 100000 in
set_option maxHeartbeats 6400000 in
theorem reach_3 (M M3 : MV) (A : MA) (B r : Nat) (pa size x : Int) (ok : Bool) (w : World) (hm : Mp B r M A w)
    (hP : ∀ w', Mp B r M A w' → Calls Tryz.prog 147 #[.pointer (some ⟨r, 0, none⟩), .int .u64 pa, .int .i64 size, .int .u64 x] w' fun e w'' => e = .returned (.bool ok) ∧ ∃ A', Mp B r M3 A' w'' ∧ Kx r (mvF M A) (mvF M3 A') w' w'') :
    Calls Tryz.prog 92 #[.pointer (some ⟨r, 0, none⟩), .int .u64 pa, .int .i64 size, .int .i64 3, .int .u64 x] w fun e w' => e = .returned (.tuple #[.int .u64 0, .bool ok]) ∧ ∃ A', Mp B r M3 A' w' ∧ Kx r (mvF M A) (mvF M3 A') w w' := by
  have HM := dhid hm
  have HP := dhid hP
  clear hm hP
  go_enter Tryz.func92, Tryz.ntmps92
  go_wp2_with fail
  refine (HP.out _ HM.out).mono ?_
  rintro e w5 ⟨rfl, A', mp5, kx5⟩
  have MP5 := dhid mp5
  have KX5 := dhid kx5
  clear mp5 kx5
  go_wp2_with fail
  refine bodyPost_ret (results_tmp2 rfl _ _ _) rfl ?_
  exact ⟨rfl, A', MP5.out, KX5.out⟩

set_option maxRecDepth 100000 in
set_option maxHeartbeats 6400000 in
theorem reach_1 (M : MV) (A : MA) (B r : Nat) (pa size x yl : Int) (ins : Bool) (w : World) (hm : Mp B r M A w)
    (hL : ∀ w', Mp B r M A w' → Calls Tryz.prog 148 #[.slice A.ar M.ram.length A.cr, .int .u64 pa, .int .i64 size] w' fun e w'' => e = .returned (.tuple #[.int .u64 yl, .bool ins]) ∧ Below w'.heap.size w' w'') :
    Calls Tryz.prog 92 #[.pointer (some ⟨r, 0, none⟩), .int .u64 pa, .int .i64 size, .int .i64 1, .int .u64 x] w fun e w' => e = .returned (.tuple #[.int .u64 (if ins = true then yl else 0), .bool (ins || false)]) ∧ ∃ A', Mp B r (if ins = true then M else M) A' w' ∧ Kx r (mvF M A) (mvF (if ins = true then M else M) A') w w' := by
  have HM := dhid hm
  have HL := dhid hL
  obtain ⟨c0, c1, c2, c3, c4, c5, c6, c7, c8, c9, c10, c11, c12, c13⟩ := cells14 hm.row
  clear hm hL
  go_enter Tryz.func92, Tryz.ntmps92
  go_wp2_with fail
  refine (HL.out _ HM.out).mono ?_
  rintro e w5 ⟨rfl, hb5⟩
  have MP5 := dhid (HM.out.below hb5)
  have KX5 := dhid (Kx.of_below (r := r) (L := mvF M A) hb5)
  clear hb5
  clear c0 c1 c2 c3 c4 c5 c6 c7 c8 c9 c10 c11 c12 c13
  obtain ⟨c0, c1, c2, c3, c4, c5, c6, c7, c8, c9, c10, c11, c12, c13⟩ := cells14 MP5.out.row
  cases ins with
  | true =>
    go_wp2_with fail
    refine bodyPost_ret (results_tmp2 rfl _ _ _) rfl ?_
    exact ⟨rfl, A, MP5.out, KX5.out⟩
  | false =>
    go_wp2_with fail
    refine bodyPost_ret (results_tmp2 rfl _ _ _) rfl ?_
    exact ⟨rfl, A, MP5.out, KX5.out⟩

set_option maxRecDepth 100000 in
set_option maxHeartbeats 6400000 in
theorem reach_2 (M : MV) (A : MA) (B r : Nat) (pa size x yl : Int) (ins : Bool) (M2 M3 : MV) (yd : Int) (is : Bool) (w : World) (hm : Mp B r M A w)
    (hL : ∀ w', Mp B r M A w' → Calls Tryz.prog 148 #[.slice A.ar M.ram.length A.cr, .int .u64 pa, .int .i64 size] w' fun e w'' => e = .returned (.tuple #[.int .u64 yl, .bool ins]) ∧ Below w'.heap.size w' w'')
    (hK : ∀ w', Mp B r M A w' → Calls Tryz.prog 149 #[.pointer (some ⟨r, 5, none⟩), .int .u64 pa, .int .i64 size] w' fun e w'' => e = .returned (.tuple #[.int .u64 yd, .bool is]) ∧ ∃ A', Mp B r M2 A' w'' ∧ Kx r (mvF M A) (mvF M2 A') w' w'')
    (hT : ∀ (A' : MA) w', Mp B r M2 A' w' → Calls Tryz.prog 150 #[.pointer (some ⟨r, 0, none⟩)] w' fun e w'' => e = .returned (.tuple #[]) ∧ Mp B r M3 A' w'' ∧ Kx r (mvF M2 A') (mvF M3 A') w' w'') :
    Calls Tryz.prog 92 #[.pointer (some ⟨r, 0, none⟩), .int .u64 pa, .int .i64 size, .int .i64 2, .int .u64 x] w fun e w' => e = .returned (.tuple #[.int .u64 (if ins = true then yl else yd), .bool (ins || is)]) ∧ ∃ A', Mp B r (if ins = true then M else M3) A' w' ∧ Kx r (mvF M A) (mvF (if ins = true then M else M3) A') w w' := by
  have HM := dhid hm
  have HL := dhid hL
  have HK := dhid hK
  have HT := dhid hT
  clear hK hT
  obtain ⟨c0, c1, c2, c3, c4, c5, c6, c7, c8, c9, c10, c11, c12, c13⟩ := cells14 hm.row
  clear hm hL
  go_enter Tryz.func92, Tryz.ntmps92
  go_wp2_with fail
  refine (HL.out _ HM.out).mono ?_
  rintro e w5 ⟨rfl, hb5⟩
  have MP5 := dhid (HM.out.below hb5)
  have KX5 := dhid (Kx.of_below (r := r) (L := mvF M A) hb5)
  clear hb5
  clear c0 c1 c2 c3 c4 c5 c6 c7 c8 c9 c10 c11 c12 c13
  obtain ⟨c0, c1, c2, c3, c4, c5, c6, c7, c8, c9, c10, c11, c12, c13⟩ := cells14 MP5.out.row
  cases ins with
  | true =>
    go_wp2_with fail
    refine bodyPost_ret (results_tmp2 rfl _ _ _) rfl ?_
    exact ⟨rfl, A, MP5.out, KX5.out⟩
  | false =>
    go_wp2_with fail
    refine (HK.out _ MP5.out).mono ?_
    rintro e w6 ⟨rfl, A', mp6, kx6⟩
    have MP6 := dhid mp6
    have KX6 := dhid (KX5.out.trans kx6)
    clear mp6 kx6
    go_wp2_with fail
    refine (HT.out A' _ MP6.out).mono ?_
    rintro e w7 ⟨rfl, mp7, kx7⟩
    have MP7 := dhid mp7
    have KX7 := dhid (KX6.out.trans kx7)
    clear mp7 kx7
    go_wp2_with fail
    refine bodyPost_ret (results_tmp2 rfl _ _ _) rfl ?_
    exact ⟨rfl, A', MP7.out, KX7.out⟩

theorem crookedCode_9 (kind : Int) (hk : kind = 1 ∨ kind = 2 ∨ kind = 3) (w : World) : Calls Tryz.prog 88 #[.int .i64 kind] w fun e w' => e = .returned (.int .i64 (if kind = 1 then 0 else if kind = 2 then 4 else 6)) ∧ w' = w := by
  rcases hk with rfl | rfl | rfl
  · go_enter Tryz.func88, Tryz.ntmps88
    go_wp2_with fail
    go_ret
    exact ⟨rfl, rfl⟩
  · go_enter Tryz.func88, Tryz.ntmps88
    go_wp2_with fail
    go_ret
    exact ⟨rfl, rfl⟩
  · go_enter Tryz.func88, Tryz.ntmps88
    go_wp2_with fail
    go_ret
    exact ⟨rfl, rfl⟩

theorem accessCode_9 (kind : Int) (hk : kind = 1 ∨ kind = 2 ∨ kind = 3) (w : World) : Calls Tryz.prog 91 #[.int .i64 kind] w fun e w' => e = .returned (.int .i64 (if kind = 2 then 5 else if kind = 3 then 7 else 1)) ∧ w' = w := by
  rcases hk with rfl | rfl | rfl
  · go_enter Tryz.func91, Tryz.ntmps91
    go_wp2_with fail
    go_ret
    exact ⟨rfl, rfl⟩
  · go_enter Tryz.func91, Tryz.ntmps91
    go_wp2_with fail
    go_ret
    exact ⟨rfl, rfl⟩
  · go_enter Tryz.func91, Tryz.ntmps91
    go_wp2_with fail
    go_ret
    exact ⟨rfl, rfl⟩

end Go.Proofs.YtilhcfhcdplicaaGreatDoor
