/- The program's caches: which are right. -/
import Derived.Test.YtdllhjehokpefaaSlM
namespace Go.Proofs.Ytdllhjehokpefaa
open Go.RowKit
set_option linter.unusedVariables false

theorem kindOk_s (k : Int) (w : World) : Calls Try.prog 31 #[.int .i64 k] w fun e w' => e = .returned (.bool (decide (1 ≤ k ∧ k ≤ 3))) ∧ w' = w := by
  obtain ⟨t, ht⟩ : ∃ t, decide (1 ≤ k ∧ k ≤ 3) = t := ⟨_, rfl⟩
  rw [ht]
  cases e1 : (k == 1)
  · cases e2 : (k == 2)
    · cases e3 : (k == 3)
      · have F := dhid (show t = false by rw [← ht]; simp at e1 e2 e3; simp; omega)
        clear ht
        go_enter Try.func31, Try.ntmps31
        go_wp2_with fail
        go_ret
        exact ⟨by rw [F.out]; rfl, rfl⟩
      · have F := dhid (show t = true by rw [← ht]; simp at e1 e2 e3; simp; omega)
        clear ht
        go_enter Try.func31, Try.ntmps31
        go_wp2_with fail
        go_ret
        exact ⟨by rw [F.out]; rfl, rfl⟩
    · have F := dhid (show t = true by rw [← ht]; simp at e1 e2; simp; omega)
      clear ht
      go_enter Try.func31, Try.ntmps31
      go_wp2_with fail
      go_ret
      exact ⟨by rw [F.out]; rfl, rfl⟩
  · have F := dhid (show t = true by rw [← ht]; simp at e1; simp; omega)
    clear ht
    go_enter Try.func31, Try.ntmps31
    go_wp2_with fail
    go_ret
    exact ⟨by rw [F.out]; rfl, rfl⟩

theorem keptPriv_any (p : Int) (w : World) : Calls Try.prog 32 #[.int .i64 p] w fun e w' => e = .returned (.bool (decide (0 ≤ p ∧ p ≤ 1))) ∧ w' = w := by
  obtain ⟨t, ht⟩ : ∃ t, decide (0 ≤ p ∧ p ≤ 1) = t := ⟨_, rfl⟩
  rw [ht]
  cases e1 : (p == 0)
  · cases e2 : (p == 1)
    · have F := dhid (show t = false by rw [← ht]; simp at e1 e2; simp; omega)
      clear ht
      go_enter Try.func32, Try.ntmps32
      go_wp2_with fail
      go_ret
      exact ⟨by rw [F.out]; rfl, rfl⟩
    · have F := dhid (show t = true by rw [← ht]; simp at e1 e2; simp; omega)
      clear ht
      go_enter Try.func32, Try.ntmps32
      go_wp2_with fail
      go_ret
      exact ⟨by rw [F.out]; rfl, rfl⟩
  · have F := dhid (show t = true by rw [← ht]; simp at e1; simp; omega)
    clear ht
    go_enter Try.func32, Try.ntmps32
    go_wp2_with fail
    go_ret
    exact ⟨by rw [F.out]; rfl, rfl⟩

theorem key_size : (Try.prog.info? 57).map (·.size) = some 3 := by kernel_rfl

/-- A slot's key, as a value. -/
def keyV (k p g : Int) : Value := .agg #[.int .i64 k, .int .i64 p, .int .u64 g]

theorem slotKey_any (s : Slt) (w : World) : Calls Try.prog 55 #[s.v] w fun e w' => e = .returned (keyV s.k s.p s.g) ∧ Below w.heap.size w w' := by
  obtain ⟨u, k, p, g, f⟩ := s
  simp only [Slt.v, keyV]
  go_enter Try.func55, Try.ntmps55
  go_wp2_with fail
  exact bodyPost_ret (results_cell_row Try.results55 _ _ _ _ _ _ _ rfl (rows2 (Below.refl _ _)).2 Try.underlying57 rfl key_size) rfl ⟨rfl, ((Below.refl _ _).alloc (Nat.le_refl _) _).alloc (by simp) _⟩

theorem keyPlace_any (k p g : Int) (hk : 1 ≤ k ∧ k ≤ 3) (hp : 0 ≤ p ∧ p ≤ 1) (h0 : 0 ≤ g) (h1 : g < 4503599627370496) (w : World) :
    Calls Try.prog 34 #[keyV k p g] w fun e w' => e = .returned (.int .u64 (plS k p g)) ∧ Below w.heap.size w w' := by
  unfold plS keyV
  go_enter Try.func34, Try.ntmps34
  go_wp2_with fail
  go_ret
  exact ⟨rfl, (Below.refl _ _).alloc (Nat.le_refl _) _⟩

set_option maxRecDepth 100000 in
set_option maxHeartbeats 1600000 in
theorem okAt_any (s : Slt) (i : Int) (hi : 0 ≤ i ∧ i ≤ 15) (hs : (0 ≤ s.g ∧ s.g ≤ 18446744073709551615) ∧ (0 ≤ s.f ∧ s.f ≤ 18446744073709551615)) (w : World) :
    Calls Try.prog 41 #[s.v, .int .u64 i] w fun e w' => e = .returned (.bool (okS s i)) ∧ Below w.heap.size w w' := by
  have hB : ∀ o, Below w.heap.size w (w.alloc o) := fun o => (Below.refl _ _).alloc (Nat.le_refl _) o
  have HK := dhid (fun w => slotKey_any s w)
  obtain ⟨u, k, p, g, f⟩ := s
  dsimp only at hs
  obtain ⟨⟨g0, g1⟩, f0, f1⟩ := hs
  dsimp only [Slt.v, keyV] at HK ⊢
  obtain ⟨t, ht⟩ : ∃ t, okS ⟨u, k, p, g, f⟩ i = t := ⟨_, rfl⟩
  rw [ht]
  cases u
  case false =>
    have dn := dhid (show decide ((⟨false, k, p, g, f⟩ : Slt) = slt0) = t by rw [← ht]; rfl)
    clear ht
    go_enter Try.func41, Try.ntmps41
    go_wp2_with (refine wpList_eqlSlt (s := ⟨false, k, p, g, f⟩) (t := slt0) rfl (.tmp 8) (.tmp 9) _ rfl rfl rfl _ dn.out ?_)
    go_ret
    exact ⟨rfl, hB _⟩
  have H1 := dhid (kindOk_s k)
  have H2 := dhid (keptPriv_any p)
  have OK : okS ⟨true, k, p, g, f⟩ i = okU ⟨true, k, p, g, f⟩ i := rfl
  rw [OK, okU] at ht
  dsimp only at ht
  clear OK
  cases t1 : decide (1 ≤ k ∧ k ≤ 3)
  case false =>
    rw [t1] at H1 ht
    have F := dhid (show t = false by rw [← ht]; rfl)
    clear ht t1
    go_enter Try.func41, Try.ntmps41
    go_wp2_with (first | (go_at_call 31; refine (H1.out _).mono ?_; rintro e w1 ⟨rfl, rfl⟩))
    go_ret
    exact ⟨by rw [F.out]; rfl, hB _⟩
  cases t2 : decide (0 ≤ p ∧ p ≤ 1)
  case false =>
    rw [t1] at H1 ht
    rw [t2] at H2 ht
    have F := dhid (show t = false by rw [← ht]; rfl)
    clear ht t1 t2
    go_enter Try.func41, Try.ntmps41
    go_wp2_with (first | (go_at_call 31; refine (H1.out _).mono ?_; rintro e w1 ⟨rfl, rfl⟩) | (go_at_call 32; refine (H2.out _).mono ?_; rintro e w1 ⟨rfl, rfl⟩))
    go_ret
    exact ⟨by rw [F.out]; rfl, hB _⟩
  have k12 : 1 ≤ k ∧ k ≤ 3 := of_decide_eq_true t1
  have p12 : 0 ≤ p ∧ p ≤ 1 := of_decide_eq_true t2
  rw [t1] at H1 ht
  rw [t2] at H2 ht
  clear t1 t2
  cases t3 : decide (g < 4503599627370496)
  case false =>
    rw [t3] at ht
    have F := dhid (show t = false by rw [← ht]; rfl)
    clear ht k12 p12
    go_enter Try.func41, Try.ntmps41
    go_wp2_with (first | (go_at_call 31; refine (H1.out _).mono ?_; rintro e w1 ⟨rfl, rfl⟩) | (go_at_call 32; refine (H2.out _).mono ?_; rintro e w1 ⟨rfl, rfl⟩))
    go_ret
    exact ⟨by rw [F.out]; rfl, hB _⟩
  cases t4 : decide (f < 4503599627370496)
  case false =>
    rw [t3, t4] at ht
    have F := dhid (show t = false by rw [← ht]; rfl)
    clear ht k12 p12
    go_enter Try.func41, Try.ntmps41
    go_wp2_with (first | (go_at_call 31; refine (H1.out _).mono ?_; rintro e w1 ⟨rfl, rfl⟩) | (go_at_call 32; refine (H2.out _).mono ?_; rintro e w1 ⟨rfl, rfl⟩))
    go_ret
    exact ⟨by rw [F.out]; rfl, hB _⟩
  have HP := dhid (fun w => keyPlace_any k p g k12 p12 g0 (of_decide_eq_true t3) w)
  dsimp only [keyV] at HP
  rw [t3, t4] at ht
  have PB := plS_bd k p g
  obtain ⟨q, hq⟩ : ∃ q, plS k p g = q := ⟨_, rfl⟩
  rw [hq] at HP ht PB
  have ht' : (q == i) = t := by rw [← ht]; rfl
  clear ht k12 p12 hq
  go_enter Try.func41, Try.ntmps41
  go_wp2_with (first | (go_at_call 31; refine (H1.out _).mono ?_; rintro e w1 ⟨rfl, rfl⟩) | (go_at_call 32; refine (H2.out _).mono ?_; rintro e w1 ⟨rfl, rfl⟩) | (go_at_call 55; refine (HK.out _).mono ?_; rintro e w2 ⟨rfl, hb2⟩) | (go_at_call 34; refine (HP.out _).mono ?_; rintro e w3 ⟨rfl, hb3⟩))
  go_ret
  exact ⟨rfl, below_trans (below_trans (hB _) hb2) hb3⟩

end Go.Proofs.Ytdllhjehokpefaa
