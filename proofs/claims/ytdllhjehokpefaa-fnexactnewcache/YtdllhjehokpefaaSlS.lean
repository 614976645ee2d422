/- The model's caches. -/
import Derived.Test.YtdllhjehokpefaaSlM
namespace Go.Proofs.Ytdllhjehokpefaa
open Go.RowKit
set_option linter.unusedVariables false

theorem l1In_s (x a b : Int) (w : World) : Calls Try.prog 36 #[.int .i64 x, .int .i64 a, .int .i64 b] w fun e w' => e = .returned (.bool (decide (a ≤ x ∧ x ≤ b))) ∧ w' = w := by
  by_cases h1 : a ≤ x
  · have d1 : decide (a ≤ x) = true := by simpa using h1
    by_cases h2 : x ≤ b
    · have d2 : decide (x ≤ b) = true := by simpa using h2
      have F := dhid (show decide (a ≤ x ∧ x ≤ b) = true by simp [h1, h2])
      clear h1 h2
      go_enter Try.func36, Try.ntmps36
      go_wp2_with fail
      go_ret
      exact ⟨by rw [F.out]; rfl, rfl⟩
    · have d2 : decide (x ≤ b) = false := by simpa using h2
      have F := dhid (show decide (a ≤ x ∧ x ≤ b) = false by simp [h2])
      clear h1 h2
      go_enter Try.func36, Try.ntmps36
      go_wp2_with fail
      go_ret
      exact ⟨by rw [F.out]; rfl, rfl⟩
  · have d1 : decide (a ≤ x) = false := by simpa using h1
    have F := dhid (show decide (a ≤ x ∧ x ≤ b) = false by simp [h1])
    clear h1
    go_enter Try.func36, Try.ntmps36
    go_wp2_with fail
    go_ret
    exact ⟨by rw [F.out]; rfl, rfl⟩

theorem l6Kind_s (k : Int) (w : World) : Calls Try.prog 35 #[.int .i64 k] w fun e w' => e = .returned (.bool (decide (1 ≤ k ∧ k ≤ 3))) ∧ w' = w := by
  have H := dhid (l1In_s k 1 3)
  obtain ⟨t, ht⟩ : ∃ t, decide (1 ≤ k ∧ k ≤ 3) = t := ⟨_, rfl⟩
  rw [ht] at H ⊢
  clear ht
  go_enter Try.func35, Try.ntmps35
  go_wp2_with fail
  refine (H.out _).mono ?_
  rintro e w1 ⟨rfl, rfl⟩
  go_wp2_with fail
  go_ret
  exact ⟨rfl, rfl⟩

theorem l10Place_any (k p addr : Int) (hk : 1 ≤ k ∧ k ≤ 3) (hp : 0 ≤ p ∧ p ≤ 1) (ha : 0 ≤ addr ∧ addr ≤ 18446744073709551615) (w : World) :
    Calls Try.prog 39 #[.int .i64 k, .int .i64 p, .int .u64 addr] w fun e w' => e = .returned (.int .u64 (plS k p (addr / 4096))) ∧ w' = w := by
  have hk' : k = 1 ∨ k = 2 ∨ k = 3 := by omega
  have hp' : p = 0 ∨ p = 1 := by omega
  unfold plS
  have b0 : 0 ≤ addr / 4096 := by omega
  have b1 : addr / 4096 ≤ 4503599627370495 := by omega
  go_enter Try.func39, Try.ntmps39
  go_wp2_with fail
  go_ret
  exact ⟨rfl, rfl⟩

set_option maxRecDepth 100000 in
set_option maxHeartbeats 3200000 in
theorem specCacheOk_any (a : Option Addr) (n cap : Nat) (ss : List Slt) (w : World) (hz : ss.length = n) (hn : n ≤ 1048576) (hw : Sw ss) (hs : Ss w a ss) :
    Calls Try.prog 20 #[.agg #[.slice a n cap]] w fun e w' => e = .returned (.bool (cacheB ss)) ∧ Below w.heap.size w w' := by
  have HZ : Hid (ss.length = n) := hz
  by_cases h16 : n = 16
  case neg =>
    have F := dhid (show cacheB ss = false by simp [cacheB]; intro h; omega)
    have d : ((n : Int) != 16) = true := by simp; omega
    clear h16 hz hs hw
    go_enter Try.func20, Try.ntmps20
    go_wp2_with fail
    go_ret
    exact ⟨by rw [F.out]; rfl, (Below.refl _ _).alloc (Nat.le_refl _) _⟩
  subst h16
  have HS := dhid hs
  have HW := dhid hw
  clear hz hs hw
  go_enter Try.func20, Try.ntmps20
  go_wp2_with fail
  obtain ⟨W, hW⟩ : ∃ W, W = w.alloc (.cells #[.slice a 16 cap] 26) := ⟨_, rfl⟩
  rw [← hW]
  have hWB : Below w.heap.size w W := by rw [hW]; exact (Below.refl _ _).alloc (Nat.le_refl _) _
  have hWr : W.heap[w.heap.size]? = some (.cells #[.slice a 16 cap] 26 (0, 0)) := by rw [hW]; exact heap_alloc_new _ _
  clear hW
  have RW := dhid hWr
  have BW := dhid hWB
  clear hWr hWB
  go_loopw [3] (fun i wr => ∃ k : Nat, k ≤ 16 ∧ i = .int .i64 k ∧ Hid (okTo ss k = true) ∧ Below W.heap.size W wr) (fun i _ => 16 - (intOf i).toNat)
  case atStart => exact ⟨0, by omega, rfl, rfl, Below.refl _ _⟩
  case round =>
    obtain ⟨k, hk, rfl, hok, hbel⟩ := hrel
    have q0 := row_at1 (dstays hbel RW.out)
    by_cases hlt : k < 16
    · obtain ⟨s, hss⟩ : ∃ s, ss.getD k slt0 = s := ⟨_, rfl⟩
      obtain ⟨b, off, rfl, hb, c0, c1, c2, c3, c4⟩ := ((HS.out.below BW.out).below hbel).at k (by have := HZ.out; omega) s hss
      obtain ⟨⟨g0, g1⟩, f0, f1⟩ : (0 ≤ s.g ∧ s.g ≤ 18446744073709551615) ∧ (0 ≤ s.f ∧ s.f ≤ 18446744073709551615) := by rw [← hss]; exact HW.out.get k
      have NXT := dhid (fun (h : okS s k = true) => show okTo ss (k + 1) = true by rw [okTo_succ, hok.out, hss, h]; rfl)
      have BAD := dhid (fun (h : okS s k = false) => show cacheB ss = false by rw [cacheB, okTo_false hlt (by rw [hss]; exact h), Bool.and_false])
      have HB := dhid hbel
      have HB2 := dhid (below_trans BW.out hbel)
      obtain ⟨u, kk, p, g, f⟩ := s
      dsimp only at c0 c1 c2 c3 c4 g0 g1 f0 f1
      clear hss hok hbel hb
      cases u
      case false =>
        by_cases he : (⟨false, kk, p, g, f⟩ : Slt) = slt0
        · have NX := dhid (NXT.out (by rw [okS, he]; rfl))
          have dn := dhid (show (!decide ((⟨false, kk, p, g, f⟩ : Slt) = slt0)) = false by simp [he])
          clear NXT BAD he
          go_wp2_with (refine wpList_neqSlt (s := ⟨false, kk, p, g, f⟩) (t := slt0) rfl (.tmp 21) (.tmp 22) _ rfl rfl rfl _ dn.out ?_)
          go_roundw
          case rel => exact ⟨k + 1, by omega, by go_num, NX, HB.out.alloc HB.out.size _⟩
          case measure => simp [intOf]; omega
        · have BD := dhid (BAD.out (by rw [okS]; simp [he]))
          have dn := dhid (show (!decide ((⟨false, kk, p, g, f⟩ : Slt) = slt0)) = true by simp [he])
          clear NXT BAD he
          go_wp2_with (refine wpList_neqSlt (s := ⟨false, kk, p, g, f⟩) (t := slt0) rfl (.tmp 21) (.tmp 22) _ rfl rfl rfl _ dn.out ?_)
          go_ret
          exact ⟨by rw [BD.out]; rfl, HB2.out.alloc HB2.out.size _⟩
      case true =>
        have H1 := dhid (l6Kind_s kk)
        have H2 := dhid (l1In_s p 0 1)
        have OK : okS ⟨true, kk, p, g, f⟩ k = okU ⟨true, kk, p, g, f⟩ k := rfl
        rw [OK, okU] at NXT BAD
        dsimp only at NXT BAD
        clear OK
        cases t1 : decide (1 ≤ kk ∧ kk ≤ 3)
        case false =>
          rw [t1] at H1 BAD
          have H3 := dhid (fun w => l1In_s 0 0 0 w)
          have BD := dhid (BAD.out (by rfl))
          clear NXT BAD
          go_wp2_with (first | (go_at_call 35; refine (H1.out _).mono ?_; rintro e w1 ⟨rfl, rfl⟩) | (go_at_call 36; refine (H2.out _).mono ?_; rintro e w1 ⟨rfl, rfl⟩) | (go_at_call 39; refine (H3.out _).mono ?_; rintro e w1 ⟨rfl, rfl⟩))
          go_ret
          exact ⟨by rw [BD.out]; rfl, HB2.out.alloc HB2.out.size _⟩
        cases t2 : decide (0 ≤ p ∧ p ≤ 1)
        case false =>
          rw [t1] at H1 BAD
          rw [t2] at H2 BAD
          have H3 := dhid (fun w => l1In_s 0 0 0 w)
          have BD := dhid (BAD.out (by rfl))
          clear NXT BAD
          go_wp2_with (first | (go_at_call 35; refine (H1.out _).mono ?_; rintro e w1 ⟨rfl, rfl⟩) | (go_at_call 36; refine (H2.out _).mono ?_; rintro e w1 ⟨rfl, rfl⟩) | (go_at_call 39; refine (H3.out _).mono ?_; rintro e w1 ⟨rfl, rfl⟩))
          go_ret
          exact ⟨by rw [BD.out]; rfl, HB2.out.alloc HB2.out.size _⟩
        rw [t1] at H1 BAD NXT
        rw [t2] at H2 BAD NXT
        have k12 : 1 ≤ kk ∧ kk ≤ 3 := of_decide_eq_true t1
        have p12 : 0 ≤ p ∧ p ≤ 1 := of_decide_eq_true t2
        clear t1 t2
        by_cases hg : g < 4503599627370496
        case neg =>
          have dg : (g / 4503599627370496 != 0) = true := by simp; omega
          have H3 := dhid (fun w => l1In_s 0 0 0 w)
          rw [decide_eq_false hg] at BAD
          clear k12 p12
          have BD := dhid (BAD.out (by rfl))
          clear NXT BAD
          go_wp2_with (first | (go_at_call 35; refine (H1.out _).mono ?_; rintro e w1 ⟨rfl, rfl⟩) | (go_at_call 36; refine (H2.out _).mono ?_; rintro e w1 ⟨rfl, rfl⟩) | (go_at_call 39; refine (H3.out _).mono ?_; rintro e w1 ⟨rfl, rfl⟩))
          go_ret
          exact ⟨by rw [BD.out]; rfl, HB2.out.alloc HB2.out.size _⟩
        by_cases hf : f < 4503599627370496
        case neg =>
          have dg : (g / 4503599627370496 != 0) = false := by simp; omega
          have df : (f / 4503599627370496 != 0) = true := by simp; omega
          have H3 := dhid (fun w => l1In_s 0 0 0 w)
          rw [decide_eq_true hg, decide_eq_false hf] at BAD
          clear k12 p12
          have BD := dhid (BAD.out (by rfl))
          clear NXT BAD
          go_wp2_with (first | (go_at_call 35; refine (H1.out _).mono ?_; rintro e w1 ⟨rfl, rfl⟩) | (go_at_call 36; refine (H2.out _).mono ?_; rintro e w1 ⟨rfl, rfl⟩) | (go_at_call 39; refine (H3.out _).mono ?_; rintro e w1 ⟨rfl, rfl⟩))
          go_ret
          exact ⟨by rw [BD.out]; rfl, HB2.out.alloc HB2.out.size _⟩
        have dg : (g / 4503599627370496 != 0) = false := by simp; omega
        have df : (f / 4503599627370496 != 0) = false := by simp; omega
        have H3 := dhid (fun w => l10Place_any kk p (g * 4096) k12 p12 (by omega) w)
        rw [show g * 4096 / 4096 = g by omega] at H3
        rw [decide_eq_true hg, decide_eq_true hf] at BAD NXT
        have PB := plS_bd kk p g
        obtain ⟨q, hq⟩ : ∃ q, plS kk p g = q := ⟨_, rfl⟩
        rw [hq] at H3 BAD NXT PB
        clear k12 p12 hq
        cases te : (q == (k : Int))
        case false =>
          have dq : (q != (k : Int)) = true := by simp [bne, te]
          rw [te] at BAD
          clear te
          have BD := dhid (BAD.out (by rfl))
          clear NXT BAD
          go_wp2_with (first | (go_at_call 35; refine (H1.out _).mono ?_; rintro e w1 ⟨rfl, rfl⟩) | (go_at_call 36; refine (H2.out _).mono ?_; rintro e w1 ⟨rfl, rfl⟩) | (go_at_call 39; refine (H3.out _).mono ?_; rintro e w1 ⟨rfl, rfl⟩))
          go_ret
          exact ⟨by rw [BD.out]; rfl, HB2.out.alloc HB2.out.size _⟩
        have dq : (q != (k : Int)) = false := by simp [bne, te]
        rw [te] at NXT
        have NX := dhid (NXT.out rfl)
        clear te NXT BAD
        go_wp2_with (first | (go_at_call 35; refine (H1.out _).mono ?_; rintro e w1 ⟨rfl, rfl⟩) | (go_at_call 36; refine (H2.out _).mono ?_; rintro e w1 ⟨rfl, rfl⟩) | (go_at_call 39; refine (H3.out _).mono ?_; rintro e w1 ⟨rfl, rfl⟩))
        go_roundw
        case rel => exact ⟨k + 1, by omega, by go_num, NX, HB.out.alloc HB.out.size _⟩
        case measure => simp [intOf]; omega
    · have : k = 16 := by omega
      subst this
      have F := dhid (show cacheB ss = true by rw [cacheB, hok.out, HZ.out]; rfl)
      go_wp2_with fail
      go_ret
      exact ⟨by rw [F.out]; rfl, below_trans BW.out hbel⟩

end Go.Proofs.Ytdllhjehokpefaa
