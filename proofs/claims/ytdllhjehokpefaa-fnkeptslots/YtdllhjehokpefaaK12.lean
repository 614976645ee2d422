/- Own lemmas. -/
import Derived.Test.YtdllhjehokpefaaK01
import Derived.Test.YtdllhjehokpefaaK03
import Derived.Deep.RegionHeld3
import Derived.BigQuiet
namespace Go.Proofs.Ytdllhjehokpefaa
open Go.RowKit
set_option linter.unusedVariables false

set_option maxRecDepth 100000 in
set_option maxHeartbeats 1600000 in
theorem likeSlots_same (a b : Option Addr) (n ca cb : Nat) (ss : List Slt) (w : World) (hz : ss.length = n) (hn : n ≤ 1048576) (hs : Ss w a ss) (ht : Ss w b ss) :
    Calls Try.prog 12 #[.agg #[.slice a n ca], .agg #[.slice b n cb]] w fun e w' => e = .returned (.bool true) ∧ Below w.heap.size w w' := by
  have hnn : ((n : Int) != (n : Int)) = false := by simp
  have HZ : Hid (ss.length = n) := hz
  have HS := dhid hs
  have HT := dhid ht
  clear hz hs ht
  go_enter Try.func12, Try.ntmps12
  go_wp2_with fail
  obtain ⟨W, hW⟩ : ∃ W, W = (w.alloc (.cells #[.slice a n ca] 26)).alloc (.cells #[.slice b n cb] 26) := ⟨_, rfl⟩
  rw [← hW]
  have BW := dhid (show Below w.heap.size w W by rw [hW]; exact ((Below.refl _ _).alloc (Nat.le_refl _) _).alloc (by simp) _)
  have RA := dhid (show W.heap[w.heap.size]? = some (.cells #[.slice a n ca] 26 (0, 0)) by rw [hW]; exact (rows2 (Below.refl _ _)).1)
  have RB := dhid (show W.heap[w.heap.size + 1]? = some (.cells #[.slice b n cb] 26 (0, 0)) by rw [hW]; exact (rows2 (Below.refl _ _)).2)
  clear hW
  go_loopw [5] (fun i wr => ∃ k : Nat, k ≤ n ∧ i = .int .i64 k ∧ Below W.heap.size W wr) (fun i _ => n - (intOf i).toNat)
  case atStart => exact ⟨0, Nat.zero_le _, rfl, Below.refl _ _⟩
  case round =>
    obtain ⟨k, hk, rfl, hbel⟩ := hrel
    have qa := row_at1 (dstays hbel RA.out)
    have qb := row_at1 (dstays hbel RB.out)
    by_cases hlt : k < n
    · obtain ⟨s, hss⟩ : ∃ s, ss.getD k slt0 = s := ⟨_, rfl⟩
      obtain ⟨b1, o1, rfl, hb1, c0, c1, c2, c3, c4⟩ := ((HS.out.below BW.out).below hbel).at k (by have := HZ.out; omega) s hss
      obtain ⟨b2, o2, rfl, hb2, d0, d1, d2, d3, d4⟩ := ((HT.out.below BW.out).below hbel).at k (by have := HZ.out; omega) s hss
      have hne := run_sameSlt s s
      simp only [decide_true] at hne
      have hgd := slt_guard
      obtain ⟨u, kk, p, g, f⟩ := s
      dsimp only [Slt.v] at c0 c1 c2 c3 c4 d0 d1 d2 d3 d4 hne
      have HB := dhid hbel
      clear hss hbel hb1 hb2
      go_wp2_with fail
      go_quiet (fail)
      go_wp2_with fail
      go_roundw
      case rel => exact ⟨k + 1, by omega, by go_num, below_trans HB.out ⟨rfl, rfl, rfl, Nat.le_refl _, fun _ _ => rfl⟩⟩
      case measure => simp [intOf]; omega
    · have : k = n := by omega
      subst this
      go_wp2_with fail
      go_ret
      exact ⟨rfl, below_trans BW.out hbel⟩

theorem join12 (f addr : Int) (hf : 0 ≤ f) (hf2 : f < 4503599627370496) (ha : 0 ≤ addr ∧ addr ≤ 18446744073709551615) : bits .or .u64 (f * 4096) (bits .and .u64 addr 4095) = f * 4096 + addr % 4096 := by
  have h1 := and_low addr 12 ha.1 (by omega) (by omega)
  rw [show (2 : Int) ^ 12 - 1 = 4095 by decide, show (2 : Int) ^ 12 = 4096 by decide] at h1
  rw [h1]
  have h2 := or64 (f * 4096) (addr % 4096) 0 12 (by omega) (by omega) (by omega) (by omega) (by omega) (by omega)
  simpa using h2

theorem lookS_no {ss : List Slt} {k p addr : Int} (h : (cacheB ss && kpB k p) = false) : lookS ss k p addr = none := by
  unfold lookS
  rw [h]
  rfl

set_option maxRecDepth 100000 in
set_option maxHeartbeats 3200000 in
theorem specLookup_any (a : Option Addr) (n cap : Nat) (ss : List Slt) (k p addr : Int) (w : World) (ha : 0 ≤ addr ∧ addr ≤ 18446744073709551615) (hz : ss.length = n) (hn : n ≤ 1048576) (hw : Sw ss) (hs : Ss w a ss) :
    Calls Try.prog 15 #[.agg #[.slice a n cap], .int .i64 k, .int .i64 p, .int .u64 addr] w fun e w' => e = .returned (lookV (lookS ss k p addr)) ∧ Below w.heap.size w w' := by
  have hB : ∀ o, Below w.heap.size w (w.alloc o) := fun o => (Below.refl _ _).alloc (Nat.le_refl _) o
  have HC := dhid (fun o => specCacheOk_any a n cap ss (w.alloc o) hz hn hw (hs.below (hB o)))
  have H1 := dhid (l6Kind_s k)
  have H2 := dhid (l1In_s p 0 1)
  have no : (cacheB ss && kpB k p) = false → Hid (lookV (lookS ss k p addr) = .tuple #[.int .u64 0, .bool false]) := fun h => by rw [lookS_no h]; rfl
  cases t0 : cacheB ss
  case false =>
    have F := no (by rw [t0]; rfl)
    rw [t0] at HC
    clear no t0 hs hw
    go_enter Try.func15, Try.ntmps15
    go_wp2_with (first | (go_at_call 20; refine (HC.out _).mono ?_; rintro e w1 ⟨rfl, hb1⟩) | (go_at_call 35; refine (H1.out _).mono ?_; rintro e w2 ⟨rfl, rfl⟩) | (go_at_call 36; refine (H2.out _).mono ?_; rintro e w2 ⟨rfl, rfl⟩))
    go_ret2
    exact ⟨by rw [F.out]; rfl, below_trans (hB _) hb1⟩
  cases t1 : decide (1 ≤ k ∧ k ≤ 3)
  case false =>
    have F := no (by rw [kpB, t1, t0]; rfl)
    rw [t0] at HC
    rw [t1] at H1
    clear no t0 t1 hs hw
    go_enter Try.func15, Try.ntmps15
    go_wp2_with (first | (go_at_call 20; refine (HC.out _).mono ?_; rintro e w1 ⟨rfl, hb1⟩) | (go_at_call 35; refine (H1.out _).mono ?_; rintro e w2 ⟨rfl, hw2⟩; subst w2) | (go_at_call 36; refine (H2.out _).mono ?_; rintro e w2 ⟨rfl, hw2⟩; subst w2))
    go_ret2
    exact ⟨by rw [F.out]; rfl, below_trans (hB _) hb1⟩
  cases t2 : decide (0 ≤ p ∧ p ≤ 1)
  case false =>
    have F := no (by rw [kpB, t1, t0, t2]; rfl)
    rw [t0] at HC
    rw [t1] at H1
    rw [t2] at H2
    clear no t0 t1 t2 hs hw
    go_enter Try.func15, Try.ntmps15
    go_wp2_with (first | (go_at_call 20; refine (HC.out _).mono ?_; rintro e w1 ⟨rfl, hb1⟩) | (go_at_call 35; refine (H1.out _).mono ?_; rintro e w2 ⟨rfl, hw2⟩; subst w2) | (go_at_call 36; refine (H2.out _).mono ?_; rintro e w2 ⟨rfl, hw2⟩; subst w2))
    go_ret2
    exact ⟨by rw [F.out]; rfl, below_trans (hB _) hb1⟩
  have k12 : 1 ≤ k ∧ k ≤ 3 := of_decide_eq_true t1
  have p12 : 0 ≤ p ∧ p ≤ 1 := of_decide_eq_true t2
  have h16 : n = 16 := by simp [cacheB] at t0; omega
  subst h16
  have H3 := dhid (fun w => l10Place_any k p addr k12 p12 ha w)
  have LK : lookS ss k p addr = (fun s : Slt => if s.u && (s.k == k) && (s.p == p) && (s.g == addr / 4096) then some (s.f * 4096 + addr % 4096) else none) (ss.getD (plS k p (addr / 4096)).toNat slt0) := by
    unfold lookS
    rw [t0, kpB, t1, t2]
    rfl
  have PB := plS_bd k p (addr / 4096)
  obtain ⟨q, hq⟩ : ∃ q : Nat, plS k p (addr / 4096) = (q : Int) := ⟨(plS k p (addr / 4096)).toNat, by omega⟩
  rw [hq] at H3 LK PB
  have FB := fun (h : (ss.getD q slt0).u = true) => (ok_used (by simp [cacheB] at t0; exact t0.2) (show q < 16 by omega) h).2.2.1
  rw [t0] at HC
  rw [t1] at H1
  rw [t2] at H2
  rw [LK]
  clear no t0 t1 t2 hq LK k12 p12
  simp only [Int.toNat_natCast]
  obtain ⟨s, hss⟩ : ∃ s, ss.getD q slt0 = s := ⟨_, rfl⟩
  rw [hss] at FB ⊢
  obtain ⟨b, off, rfl, hb, c0, c1, c2, c3, c4⟩ := hs.at q (by omega) s hss
  obtain ⟨⟨g0, g1⟩, f0, f1⟩ : (0 ≤ s.g ∧ s.g ≤ 18446744073709551615) ∧ (0 ≤ s.f ∧ s.f ≤ 18446744073709551615) := by rw [← hss]; exact hw.get q
  have hlt : q < 16 := by omega
  have CS := dhid (fun (w' : World) (hb' : Below w.heap.size w w') => (⟨(hb'.cell (by exact hb)).trans c0, (hb'.cell (by exact hb)).trans c1, (hb'.cell (by exact hb)).trans c2, (hb'.cell (by exact hb)).trans c3, (hb'.cell (by exact hb)).trans c4⟩ : _ ∧ _ ∧ _ ∧ _ ∧ _))
  clear hs hw hss hb c0 c1 c2 c3 c4 hz hn
  obtain ⟨u, sk, sp, g, f⟩ := s
  dsimp only at g0 g1 f0 f1 FB CS ⊢
  obtain ⟨V, hV⟩ : ∃ V, V = lookV (if (u && (sk == k) && (sp == p) && (g == addr / 4096)) = true then some (f * 4096 + addr % 4096) else none) := ⟨_, rfl⟩
  rw [← hV]
  have VV := dhid hV
  clear hV
  go_enter Try.func15, Try.ntmps15
  go_wp2_with (first | (go_at_call 20; refine (HC.out _).mono ?_; rintro e w1 ⟨rfl, hb1⟩) | (go_at_call 35; refine (H1.out _).mono ?_; rintro e w2 ⟨rfl, hw2⟩; subst w2) | (go_at_call 36; refine (H2.out _).mono ?_; rintro e w2 ⟨rfl, hw2⟩; subst w2))
  have B1 := dhid (below_trans (hB _) hb1)
  have R1 := dhid (dstays hb1 (heap_alloc_new w (.cells #[.slice (some ⟨b, off, none⟩) 16 cap] 26)))
  have q0 := row_at1 R1.out
  obtain ⟨c0, c1, c2, c3, c4⟩ := CS.out _ B1.out
  have n0 := World.new_ne w1 _ q0
  have n1 := World.new_ne w1 _ c0
  dsimp only at n0 n1
  clear hb1 HC
  go_region_held3 (fun w' => w'.cell? ⟨w.heap.size, 0, none⟩ = some (.slice (some ⟨b, off, none⟩) 16 cap) ∧ w'.cell? ⟨b, off + q * 5, none⟩ = some (.bool u) ∧ w'.cell? ⟨b, off + q * 5 + 1, none⟩ = some (.int .i64 sk) ∧ w'.cell? ⟨b, off + q * 5 + 2, none⟩ = some (.int .i64 sp) ∧ w'.cell? ⟨b, off + q * 5 + 3, none⟩ = some (.int .u64 g) ∧ w'.cell? ⟨b, off + q * 5 + 4, none⟩ = some (.int .u64 f)) (go_keep) (first | (go_at_call 39; with_reducible refine (H3.out _).mono ?_; rintro e w8 ⟨rfl, hw8⟩; subst w8))
  all_goals clear c0 c1 c2 c3 c4 n0 n1 q0 H1 H2 H3 CS
  all_goals
    cases u
    · have F := dhid (show V = .tuple #[.int .u64 0, .bool false] by rw [VV.out]; rfl)
      go_wp2_with fail
      go_ret2
      exact ⟨by rw [F.out]; rfl, (B1.out.alloc B1.out.size _).drew⟩
    · cases e1 : (sk == k)
      · have e1' : (sk != k) = true := by simp [bne, e1]
        have F := dhid (show V = .tuple #[.int .u64 0, .bool false] by rw [VV.out, e1]; rfl)
        go_wp2_with fail
        go_ret2
        exact ⟨by rw [F.out]; rfl, (B1.out.alloc B1.out.size _).drew⟩
      · cases e2 : (sp == p)
        · have e1' : (sk != k) = false := by simp [bne, e1]
          have e2' : (sp != p) = true := by simp [bne, e2]
          have F := dhid (show V = .tuple #[.int .u64 0, .bool false] by rw [VV.out, e1, e2]; rfl)
          go_wp2_with fail
          go_ret2
          exact ⟨by rw [F.out]; rfl, (B1.out.alloc B1.out.size _).drew⟩
        · cases e3 : (g == addr / 4096)
          · have e1' : (sk != k) = false := by simp [bne, e1]
            have e2' : (sp != p) = false := by simp [bne, e2]
            have e3' : (g != addr / 4096) = true := by simp [bne, e3]
            have F := dhid (show V = .tuple #[.int .u64 0, .bool false] by rw [VV.out, e1, e2, e3]; rfl)
            go_wp2_with fail
            go_ret2
            exact ⟨by rw [F.out]; rfl, (B1.out.alloc B1.out.size _).drew⟩
          · have e1' : (sk != k) = false := by simp [bne, e1]
            have e2' : (sp != p) = false := by simp [bne, e2]
            have e3' : (g != addr / 4096) = false := by simp [bne, e3]
            have F := dhid (show V = .tuple #[.int .u64 (f * 4096 + addr % 4096), .bool true] by rw [VV.out, e1, e2, e3]; rfl)
            have f52 := FB rfl
            clear e3
            go_wp2_with fail
            go_ret2
            exact ⟨by rw [F.out, ← join12 f addr f0 f52 ha]; rfl, (B1.out.alloc B1.out.size _).drew⟩

end Go.Proofs.Ytdllhjehokpefaa
