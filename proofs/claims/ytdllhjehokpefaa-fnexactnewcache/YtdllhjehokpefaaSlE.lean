/- Caches compared; what is the same is found the same. -/
import Derived.Test.YtdllhjehokpefaaSlC
import Derived.Deep.RegionHeld3
namespace Go.Proofs.Ytdllhjehokpefaa
open Go.RowKit
set_option linter.unusedVariables false

theorem eqSlot_same (s : Slt) (w : World) : Calls Try.prog 57 #[s.v, s.v] w fun e w' => e = .returned (.bool true) ∧ Below w.heap.size w w' :=
  (eqSlot_any s s w).mono fun e w' h => ⟨by rw [h.1]; simp, h.2⟩

set_option maxRecDepth 100000 in
set_option maxHeartbeats 1600000 in
theorem eqSlotS_same (a b : Option Addr) (n ca cb : Nat) (ss : List Slt) (w : World) (hz : ss.length = n) (hn : n ≤ 1048576) (hs : Ss w a ss) (ht : Ss w b ss) :
    Calls Try.prog 44 #[.slice a n ca, .slice b n cb] w fun e w' => e = .returned (.bool true) ∧ Below w.heap.size w w' := by
  have hnn : ((n : Int) != (n : Int)) = false := by simp
  have HZ : Hid (ss.length = n) := hz
  have HS := dhid hs
  have HT := dhid ht
  clear hz hs ht
  go_enter Try.func44, Try.ntmps44
  go_wp2_with fail
  go_loopw [5] (fun i wr => ∃ k : Nat, k ≤ n ∧ i = .int .i64 k ∧ Below w.heap.size w wr) (fun i _ => n - (intOf i).toNat)
  case atStart => exact ⟨0, Nat.zero_le _, rfl, Below.refl _ _⟩
  case round =>
    obtain ⟨k, hk, rfl, hbel⟩ := hrel
    by_cases hlt : k < n
    · obtain ⟨s, hss⟩ : ∃ s, ss.getD k slt0 = s := ⟨_, rfl⟩
      obtain ⟨b1, o1, rfl, hb1, c0, c1, c2, c3, c4⟩ := (HS.out.below hbel).at k (by have := HZ.out; omega) s hss
      obtain ⟨b2, o2, rfl, hb2, d0, d1, d2, d3, d4⟩ := (HT.out.below hbel).at k (by have := HZ.out; omega) s hss
      have HE := dhid (fun (w' : World) (hb : Below wr.heap.size wr w') => (eqSlot_same s w').mono fun e w'' h => (⟨h.1, below_trans hb h.2⟩ : e = .returned (.bool true) ∧ Below wr.heap.size wr w''))
      obtain ⟨u, kk, p, g, f⟩ := s
      dsimp only [Slt.v] at c0 c1 c2 c3 c4 d0 d1 d2 d3 d4 HE
      have PW : Hid (∀ w', Below wr.heap.size wr w' → (w'.cell? ⟨b1, o1 + k * 5, none⟩ = some (.bool u) ∧ w'.cell? ⟨b1, o1 + k * 5 + 1, none⟩ = some (.int .i64 kk) ∧ w'.cell? ⟨b1, o1 + k * 5 + 2, none⟩ = some (.int .i64 p) ∧ w'.cell? ⟨b1, o1 + k * 5 + 3, none⟩ = some (.int .u64 g) ∧ w'.cell? ⟨b1, o1 + k * 5 + 4, none⟩ = some (.int .u64 f)) ∧ (w'.cell? ⟨b2, o2 + k * 5, none⟩ = some (.bool u) ∧ w'.cell? ⟨b2, o2 + k * 5 + 1, none⟩ = some (.int .i64 kk) ∧ w'.cell? ⟨b2, o2 + k * 5 + 2, none⟩ = some (.int .i64 p) ∧ w'.cell? ⟨b2, o2 + k * 5 + 3, none⟩ = some (.int .u64 g) ∧ w'.cell? ⟨b2, o2 + k * 5 + 4, none⟩ = some (.int .u64 f)) ∧ Below wr.heap.size wr w') := fun w' hb => ⟨⟨(hb.cell (by exact hb1)).trans c0, (hb.cell (by exact hb1)).trans c1, (hb.cell (by exact hb1)).trans c2, (hb.cell (by exact hb1)).trans c3, (hb.cell (by exact hb1)).trans c4⟩, ⟨(hb.cell (by exact hb2)).trans d0, (hb.cell (by exact hb2)).trans d1, (hb.cell (by exact hb2)).trans d2, (hb.cell (by exact hb2)).trans d3, (hb.cell (by exact hb2)).trans d4⟩, hb⟩
      have HB := dhid hbel
      clear hss hbel hb1 hb2
      go_wp2_with fail
      go_region_held3 (fun w' => (w'.cell? ⟨b1, o1 + k * 5, none⟩ = some (.bool u) ∧ w'.cell? ⟨b1, o1 + k * 5 + 1, none⟩ = some (.int .i64 kk) ∧ w'.cell? ⟨b1, o1 + k * 5 + 2, none⟩ = some (.int .i64 p) ∧ w'.cell? ⟨b1, o1 + k * 5 + 3, none⟩ = some (.int .u64 g) ∧ w'.cell? ⟨b1, o1 + k * 5 + 4, none⟩ = some (.int .u64 f)) ∧ (w'.cell? ⟨b2, o2 + k * 5, none⟩ = some (.bool u) ∧ w'.cell? ⟨b2, o2 + k * 5 + 1, none⟩ = some (.int .i64 kk) ∧ w'.cell? ⟨b2, o2 + k * 5 + 2, none⟩ = some (.int .i64 p) ∧ w'.cell? ⟨b2, o2 + k * 5 + 3, none⟩ = some (.int .u64 g) ∧ w'.cell? ⟨b2, o2 + k * 5 + 4, none⟩ = some (.int .u64 f)) ∧ Below wr.heap.size wr w') (first | exact PW.out _ (by assumption) | exact PW.out _ (Below.refl _ _).drew) (first | (go_at_call 57; with_reducible refine (HE.out _ ?_).mono ?_; (first | assumption | (exact And.right (And.right (by assumption)))); rintro e w8 ⟨rfl, hb8⟩))
      obtain ⟨w9, hw9⟩ : ∃ w', w' = w8 := ⟨_, rfl⟩
      rw [← hw9] at hb8 ⊢
      clear hw9 PW HE c0 c1 c2 c3 c4 d0 d1 d2 d3 d4
      have B9 := dhid (below_trans HB.out hb8)
      go_wp2_with fail
      go_roundw
      case rel => exact ⟨k + 1, by omega, by go_num, B9.out⟩
      case measure => simp [intOf]; omega
    · have : k = n := by omega
      subst this
      go_wp2_with fail
      go_ret
      exact ⟨rfl, hbel⟩

theorem eqCache_same (a b : Option Addr) (n ca cb : Nat) (ss : List Slt) (w : World) (hz : ss.length = n) (hn : n ≤ 1048576) (hs : Ss w a ss) (ht : Ss w b ss) :
    Calls Try.prog 22 #[.agg #[.slice a n ca], .agg #[.slice b n cb]] w fun e w' => e = .returned (.bool true) ∧ Below w.heap.size w w' := by
  have hB : ∀ o1 o2, Below w.heap.size w ((w.alloc o1).alloc o2) := fun o1 o2 => ((Below.refl _ _).alloc (Nat.le_refl _) o1).alloc (by simp) o2
  have HE := dhid (fun (w' : World) (hb : Below w.heap.size w w') => eqSlotS_same a b n ca cb ss w' hz hn (hs.below hb) (ht.below hb))
  clear hs ht hz hn
  go_enter Try.func22, Try.ntmps22
  go_wp2_with fail
  refine (HE.out _ (hB _ _)).mono ?_
  rintro e w1 ⟨rfl, hb1⟩
  go_wp2_with fail
  go_ret
  exact ⟨rfl, below_trans (hB _ _) hb1⟩

set_option maxHeartbeats 1600000 in
theorem markSlotS_any (a : Option Addr) (n cap base : Nat) (k : Int) (ss : List Slt) (w : World) (hn : n ≤ 1048576) (hk0 : 0 ≤ k) (hk1 : k ≤ 1099511627776)
    (hown : w.ownsRow base 60 5 (.slice a n cap) n (flatS ss)) :
    Calls Try.prog 45 #[.slice a n cap, .int .i64 k] w fun e w' => e = .returned (.int .i64 (k + 5 * n)) ∧
      w'.ownsRow base 60 5 (.slice a n cap) n (flatS (marksS k n)) ∧ w.grownBy w' (Value.slice a n cap).ownBlock := by
  have HX : Hid (ss.length = n) := by show ss.length = n; have := hown.1; rw [flatS_len] at this; omega
  rcases hown.2 with ⟨h2, h3⟩ | ⟨g, cap', cur, hv, hg, _⟩
  · simp only [Value.slice.injEq] at h2
    obtain ⟨rfl, rfl, rfl⟩ := h2
    have hx0 : ss = [] := List.eq_nil_of_length_eq_zero HX.out
    subst hx0
    go_enter Try.func45, Try.ntmps45
    go_wp2
    refine wp_loop_rounds 1 ?_
    rw [rounds_succ]
    go_wp2
    go_ret
    exact ⟨by simp, hown, ⟨rfl, rfl, rfl, Nat.le_refl _, fun _ _ _ => rfl⟩⟩
  · simp only [Value.slice.injEq, true_and] at hv
    obtain ⟨rfl, rfl⟩ := hv
    have hown0 : w.ownsRow base 60 5 (.slice (some ⟨g, 0, none⟩) n cap) n (flatS (MkS ss k n 0)) := by rw [MkS_zero]; exact hown
    clear hown
    go_enter Try.func45, Try.ntmps45
    go_wp2
    go_loopw [1, 5] (fun c i wr => ∃ j : Nat, j ≤ n ∧ i = .int .i64 j ∧ c = .int .i64 (k + 5 * j) ∧ wr.ownsRow base 60 5 (.slice (some ⟨g, 0, none⟩) n cap) n (flatS (MkS ss k n j)) ∧ w.grownBy wr (some g))
      (fun _ i _ => n - (intOf i).toNat)
    case atStart => exact ⟨0, Nat.zero_le _, rfl, by simp, hown0, ⟨rfl, rfl, rfl, Nat.le_refl _, fun _ _ _ => rfl⟩⟩
    case round =>
      obtain ⟨j, hj, rfl, rfl, hown, hgr⟩ := hrel
      clear hown0
      by_cases hlt : j < n
      · obtain ⟨⟨f0, f1, f2, f3, f4⟩, s2, -, d0, d1, d2, d3, d4⟩ := own_room hown j hlt
        obtain ⟨K, hK⟩ : ∃ K : Int, K = k + 5 * (j : Int) := ⟨_, rfl⟩
        have hK0 : 0 ≤ K := by omega
        have hK1 : K ≤ 1099516870656 := by omega
        have hst := own_put5 hown j (by rw [MkS_len _ _ _ _ HX.out hj]; exact hlt) (mkS (k + 5 * (j : Int)))
        rw [MkS_set _ _ _ _ HX.out hlt, ← hK] at hst
        rw [← hK]
        have HST := dhid hst.1
        have HGR := dhid (grown_trans hgr hst.2)
        have HKK := dhid hK
        simp only [mkS, put5] at HST HGR
        clear hst hown hgr hK
        go_wp2_with fail
        go_roundw
        case rel => exact ⟨j + 1, by omega, by go_num, by rw [HKK.out]; go_num, HST.out, HGR.out⟩
        case measure => simp [intOf]; omega
      · have : j = n := by omega
        subst this
        rw [MkS_end _ _ _ HX.out] at hown
        go_wp2
        go_ret
        exact ⟨rfl, hown, hgr⟩

theorem markCache_any (a : Option Addr) (n cap base : Nat) (k : Int) (ss : List Slt) (w : World) (hn : n ≤ 1048576) (hk0 : 0 ≤ k) (hk1 : k ≤ 1099511627776)
    (hown : w.ownsRow base 60 5 (.slice a n cap) n (flatS ss)) :
    Calls Try.prog 24 #[.agg #[.slice a n cap], .int .i64 k] w fun e w' => e = .returned (.int .i64 (k + 5 * n)) ∧
      w'.ownsRow base 60 5 (.slice a n cap) n (flatS (marksS k n)) ∧ w.grownBy w' (Value.slice a n cap).ownBlock := by
  have HM := dhid (fun (o : Obj) => markSlotS_any a n cap base k ss (w.alloc o) hn hk0 hk1 (hown.alloc o))
  have hG : ∀ o, w.grownBy (w.alloc o) (Value.slice a n cap).ownBlock := fun o => World.grownBy_alloc w o _
  clear hown hn hk0 hk1
  go_enter Try.func24, Try.ntmps24
  go_wp2_with fail
  refine (HM.out _).mono ?_
  rintro e w1 ⟨rfl, ow, hg⟩
  go_wp2_with fail
  go_ret
  exact ⟨rfl, ow, grown_trans (hG _) hg⟩

/-- What was marked is held. -/
theorem heldSlotS_any (a : Option Addr) (n cap : Nat) (k : Int) (w : World) (hn : n ≤ 1048576) (hk0 : 0 ≤ k) (hk1 : k ≤ 1099511627776) (hs : Ss w a (marksS k n)) :
    Calls Try.prog 46 #[.slice a n cap, .int .i64 k] w fun e w' => e = .returned (.int .i64 (k + 5 * n)) ∧ w' = w := by
  have HS := dhid hs
  clear hs
  go_enter Try.func46, Try.ntmps46
  go_wp2
  go_loop [1, 5] (fun c i => ∃ j : Nat, j ≤ n ∧ i = .int .i64 j ∧ c = .int .i64 (k + 5 * j)) (fun _ i => n - (intOf i).toNat)
  case atStart => exact ⟨0, Nat.zero_le _, rfl, by simp⟩
  case round =>
    obtain ⟨j, hj, rfl, rfl⟩ := hrel
    by_cases hlt : j < n
    · obtain ⟨b, off, rfl, hb, c0, c1, c2, c3, c4⟩ := HS.out.at j (by rw [marksS_len]; exact hlt) _ (marksS_get k n j hlt)
      obtain ⟨K, hK⟩ : ∃ K : Int, K = k + 5 * (j : Int) := ⟨_, rfl⟩
      have hK0 : 0 ≤ K := by omega
      have hK1 : K ≤ 1099516870656 := by omega
      rw [← hK] at c0 c1 c2 c3 c4 ⊢
      have HKK := dhid hK
      dsimp only [mkS] at c0 c1 c2 c3 c4
      clear hK HS
      obtain ⟨t, ht⟩ : ∃ t, (K % 3 == 0) = t := ⟨_, rfl⟩
      rw [ht] at c0
      have e0 : (t == t) = true := by simp
      have e1 : (K + 1 != K + 1) = false := by simp
      have e2 : (K + 1 + 1 != K + 1 + 1) = false := by simp
      have e3 : (K + 1 + 1 + 1 != K + 1 + 1 + 1) = false := by simp
      have e4 : (K + 1 + 1 + 1 + 1 != K + 1 + 1 + 1 + 1) = false := by simp
      go_wp2_with fail
      go_round
      case rel => exact ⟨j + 1, by omega, by go_num, by rw [HKK.out]; go_num⟩
      case measure => simp [intOf]; omega
    · have : j = n := by omega
      subst this
      go_wp2
      go_ret
      exact ⟨rfl, rfl⟩

theorem heldCache_any (a : Option Addr) (n cap : Nat) (k : Int) (w : World) (hn : n ≤ 1048576) (hk0 : 0 ≤ k) (hk1 : k ≤ 1099511627776) (hs : Ss w a (marksS k n)) :
    Calls Try.prog 25 #[.agg #[.slice a n cap], .int .i64 k] w fun e w' => e = .returned (.int .i64 (k + 5 * n)) ∧ Below w.heap.size w w' := by
  have hB : ∀ o, Below w.heap.size w (w.alloc o) := fun o => (Below.refl _ _).alloc (Nat.le_refl _) o
  have HM := dhid (fun (w' : World) (hb : Below w.heap.size w w') => heldSlotS_any a n cap k w' hn hk0 hk1 (hs.below hb))
  have d : decide (k + 5 * (n : Int) < 0) = false := by simp; omega
  clear hs hn hk1
  go_enter Try.func25, Try.ntmps25
  go_wp2_with fail
  refine (HM.out _ (hB _)).mono ?_
  rintro e w1 ⟨rfl, rfl⟩
  go_wp2_with fail
  go_ret
  exact ⟨rfl, hB _⟩

end Go.Proofs.Ytdllhjehokpefaa
