/- The laws' helpers over caches. -/
import Derived.Test.YtdllhjehokpefaaDevC
import Derived.Test.YtdllhjehokpefaaSlP
namespace Go.Proofs.Ytdllhjehokpefaa
open Go.RowKit
set_option linter.unusedVariables false

theorem Try.info60 : (Try.prog.info? 60).map (fun i => (i.zero, i.size, i.bytes)) = some (some (.agg #[.bool false, .int .i64 0, .int .i64 0, .int .u64 0, .int .u64 0]), 5, 40) := by kernel_rfl

theorem slot_size : (Try.prog.info? 60).map (·.size) = some 5 := by kernel_rfl

theorem cache_size : (Try.prog.info? 26).map (·.size) = some 1 := by kernel_rfl

theorem toSlot_any (s : Slt) (w : World) : Calls Try.prog 56 #[s.v] w fun e w' => e = .returned s.v ∧ Below w.heap.size w w' := by
  obtain ⟨u, k, p, g, f⟩ := s
  simp only [Slt.v]
  go_enter Try.func56, Try.ntmps56
  go_wp2
  exact bodyPost_ret (results_cell_row Try.results56 _ _ _ _ _ _ _ rfl (rows3 (Below.refl _ _)).2.1 Try.underlying60 rfl slot_size) rfl ⟨rfl, (((Below.refl _ _).alloc (Nat.le_refl _) _).alloc (by simp) _).alloc (by simp; omega) _⟩

set_option maxHeartbeats 400000 in
theorem toSlotS_any (a : Option Addr) (n cap : Nat) (ss : List Slt) (w : World) (hz : ss.length = n) (hn : n ≤ 1048576) (hs : Ss w a ss) :
    Calls Try.prog 43 #[.slice a n cap] w fun e w' => e = .returned (.slice (some ⟨w.heap.size, 0, none⟩) n n) ∧
      w'.ownsRow w.heap.size 60 5 (.slice (some ⟨w.heap.size, 0, none⟩) n n) n (flatS ss) ∧ Below w.heap.size w w' := by
  obtain ⟨i0, hi, hz0, hz1, hz2⟩ := info_parts Try.info60
  have hb2 : i0.bytes * n ≤ 281474976710656 := by rw [hz2]; omega
  have hb3 : n ≤ maxLen := by unfold maxLen; omega
  have HZ : Hid (ss.length = n) := hz
  clear hz hz2
  go_enter Try.func43, Try.ntmps43
  go_wp2_with (at_make; refine wpList_make_full _ rfl (.tmp 6) (.tmp 6) 24 rfl w.heap.size 60 i0 _ 5 Try.underlying24 hi hz0 hz1 .i64 .i64 _ _ n rfl rfl rfl rfl hb2 hb3 (Nat.le_refl _) ?_; intro w1 hown hgrow)
  have hown0 : w1.ownsRow w.heap.size 60 5 (.slice (some ⟨w.heap.size, 0, none⟩) n n) n (flatS (LkS ss n 0)) := by
    rw [LkS_zero, ← made_flat]; simpa [Value.cells] using hown
  have hb1 : Below w.heap.size w w1 := (Below.refl _ _).grown hgrow (Nat.le_refl _) (by intro k h; cases h)
  clear hown hgrow
  go_loopw [4] (fun i wr => ∃ k : Nat, k ≤ n ∧ i = .int .i64 k ∧ wr.ownsRow w.heap.size 60 5 (.slice (some ⟨w.heap.size, 0, none⟩) n n) n (flatS (LkS ss n k)) ∧ Below w.heap.size w wr)
    (fun i _ => n - (intOf i).toNat)
  case atStart => exact ⟨0, Nat.zero_le _, rfl, hown0, hb1⟩
  case round =>
    obtain ⟨k, hk, rfl, hown, hbel⟩ := hrel
    clear hown0 hb1
    by_cases hlt : k < n
    · obtain ⟨s, hss⟩ : ∃ s, ss.getD k slt0 = s := ⟨_, rfl⟩
      obtain ⟨b, off, rfl, hb, c0, c1, c2, c3, c4⟩ := (hs.below hbel).at k (by have := HZ.out; omega) s hss
      obtain ⟨u, kk, p, g, f⟩ := s
      dsimp only at c0 c1 c2 c3 c4
      go_wp2_with fail
      refine (toSlot_any ⟨u, kk, p, g, f⟩ wr).mono ?_
      rintro e w2 ⟨rfl, hb2⟩
      have hown2 := ownsRow_below hown hb2
      obtain ⟨⟨f0, f1, f2, f3, f4⟩, s2, -, d0, d1, d2, d3, d4⟩ := own_room hown2 k hlt
      have hst := own_put5 hown2 k (by rw [LkS_len _ _ _ HZ.out hk]; exact hlt) ⟨u, kk, p, g, f⟩
      rw [← hss, LkS_set _ _ _ HZ.out hlt, hss] at hst
      have HST : Hid ((put5 w2 w.heap.size k ⟨u, kk, p, g, f⟩).ownsRow w.heap.size 60 5 (.slice (some ⟨w.heap.size, 0, none⟩) n n) n (flatS (LkS ss n (k + 1)))) := hst.1
      have HB2 : Hid (Below w.heap.size w (put5 w2 w.heap.size k ⟨u, kk, p, g, f⟩)) := (below_trans hbel hb2).grown hst.2 (by have := hbel.size; have := hb2.size; omega) (by intro k h; cases h; exact Nat.le_refl _)
      clear hst hown hown2 hb2 c0 c1 c2 c3 c4 hss hs hbel hb
      simp only [Slt.v]
      go_wp2_with fail
      go_roundw
      case rel => exact ⟨k + 1, by omega, by go_num, HST, HB2⟩
      case measure => simp [intOf]; omega
    · have : k = n := by omega
      subst this
      rw [LkS_end _ _ HZ.out] at hown
      go_wp2
      go_ret
      exact ⟨rfl, hown, hbel⟩

/-- The cache that a slice of slots is. -/
def chV (a : Option Addr) (n c : Nat) : Value := .agg #[.slice a n c]

theorem row_at1 {W : World} {g : Nat} {a : Value} {t : TypeId} (h : W.heap[g]? = some (.cells #[a] t (0, 0))) : W.cell? ⟨g, 0, none⟩ = some a := by simp [World.cell?, h]

theorem toCache_any (a : Option Addr) (n cap : Nat) (ss : List Slt) (w : World) (hz : ss.length = n) (hn : n ≤ 1048576) (hs : Ss w a ss) :
    Calls Try.prog 21 #[.agg #[.slice a n cap]] w fun e w' => ∃ g, e = .returned (.agg #[.slice (some ⟨g, 0, none⟩) n n]) ∧
      w'.ownsRow w.heap.size 60 5 (.slice (some ⟨g, 0, none⟩) n n) n (flatS ss) ∧ Below w.heap.size w w' := by
  have HT : Hid (∀ w', Below w.heap.size w w' → Calls Try.prog 43 #[.slice a n cap] w' fun e w'' => e = .returned (.slice (some ⟨w'.heap.size, 0, none⟩) n n) ∧ w''.ownsRow w'.heap.size 60 5 (.slice (some ⟨w'.heap.size, 0, none⟩) n n) n (flatS ss) ∧ Below w'.heap.size w' w'') := fun w' hb => toSlotS_any a n cap ss w' hz hn (hs.below hb)
  have hB3 : ∀ o1 o2 o3, Below w.heap.size w (((w.alloc o1).alloc o2).alloc o3) := fun o1 o2 o3 => (((Below.refl _ _).alloc (Nat.le_refl _) o1).alloc (by simp) o2).alloc (by simp; omega) o3
  clear hs hz hn
  go_enter Try.func21, Try.ntmps21
  go_wp2_with fail
  refine (HT.out _ (hB3 _ _ _)).mono ?_
  rintro e w1 ⟨rfl, ow1, hb1⟩
  obtain ⟨r0, r1, r2⟩ := rows3 hb1
  have z1 := hb1.size
  simp only [World.size_alloc] at ow1 z1
  have R1 := dhid r1
  have R2 := dhid r2
  have B1 := dhid (below_trans (hB3 _ _ _) hb1)
  have q0 := row_at1 r2
  have q1 := row_at1 r1
  have f0 := froz r2 0
  have f1 := froz r1 0
  have OW := dhid ow1
  clear r0 r1 r2 ow1 hb1 HT
  go_wp2_with fail
  have T1 := row_set (row_far R1.out ⟨w.heap.size + 1 + 1, 0, none⟩ (.slice (some ⟨w.heap.size + 1 + 1 + 1, 0, none⟩) n n) (by dsimp only; omega)) 0 (.slice (some ⟨w.heap.size + 1 + 1 + 1, 0, none⟩) n n)
  have O1 := own_far (own_far OW.out ⟨w.heap.size + 1 + 1, 0, none⟩ (.slice (some ⟨w.heap.size + 1 + 1 + 1, 0, none⟩) n n) (by intro k hk; simp [Value.ownBlock] at hk; dsimp only; omega)) ⟨w.heap.size + 1, 0, none⟩ (.slice (some ⟨w.heap.size + 1 + 1 + 1, 0, none⟩) n n) (by intro k hk; simp [Value.ownBlock] at hk; dsimp only; omega)
  have B3 := (B1.out.setCell (p := ⟨w.heap.size + 1 + 1, 0, none⟩) (by dsimp only; omega) (.slice (some ⟨w.heap.size + 1 + 1 + 1, 0, none⟩) n n)).setCell (p := ⟨w.heap.size + 1, 0, none⟩) (by dsimp only; omega) (.slice (some ⟨w.heap.size + 1 + 1 + 1, 0, none⟩) n n)
  exact bodyPost_ret (results_cell_row Try.results21 _ _ _ _ _ _ _ rfl T1 Try.underlying26 rfl cache_size) rfl ⟨_, rfl, own_low O1 (by omega), B3⟩

theorem szSlotS_any (a : Option Addr) (n c : Nat) (l : Int) (w : World) (h0 : -1 ≤ l) (h1 : l ≤ 1048576) (hn : n ≤ 9223372036854775807) :
    Calls Try.prog 42 #[.slice a n c, .int .i64 l] w fun e w' => e = .returned (.int .i64 (if (n : Int) ≤ l then l - n else -1)) ∧ w' = w := by
  by_cases h : (n : Int) ≤ l
  · have d : decide (l - (n : Int) < 0) = false := by simp; omega
    rw [if_pos h]
    clear h
    go_enter Try.func42, Try.ntmps42
    go_wp2_with fail
    go_ret
    exact ⟨rfl, rfl⟩
  · have d : decide (l - (n : Int) < 0) = true := by simp; omega
    rw [if_neg h]
    clear h
    go_enter Try.func42, Try.ntmps42
    go_wp2_with fail
    go_ret
    exact ⟨rfl, rfl⟩

theorem szCache_any (a : Option Addr) (n c : Nat) (l : Int) (w : World) (h0 : 0 ≤ l) (h1 : l ≤ 1048576) (hn : n ≤ 9223372036854775807) :
    Calls Try.prog 19 #[.agg #[.slice a n c], .int .i64 l] w fun e w' => e = .returned (.int .i64 (if (n : Int) ≤ l then l - n else -1)) ∧ Below w.heap.size w w' := by
  have hB : ∀ o, Below w.heap.size w (w.alloc o) := fun o => (Below.refl _ _).alloc (Nat.le_refl _) o
  have H := dhid (fun w => szSlotS_any a n c l w (by omega) h1 hn)
  by_cases h : (n : Int) ≤ l
  · have d : decide (l - (n : Int) < 0) = false := by simp; omega
    rw [if_pos h] at H ⊢
    clear h
    go_enter Try.func19, Try.ntmps19
    go_wp2_with fail
    refine (H.out _).mono ?_
    rintro e w1 ⟨rfl, rfl⟩
    go_wp2_with fail
    go_ret
    exact ⟨rfl, hB _⟩
  · rw [if_neg h] at H ⊢
    clear h
    go_enter Try.func19, Try.ntmps19
    go_wp2_with fail
    refine (H.out _).mono ?_
    rintro e w1 ⟨rfl, rfl⟩
    go_wp2_with fail
    go_ret
    exact ⟨rfl, hB _⟩

theorem eqSlot_any (s t : Slt) (w : World) : Calls Try.prog 57 #[s.v, t.v] w fun e w' => e = .returned (.bool (decide (s = t))) ∧ Below w.heap.size w w' := by
  obtain ⟨u, k, p, g, f⟩ := s
  obtain ⟨u', k', p', g', f'⟩ := t
  simp only [Slt.v]
  have hB : ∀ o1 o2, Below w.heap.size w ((w.alloc o1).alloc o2) := fun o1 o2 => ((Below.refl _ _).alloc (Nat.le_refl _) o1).alloc (by simp) o2
  obtain ⟨d, hd⟩ : ∃ d, d = decide ((⟨u, k, p, g, f⟩ : Slt) = ⟨u', k', p', g', f'⟩) := ⟨_, rfl⟩
  rw [← hd]
  cases e1 : (u == u')
  case false =>
    have D : d = false := by rw [hd]; simp at e1; simp [e1]
    subst D
    clear hd
    go_enter Try.func57, Try.ntmps57
    go_wp2_with fail
    go_ret
    exact ⟨rfl, hB _ _⟩
  cases e2 : (k != k')
  case true =>
    have D : d = false := by rw [hd]; simp at e2; simp [e2]
    subst D
    clear hd
    go_enter Try.func57, Try.ntmps57
    go_wp2_with fail
    go_ret
    exact ⟨rfl, hB _ _⟩
  cases e3 : (p != p')
  case true =>
    have D : d = false := by rw [hd]; simp at e3; simp [e3]
    subst D
    clear hd
    go_enter Try.func57, Try.ntmps57
    go_wp2_with fail
    go_ret
    exact ⟨rfl, hB _ _⟩
  cases e4 : (g != g')
  case true =>
    have D : d = false := by rw [hd]; simp at e4; simp [e4]
    subst D
    clear hd
    go_enter Try.func57, Try.ntmps57
    go_wp2_with fail
    go_ret
    exact ⟨rfl, hB _ _⟩
  cases e5 : (f != f')
  case true =>
    have D : d = false := by rw [hd]; simp at e5; simp [e5]
    subst D
    clear hd
    go_enter Try.func57, Try.ntmps57
    go_wp2_with fail
    go_ret
    exact ⟨rfl, hB _ _⟩
  have D : d = true := by rw [hd]; simp at e1 e2 e3 e4 e5; simp [e1, e2, e3, e4, e5]
  subst D
  clear hd
  go_enter Try.func57, Try.ntmps57
  go_wp2_with fail
  go_ret
  exact ⟨rfl, hB _ _⟩

end Go.Proofs.Ytdllhjehokpefaa
