/- Own lemmas. -/
import Derived.Test.YtdllhjehokpefaaK01
import Derived.Deep.RegionHeld3
namespace Go.Proofs.Ytdllhjehokpefaa
open Go.RowKit
set_option linter.unusedVariables false

theorem l10Slot_any (k p addr to : Int) (w : World) (ha : 0 ≤ addr ∧ addr ≤ 18446744073709551615) (ht : 0 ≤ to ∧ to ≤ 18446744073709551615) :
    Calls Try.prog 38 #[.int .i64 k, .int .i64 p, .int .u64 addr, .int .u64 to] w fun e w' => e = .returned (kSlt k p addr to).v ∧ Below w.heap.size w w' := by
  simp only [kSlt, Slt.v]
  go_enter Try.func38, Try.ntmps38
  go_wp2_with fail
  exact bodyPost_ret (results_cell_row Try.results38 _ _ _ _ _ _ _ rfl (heap_alloc_new _ _) Try.underlying60 rfl slot_size) rfl ⟨rfl, (Below.refl _ _).alloc (Nat.le_refl _) _⟩

theorem own_base {w : World} {base n c g : Nat} {e : TypeId} {size : Nat} {xs : List Value} (h : w.ownsRow base e size (.slice (some ⟨g, 0, none⟩) n c) n xs) : base ≤ g := (h.lt g rfl).1

theorem keepS_no {ss : List Slt} {k p addr to : Int} (h : (cacheB ss && kpB k p) = false) : keepS ss k p addr to = [] := by
  unfold keepS
  rw [h]
  rfl

theorem own_none (w : World) (base : Nat) : w.ownsRow base 60 5 (.slice none 0 0) 0 (flatS []) := World.ownsRow_nil w base 60 5

set_option maxRecDepth 100000 in
set_option maxHeartbeats 3200000 in
theorem specKeep_any (a : Option Addr) (n cap : Nat) (ss : List Slt) (k p addr to : Int) (w : World) (ha : 0 ≤ addr ∧ addr ≤ 18446744073709551615) (ht : 0 ≤ to ∧ to ≤ 18446744073709551615) (hz : ss.length = n) (hn : n ≤ 1048576) (hw : Sw ss) (hs : Ss w a ss) :
    Calls Try.prog 13 #[.agg #[.slice a n cap], .int .i64 k, .int .i64 p, .int .u64 addr, .int .u64 to] w fun e w' => ∃ a' c', e = .returned (.agg #[.slice a' (keepS ss k p addr to).length c']) ∧
      w'.ownsRow w.heap.size 60 5 (.slice a' (keepS ss k p addr to).length c') (keepS ss k p addr to).length (flatS (keepS ss k p addr to)) ∧ Below w.heap.size w w' := by
  have hB2 : ∀ o1 o2, Below w.heap.size w ((w.alloc o1).alloc o2) := fun o1 o2 => ((Below.refl _ _).alloc (Nat.le_refl _) o1).alloc (by simp) o2
  have HC := dhid (fun o1 o2 => specCacheOk_any a n cap ss ((w.alloc o1).alloc o2) hz hn hw (hs.below (hB2 o1 o2)))
  have H1 := dhid (l6Kind_s k)
  have H2 := dhid (l1In_s p 0 1)
  obtain ⟨R, hR⟩ : ∃ R, keepS ss k p addr to = R := ⟨_, rfl⟩
  rw [hR]
  have no : (cacheB ss && kpB k p) = false → R = [] := fun h => by rw [← hR]; exact keepS_no h
  cases t0 : cacheB ss
  case false =>
    have F := no (by rw [t0]; rfl)
    subst F
    rw [t0] at HC
    clear no t0 hs hw hR
    go_enter Try.func13, Try.ntmps13
    go_wp2_with (first | (go_at_call 20; refine (HC.out _ _).mono ?_; rintro e w1 ⟨rfl, hb1⟩; obtain ⟨r0, r1⟩ := rows2 hb1; have q1 := row_at1 r1; have f1 := froz r1 0; have R1 := dhid r1; clear r0 r1) | (go_at_call 35; refine (H1.out _).mono ?_; rintro e w2 ⟨rfl, hw2⟩; subst w2) | (go_at_call 36; refine (H2.out _).mono ?_; rintro e w2 ⟨rfl, hw2⟩; subst w2))
    exact bodyPost_ret (results_cell_row Try.results13 _ _ _ _ _ _ _ rfl (row_set R1.out 0 (.slice none 0 0)) Try.underlying26 rfl cache_size) rfl ⟨none, 0, rfl, own_none _ _, (below_trans (hB2 _ _) hb1).setCell (by dsimp only; omega) _⟩
  cases t1 : decide (1 ≤ k ∧ k ≤ 3)
  case false =>
    have F := no (by rw [kpB, t1, t0]; rfl)
    subst F
    rw [t0] at HC
    rw [t1] at H1
    clear no t0 t1 hs hw hR
    go_enter Try.func13, Try.ntmps13
    go_wp2_with (first | (go_at_call 20; refine (HC.out _ _).mono ?_; rintro e w1 ⟨rfl, hb1⟩; obtain ⟨r0, r1⟩ := rows2 hb1; have q1 := row_at1 r1; have f1 := froz r1 0; have R1 := dhid r1; clear r0 r1) | (go_at_call 35; refine (H1.out _).mono ?_; rintro e w2 ⟨rfl, hw2⟩; subst w2) | (go_at_call 36; refine (H2.out _).mono ?_; rintro e w2 ⟨rfl, hw2⟩; subst w2))
    exact bodyPost_ret (results_cell_row Try.results13 _ _ _ _ _ _ _ rfl (row_set R1.out 0 (.slice none 0 0)) Try.underlying26 rfl cache_size) rfl ⟨none, 0, rfl, own_none _ _, (below_trans (hB2 _ _) hb1).setCell (by dsimp only; omega) _⟩
  cases t2 : decide (0 ≤ p ∧ p ≤ 1)
  case false =>
    have F := no (by rw [kpB, t1, t0, t2]; rfl)
    subst F
    rw [t0] at HC
    rw [t1] at H1
    rw [t2] at H2
    clear no t0 t1 t2 hs hw hR
    go_enter Try.func13, Try.ntmps13
    go_wp2_with (first | (go_at_call 20; refine (HC.out _ _).mono ?_; rintro e w1 ⟨rfl, hb1⟩; obtain ⟨r0, r1⟩ := rows2 hb1; have q1 := row_at1 r1; have f1 := froz r1 0; have R1 := dhid r1; clear r0 r1) | (go_at_call 35; refine (H1.out _).mono ?_; rintro e w2 ⟨rfl, hw2⟩; subst w2) | (go_at_call 36; refine (H2.out _).mono ?_; rintro e w2 ⟨rfl, hw2⟩; subst w2))
    exact bodyPost_ret (results_cell_row Try.results13 _ _ _ _ _ _ _ rfl (row_set R1.out 0 (.slice none 0 0)) Try.underlying26 rfl cache_size) rfl ⟨none, 0, rfl, own_none _ _, (below_trans (hB2 _ _) hb1).setCell (by dsimp only; omega) _⟩
  have k12 : 1 ≤ k ∧ k ≤ 3 := of_decide_eq_true t1
  have p12 : 0 ≤ p ∧ p ≤ 1 := of_decide_eq_true t2
  have h16 : n = 16 := by simp [cacheB] at t0; omega
  subst h16
  have H3 := dhid (fun w => l10Place_any k p addr k12 p12 ha w)
  have PB := plS_bd k p (addr / 4096)
  obtain ⟨q, hq⟩ : ∃ q : Nat, plS k p (addr / 4096) = (q : Int) := ⟨(plS k p (addr / 4096)).toNat, by omega⟩
  rw [hq] at H3 PB
  have LK : R = ss.set q (kSlt k p addr to) := by
    rw [← hR, keepS, t0, kpB, t1, t2, hq, Int.toNat_natCast]
    rfl
  have HL : Hid (R.length = 16) := by show R.length = 16; rw [LK, List.length_set, hz]
  have hlt : q < 16 := by omega
  have H4 := dhid (fun (w' : World) => l10Slot_any k p addr to w' ha ht)
  have HCP := dhid (fun (w' : World) (hb : Below w.heap.size w w') => l10Copy_any a 16 cap ss w' hz (by omega) (by omega) (hs.below hb))
  rw [t0] at HC
  rw [t1] at H1
  rw [t2] at H2
  rw [HL.out]
  have LKK := dhid LK
  have HZ := dhid hz
  clear no t0 t1 t2 hq LK k12 p12 hs hw hR hz
  obtain ⟨s, hss⟩ : ∃ s, kSlt k p addr to = s := ⟨_, rfl⟩
  rw [hss] at H4 LKK
  clear hss
  obtain ⟨u, sk, sp, sg, sf⟩ := s
  dsimp only [Slt.v] at H4
  go_enter Try.func13, Try.ntmps13
  go_wp2_with (first | (go_at_call 20; refine (HC.out _ _).mono ?_; rintro e w1 ⟨rfl, hb1⟩; obtain ⟨r0, r1⟩ := rows2 hb1; have q0 := row_at1 r0; have R1 := dhid r1; have B1 := dhid (below_trans (hB2 _ _) hb1); clear r0 r1 hb1) | (go_at_call 35; refine (H1.out _).mono ?_; rintro e w2 ⟨rfl, hw2⟩; subst w2) | (go_at_call 36; refine (H2.out _).mono ?_; rintro e w2 ⟨rfl, hw2⟩; subst w2) | (go_at_call 37; refine (HCP.out _ B1.out).mono ?_; rintro e w3 ⟨g, c, rfl, ow3, hb3⟩; have OW := dhid ow3; have B3 := dhid (below_trans B1.out hb3); have R3 := dhid (dstays hb3 R1.out); have hgl := own_lt ow3; have hg0 := own_base ow3; have z1 := R1.out; clear z1 ow3 hb3))
  have hsz : w.heap.size + 1 < w1.heap.size := (Array.getElem?_eq_some_iff.1 R1.out).1
  obtain ⟨W4, hW4⟩ : ∃ W, W = w3.alloc (.cells #[.slice (some ⟨g, 0, none⟩) 16 c] 26) := ⟨_, rfl⟩
  rw [← hW4]
  have r4 : W4.heap[w3.heap.size]? = some (.cells #[.slice (some ⟨g, 0, none⟩) 16 c] 26 (0, 0)) := by rw [hW4]; exact heap_alloc_new _ _
  have b4 : Below w3.heap.size w3 W4 := by rw [hW4]; exact (Below.refl _ _).alloc (Nat.le_refl _) _
  have ow4 := ownsRow_below OW.out b4
  have B4 := dhid (below_trans B3.out b4)
  have r1 := dstays b4 R3.out
  have z4 : w3.heap.size < W4.heap.size := by rw [hW4]; simp
  clear hW4 b4
  obtain ⟨O, hO⟩ : ∃ O, O = w3.heap.size := ⟨_, rfl⟩
  rw [← hO] at r4 hgl z4 ⊢
  have PW : Hid (∀ w', W4.grownBy w' (some g) → w'.cell? ⟨O, 0, none⟩ = some (.slice (some ⟨g, 0, none⟩) 16 c) ∧ W4.grownBy w' (some g)) := fun w' hb => ⟨row_at1 ((hb.block O z4 (by simp; omega)).trans r4), hb⟩
  have RM : Hid (∀ w', Below W4.heap.size W4 w' → w'.ownsRow w1.heap.size 60 5 (.slice (some ⟨g, 0, none⟩) 16 c) 16 (flatS ss)) := fun w' hb => ownsRow_below ow4 hb
  have H5 : Hid (∀ w', Below W4.heap.size W4 w' → Calls Try.prog 38 #[.int .i64 k, .int .i64 p, .int .u64 addr, .int .u64 to] w' fun e w'' => e = .returned (.agg #[.bool u, .int .i64 sk, .int .i64 sp, .int .u64 sg, .int .u64 sf]) ∧ Below W4.heap.size W4 w'') := fun w' hb => (H4.out w').mono fun e w'' h => ⟨h.1, below_trans hb h.2⟩
  have q4 := row_at1 r4
  have R4 := dhid r4
  have RR := dhid r1
  have n1 : ¬ O = g := by omega
  have n2 : ¬ g = O := by omega
  have n3 : ¬ w.heap.size + 1 = g := by omega
  have n4 : ¬ g = w.heap.size + 1 := by omega
  clear hO q0 r4 r1 ow4 OW B3 R1 R3 HC HCP H4 H1 H2
  have PG : Hid (∀ w8, Below W4.heap.size W4 w8 → W4.grownBy (((((w8.setCell ⟨g, q * 5, none⟩ (.bool u)).setCell ⟨g, q * 5 + 1, none⟩ (.int .i64 sk)).setCell ⟨g, q * 5 + 2, none⟩ (.int .i64 sp)).setCell ⟨g, q * 5 + 3, none⟩ (.int .u64 sg)).setCell ⟨g, q * 5 + 4, none⟩ (.int .u64 sf)) (some g)) := fun w8 hb => grown_trans (grown_of_below hb _) (own_put5 (RM.out _ hb) q (by have := HZ.out; omega) ⟨u, sk, sp, sg, sf⟩).2
  have g0 : W4.grownBy W4.drew (some g) := grown_of_below (Below.refl _ _).drew _
  go_region_held3 (fun w' => w'.cell? ⟨O, 0, none⟩ = some (.slice (some ⟨g, 0, none⟩) 16 c) ∧ W4.grownBy w' (some g)) (first | exact PW.out _ (by assumption)) (first | (go_at_call 39; with_reducible refine (H3.out _).mono ?_; rintro e w8 ⟨rfl, hw8⟩; subst w8) | (go_at_call 38; with_reducible refine (H5.out _ (Below.refl _ _).drew).mono ?_; rintro e w8 ⟨rfl, hb8⟩; obtain ⟨⟨f0, f1, f2, f3, f4⟩, s2, -, d0, d1, d2, d3, d4⟩ := own_room (RM.out _ hb8) q hlt; have g8 := grown_of_below hb8 (some g); have g9 := PG.out _ hb8))
  have P9 := own_put5 (RM.out _ hb8) q (by have := HZ.out; omega) ⟨u, sk, sp, sg, sf⟩
  rw [← LKK.out] at P9
  simp only [put5] at P9
  obtain ⟨W9, hW9⟩ : ∃ W, W = ((((w8.setCell ⟨g, q * 5, none⟩ (.bool u)).setCell ⟨g, q * 5 + 1, none⟩ (.int .i64 sk)).setCell ⟨g, q * 5 + 2, none⟩ (.int .i64 sp)).setCell ⟨g, q * 5 + 3, none⟩ (.int .u64 sg)).setCell ⟨g, q * 5 + 4, none⟩ (.int .u64 sf) := ⟨_, rfl⟩
  rw [← hW9] at g9 P9 ⊢
  have ow9 := dhid P9.1
  have r9 := (g9.block O z4 (by simp; omega)).trans R4.out
  have rr9 := (g9.block (w.heap.size + 1) (by have := (Array.getElem?_eq_some_iff.1 RR.out).1; omega) (by simp; omega)).trans RR.out
  have B9 := dhid (B4.out.grown g9 B4.out.size (by intro k hk; cases hk; omega))
  have R9 := dhid rr9
  have c9 := row_at1 r9
  have d9 := row_at1 rr9
  have f9 := froz rr9 0
  clear hW9 P9 r9 rr9 g9 g8 g0 PG PW RM d0 d1 d2 d3 d4 f0 f1 f2 f3 f4 hb8 q4 H3 H5
  go_wp2_with fail
  have T1 := row_set R9.out 0 (.slice (some ⟨g, 0, none⟩) 16 c)
  have O1 := own_far ow9.out ⟨w.heap.size + 1, 0, none⟩ (.slice (some ⟨g, 0, none⟩) 16 c) (by intro k hk; simp [Value.ownBlock] at hk; dsimp only; omega)
  exact bodyPost_ret (results_cell_row Try.results13 _ _ _ _ _ _ _ rfl T1 Try.underlying26 rfl cache_size) rfl ⟨_, _, rfl, own_low O1 (by omega), B9.out.setCell (by dsimp only; omega) _⟩

end Go.Proofs.Ytdllhjehokpefaa
