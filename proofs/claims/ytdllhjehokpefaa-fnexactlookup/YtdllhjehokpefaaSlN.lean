/- The program's Lookup. -/
import Derived.Test.YtdllhjehokpefaaSlL
namespace Go.Proofs.Ytdllhjehokpefaa
open Go.RowKit
set_option linter.unusedVariables false

set_option maxRecDepth 100000 in
set_option maxHeartbeats 3200000 in
theorem implLookup_any (a : Option Addr) (n cap : Nat) (ss : List Slt) (k p addr : Int) (w : World) (ha : 0 ≤ addr ∧ addr ≤ 18446744073709551615) (hz : ss.length = n) (hn : n ≤ 1048576) (hw : Sw ss) (hs : Ss w a ss) :
    Calls Try.prog 14 #[.agg #[.slice a n cap], .int .i64 k, .int .i64 p, .int .u64 addr] w fun e w' => e = .returned (lookV (lookS ss k p addr)) ∧ Below w.heap.size w w' := by
  have hB : ∀ o, Below w.heap.size w (w.alloc o) := fun o => (Below.refl _ _).alloc (Nat.le_refl _) o
  have HC := dhid (fun o => implCacheOk_any a n cap ss (w.alloc o) hz hn hw (hs.below (hB o)))
  obtain ⟨V, hV⟩ : ∃ V, lookV (lookS ss k p addr) = V := ⟨_, rfl⟩
  rw [hV]
  cases t0 : cacheB ss
  case false =>
    have F := dhid (show V = .tuple #[.int .u64 0, .bool false] by rw [← hV]; unfold lookS; rw [t0]; rfl)
    rw [t0] at HC
    clear t0 hs hw hV
    go_enter Try.func14, Try.ntmps14
    go_wp2_with (first | (go_at_call 18; refine (HC.out _).mono ?_; rintro e w1 ⟨rfl, hb1⟩))
    go_ret2
    exact ⟨by rw [F.out]; rfl, below_trans (hB _) hb1⟩
  have h16 : n = 16 := by simp [cacheB] at t0; omega
  subst h16
  have ho : okTo ss 16 = true := by simp [cacheB] at t0; exact t0.2
  have HF := dhid (fun (w' : World) (hb : Below w.heap.size w w') => frames_any a cap ss w' hz ho (hs.below hb))
  have LK := look_eq t0 k p addr
  rw [t0] at HC
  cases hf : findS (usedTo ss 16) k p (addr / 4096) with
  | none =>
    rw [hf] at LK
    have F := dhid (show V = .tuple #[.int .u64 0, .bool false] by rw [← hV, ← LK]; rfl)
    have hlk := dhid (fun (w' : World) (bm clock : Nat) hb => run_lookF w' bm (usedTo ss 16) k p (addr / 4096) clock hb)
    rw [hf] at hlk
    simp only [keyV, Option.map_none, Option.getD_none, Option.isSome_none] at hlk
    clear t0 hs hw hV LK hf hz ho
    go_enter Try.func14, Try.ntmps14
    go_wp2_with (first | (go_at_call 18; refine (HC.out _).mono ?_; rintro e w1 ⟨rfl, hb1⟩; have B1 := dhid (below_trans (hB _) hb1); have q0 := row_at1 (dstays hb1 (heap_alloc_new _ _)); clear hb1) | (go_at_call 40; refine (HF.out _ B1.out).mono ?_; rintro e w2 ⟨bm, rfl, hm, hb2⟩; have hl := hlk.out _ _ _ hm; have B2 := dhid (below_trans B1.out hb2); clear hm hb2))
    go_ret2
    exact ⟨by rw [F.out]; rfl, B2.out⟩
  | some s =>
    rw [hf] at LK
    have hu := find_some hz ho hf
    have fb : (0 ≤ s.f ∧ s.f ≤ 18446744073709551615) ∧ s.f < 4503599627370496 := by
      have h1 := hu.2.1
      have PB := plS_bd k p (addr / 4096)
      rw [← h1]
      refine ⟨(hw.get _).2, (ok_used ho (by omega) (by rw [h1]; exact hu.2.2.1)).2.2.1⟩
    have F := dhid (show V = .tuple #[.int .u64 (s.f * 4096 + addr % 4096), .bool true] by rw [← hV, ← LK]; rfl)
    have hlk := dhid (fun (w' : World) (bm clock : Nat) hb => run_lookF w' bm (usedTo ss 16) k p (addr / 4096) clock hb)
    rw [hf] at hlk
    simp only [keyV, Option.map_some, Option.getD_some, Option.isSome_some] at hlk
    obtain ⟨su, sk, sp, sg, sf⟩ := s
    dsimp only at fb F hlk
    clear t0 hs hw hV LK hf hz ho hu
    go_enter Try.func14, Try.ntmps14
    go_wp2_with (first | (go_at_call 18; refine (HC.out _).mono ?_; rintro e w1 ⟨rfl, hb1⟩; have B1 := dhid (below_trans (hB _) hb1); have q0 := row_at1 (dstays hb1 (heap_alloc_new _ _)); clear hb1) | (go_at_call 40; refine (HF.out _ B1.out).mono ?_; rintro e w2 ⟨bm, rfl, hm, hb2⟩; have hl := hlk.out _ _ _ hm; have B2 := dhid (below_trans B1.out hb2); clear hm hb2))
    go_ret2
    exact ⟨by rw [F.out]; rfl, B2.out⟩

end Go.Proofs.Ytdllhjehokpefaa
