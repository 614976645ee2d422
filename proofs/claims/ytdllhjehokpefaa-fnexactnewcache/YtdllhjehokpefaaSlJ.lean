/- The program's CacheOk, NewCache, and copies of slots. -/
import Derived.Test.YtdllhjehokpefaaSlI
namespace Go.Proofs.Ytdllhjehokpefaa
open Go.RowKit
set_option linter.unusedVariables false

set_option maxRecDepth 100000 in
set_option maxHeartbeats 1600000 in
theorem implCacheOk_any (a : Option Addr) (n cap : Nat) (ss : List Slt) (w : World) (hz : ss.length = n) (hn : n ≤ 1048576) (hw : Sw ss) (hs : Ss w a ss) :
    Calls Try.prog 18 #[.agg #[.slice a n cap]] w fun e w' => e = .returned (.bool (cacheB ss)) ∧ Below w.heap.size w w' := by
  have HZ : Hid (ss.length = n) := hz
  by_cases h16 : n = 16
  case neg =>
    have F := dhid (show cacheB ss = false by simp [cacheB]; intro h; omega)
    have d : ((n : Int) != 16) = true := by simp; omega
    clear h16 hz hs hw
    go_enter Try.func18, Try.ntmps18
    go_wp2_with fail
    go_ret
    exact ⟨by rw [F.out]; rfl, (Below.refl _ _).alloc (Nat.le_refl _) _⟩
  subst h16
  have HS := dhid hs
  have HW := dhid hw
  clear hz hs hw
  go_enter Try.func18, Try.ntmps18
  go_wp2_with fail
  obtain ⟨W, hW⟩ : ∃ W, W = w.alloc (.cells #[.slice a 16 cap] 26) := ⟨_, rfl⟩
  rw [← hW]
  have BW := dhid (show Below w.heap.size w W by rw [hW]; exact (Below.refl _ _).alloc (Nat.le_refl _) _)
  clear hW
  go_loopw [12] (fun i wr => ∃ k : Nat, k ≤ 16 ∧ i = .int .i64 k ∧ Hid (okTo ss k = true) ∧ Below W.heap.size W wr) (fun i _ => 16 - (intOf i).toNat)
  case atStart => exact ⟨0, by omega, rfl, rfl, Below.refl _ _⟩
  case round =>
    obtain ⟨k, hk, rfl, hok, hbel⟩ := hrel
    by_cases hlt : k < 16
    · obtain ⟨s, hss⟩ : ∃ s, ss.getD k slt0 = s := ⟨_, rfl⟩
      obtain ⟨b, off, rfl, hb, c0, c1, c2, c3, c4⟩ := ((HS.out.below BW.out).below hbel).at k (by have := HZ.out; omega) s hss
      have gb : (0 ≤ s.g ∧ s.g ≤ 18446744073709551615) ∧ (0 ≤ s.f ∧ s.f ≤ 18446744073709551615) := by rw [← hss]; exact HW.out.get k
      have NXT := dhid (fun (h : okS s k = true) => show okTo ss (k + 1) = true by rw [okTo_succ, hok.out, hss, h]; rfl)
      have BAD := dhid (fun (h : okS s k = false) => show cacheB ss = false by rw [cacheB, okTo_false hlt (by rw [hss]; exact h), Bool.and_false])
      have HO := dhid (fun w => okAt_any s k (by omega) gb w)
      have HB := dhid hbel
      have HB2 := dhid (below_trans BW.out hbel)
      obtain ⟨t, ht⟩ : ∃ t, okS s k = t := ⟨_, rfl⟩
      rw [ht] at NXT BAD HO
      obtain ⟨u, kk, p, g, f⟩ := s
      dsimp only [Slt.v] at c0 c1 c2 c3 c4 HO
      clear hss hok hbel hb gb ht
      cases t
      · have BD := dhid (BAD.out rfl)
        clear NXT BAD
        go_wp2_with (first | (go_at_call 41; refine (HO.out _).mono ?_; rintro e w1 ⟨rfl, hb1⟩))
        go_ret
        exact ⟨by rw [BD.out]; rfl, below_trans (HB2.out.alloc HB2.out.size _) (hb1.mono (by simp))⟩
      · have NX := dhid (NXT.out rfl)
        clear NXT BAD
        go_wp2_with (first | (go_at_call 41; refine (HO.out _).mono ?_; rintro e w1 ⟨rfl, hb1⟩))
        go_roundw
        case rel => exact ⟨k + 1, by omega, by go_num, NX, below_trans (HB.out.alloc HB.out.size _) (hb1.mono (by simp))⟩
        case measure => simp [intOf]; omega
    · have : k = 16 := by omega
      subst this
      have F := dhid (show cacheB ss = true by rw [cacheB, hok.out, HZ.out]; rfl)
      go_wp2_with fail
      go_ret
      exact ⟨by rw [F.out]; rfl, below_trans BW.out hbel⟩

theorem implNewCache_any (w : World) : Calls Try.prog 17 #[] w fun e w' => ∃ g, e = .returned (.agg #[.slice (some ⟨g, 0, none⟩) 16 16]) ∧
    w'.ownsRow w.heap.size 60 5 (.slice (some ⟨g, 0, none⟩) 16 16) 16 (flatS (List.replicate 16 slt0)) ∧ Below w.heap.size w w' := by
  obtain ⟨i0, hi, hz0, hz1, hz2⟩ := info_parts Try.info60
  have hb2 : i0.bytes * 16 ≤ 281474976710656 := by rw [hz2]; omega
  have hb3 : 16 ≤ maxLen := by unfold maxLen; omega
  clear hz2
  go_enter Try.func17, Try.ntmps17
  go_wp2_with (at_make; refine wpList_make_full _ rfl (.const (.int .i64 16)) (.const (.int .i64 16)) 24 rfl w.heap.size 60 i0 _ 5 Try.underlying24 hi hz0 hz1 .i64 .i64 _ _ 16 rfl rfl rfl rfl hb2 hb3 (by simp) ?_; intro w1 hown hgrow; have r1 := (hgrow.block w.heap.size (by simp) (by simp)).trans (heap_alloc_new _ _); have q0 := row_at1 r1; have f0 := froz r1 0; have HG := dhid hgrow; have HO := dhid hown; have R1 := dhid r1; clear hown hgrow r1)
  have OW : w1.ownsRow w.heap.size 60 5 (.slice (some ⟨w.heap.size + 1, 0, none⟩) 16 16) 16 (flatS (List.replicate 16 slt0)) := by
    rw [← made_flat]; simpa [Value.cells] using HO.out
  have T1 := row_set R1.out 0 (.slice (some ⟨w.heap.size + 1, 0, none⟩) 16 16)
  have O1 := own_far OW ⟨w.heap.size, 0, none⟩ (.slice (some ⟨w.heap.size + 1, 0, none⟩) 16 16) (by intro k hk; simp [Value.ownBlock] at hk; dsimp only; omega)
  have B1 : Below w.heap.size w w1 := ((Below.refl _ _).alloc (Nat.le_refl _) _).grown HG.out (by simp) (by intro k h; cases h)
  exact bodyPost_ret (results_cell_row Try.results17 _ _ _ _ _ _ _ rfl T1 Try.underlying26 rfl cache_size) rfl ⟨_, rfl, O1, B1.setCell (by exact Nat.le_refl _) _⟩

theorem eql_nilS (a : Addr) (n c : Nat) (w : World) : (binOp .eql 24 (.slice (some a) n c) (.slice none 0 0)).run Try.prog w = .ok (.bool false) w := by
  simp only [binOp]
  simp [run_equal_slice_nil w 24 60 (some a) n c Try.underlying24]

set_option maxRecDepth 100000 in
theorem cloneS_any (a : Option Addr) (n cap : Nat) (ss : List Slt) (w : World) (hz : ss.length = n) (hn0 : 0 < n) (hn : n ≤ 1048576) (hs : Ss w a ss) :
    Calls Try.prog 33 #[.slice a n cap] w fun e w' => ∃ g c, e = .returned (.slice (some ⟨g, 0, none⟩) n c) ∧
      w'.ownsRow w.heap.size 60 5 (.slice (some ⟨g, 0, none⟩) n c) n (flatS ss) ∧ Below w.heap.size w w' := by
  obtain ⟨b, off, rfl, _⟩ := hs 0 (by omega)
  have hE := own_empty5 w w.heap.size (Nat.le_refl _) (.cells #[] 60 (0, 0)) rfl
  have HS := dhid (hs.below ((Below.refl _ _).alloc (Nat.le_refl _) (.cells #[] 60 (0, 0))))
  have hnil := eql_nilS ⟨b, off, none⟩ n cap
  clear hs
  go_enter Try.func33, Try.ntmps33
  go_wp2_with (at_builtin; refine wpList_app5 rfl (.tmp 5) (.tmp 6) rfl w.heap.size _ rfl hE (some ⟨b, off, none⟩) n cap ss rfl hz hn0 hn HS.out (by simp) ?_; intro g c w1 ow gr hg; have B1 := dhid (((Below.refl w.heap.size w).alloc (Nat.le_refl _) (.cells #[] 60 (0, 0))).grown gr (by simp) (by intro k hk; cases hk; exact Nat.le_refl _)); have HO := dhid ow; clear gr ow)
  go_ret
  exact ⟨g, c, rfl, HO.out, B1.out⟩

end Go.Proofs.Ytdllhjehokpefaa
