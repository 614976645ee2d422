/- The model's Drop. -/
import Derived.Test.YtdllhjehokpefaaSlV
namespace Go.Proofs.Ytdllhjehokpefaa
open Go.RowKit
set_option linter.unusedVariables false

set_option maxRecDepth 100000 in
set_option maxHeartbeats 3200000 in
theorem l10Drop_any (g cap base : Nat) (ss : List Slt) (addr : Int) (all : Bool) (w : World) (ha : 0 ≤ addr ∧ addr ≤ 18446744073709551615) (hw : Sw ss) (hown : w.ownsRow base 60 5 (.slice (some ⟨g, 0, none⟩) 16 cap) 16 (flatS ss)) :
    Calls Try.prog 47 #[.slice (some ⟨g, 0, none⟩) 16 cap, .int .u64 addr, .bool all] w fun e w' => e = .returned (.tuple #[]) ∧
      w'.ownsRow base 60 5 (.slice (some ⟨g, 0, none⟩) 16 cap) 16 (flatS (ss.map (dropOne addr all))) ∧ w.grownBy w' (some g) := by
  have HX : Hid (ss.length = 16) := by show ss.length = 16; have := hown.1; rw [flatS_len] at this; omega
  have HW := dhid hw
  have hown0 : w.ownsRow base 60 5 (.slice (some ⟨g, 0, none⟩) 16 cap) 16 (flatS (DkS ss addr all 0)) := by rw [DkS_zero]; exact hown
  clear hown hw
  go_enter Try.func47, Try.ntmps47
  go_wp2
  go_loopw [6] (fun i wr => ∃ j : Nat, j ≤ 16 ∧ i = .int .i64 j ∧ wr.ownsRow base 60 5 (.slice (some ⟨g, 0, none⟩) 16 cap) 16 (flatS (DkS ss addr all j)) ∧ w.grownBy wr (some g)) (fun i _ => 16 - (intOf i).toNat)
  case atStart => exact ⟨0, Nat.zero_le _, rfl, hown0, grown_refl _ _⟩
  case round =>
    obtain ⟨j, hj, rfl, hown, hgr⟩ := hrel
    clear hown0
    by_cases hlt : j < 16
    · obtain ⟨⟨f0, f1, f2, f3, f4⟩, s, hs, d0, d1, d2, d3, d4⟩ := own_room hown j hlt
      rw [DkS_at ss addr all 16 j HX.out hlt] at hs
      have gb := (HW.out.get j).1
      have hst := own_put5 hown j (by rw [DkS_len ss addr all 16 j HX.out hj]; exact hlt) slt0
      have KEEP := dhid (fun (h : dropOne addr all (ss.getD j slt0) = ss.getD j slt0) => DkS_same ss addr all 16 j HX.out hlt h)
      have SETS := dhid (DkS_set ss addr all 16 j HX.out hlt)
      rw [hs] at KEEP SETS gb
      have HST := dhid hst.1
      have HGR := dhid (grown_trans hgr hst.2)
      have HOW := dhid hown
      have HG0 := dhid hgr
      simp only [put5, slt0] at HST HGR
      obtain ⟨u, sk, sp, sg, sf⟩ := s
      dsimp only at d0 d1 d2 d3 d4 gb
      clear hst hown hgr hs
      cases all
      case true =>
        have N1 := dhid (show flatS ((DkS ss addr true j).set j ⟨false, 0, 0, 0, 0⟩) = flatS (DkS ss addr true (j + 1)) by rw [← SETS.out]; rfl)
        rw [N1.out] at HST
        clear KEEP SETS
        go_wp2_with fail
        go_roundw
        case rel => exact ⟨j + 1, by omega, by go_num, HST.out, HGR.out⟩
        case measure => simp [intOf]; omega
      case false =>
        cases u
        case false =>
          have N1 := dhid (KEEP.out rfl)
          clear KEEP SETS HST HGR
          go_wp2_with fail
          go_roundw
          case rel => exact ⟨j + 1, by omega, by go_num, by rw [N1.out]; exact HOW.out, HG0.out⟩
          case measure => simp [intOf]; omega
        case true =>
          cases te : (sg == addr / 4096)
          case false =>
            have N1 := dhid (KEEP.out (by simp [dropOne, te]))
            clear KEEP SETS HST HGR
            go_wp2_with fail
            go_roundw
            case rel => exact ⟨j + 1, by omega, by go_num, by rw [N1.out]; exact HOW.out, HG0.out⟩
            case measure => simp [intOf]; omega
          case true =>
            have N1 := dhid (show flatS ((DkS ss addr false j).set j ⟨false, 0, 0, 0, 0⟩) = flatS (DkS ss addr false (j + 1)) by rw [← SETS.out]; simp [dropOne, te, slt0])
            rw [N1.out] at HST
            clear KEEP SETS
            go_wp2_with fail
            go_roundw
            case rel => exact ⟨j + 1, by omega, by go_num, HST.out, HGR.out⟩
            case measure => simp [intOf]; omega
    · have : j = 16 := by omega
      subst this
      rw [DkS_end ss addr all 16 HX.out] at hown
      go_wp2
      go_end0
      exact ⟨rfl, hown, hgr⟩

set_option maxRecDepth 100000 in
set_option maxHeartbeats 3200000 in
theorem specDrop_any (a : Option Addr) (n cap : Nat) (ss : List Slt) (addr : Int) (all : Bool) (w : World) (ha : 0 ≤ addr ∧ addr ≤ 18446744073709551615) (hz : ss.length = n) (hn : n ≤ 1048576) (hw : Sw ss) (hs : Ss w a ss) :
    Calls Try.prog 26 #[.agg #[.slice a n cap], .int .u64 addr, .bool all] w fun e w' => ∃ a' c', e = .returned (.agg #[.slice a' (dropS ss addr all).length c']) ∧
      w'.ownsRow w.heap.size 60 5 (.slice a' (dropS ss addr all).length c') (dropS ss addr all).length (flatS (dropS ss addr all)) ∧ Below w.heap.size w w' := by
  have hB2 : ∀ o1 o2, Below w.heap.size w ((w.alloc o1).alloc o2) := fun o1 o2 => ((Below.refl _ _).alloc (Nat.le_refl _) o1).alloc (by simp) o2
  have HC := dhid (fun o1 o2 => specCacheOk_any a n cap ss ((w.alloc o1).alloc o2) hz hn hw (hs.below (hB2 o1 o2)))
  obtain ⟨R, hR⟩ : ∃ R, dropS ss addr all = R := ⟨_, rfl⟩
  rw [hR]
  cases t0 : cacheB ss
  case false =>
    have F : R = [] := by rw [← hR, dropS, t0]; rfl
    subst F
    rw [t0] at HC
    clear t0 hs hw hR
    go_enter Try.func26, Try.ntmps26
    go_wp2_with (first | (go_at_call 20; refine (HC.out _ _).mono ?_; rintro e w1 ⟨rfl, hb1⟩; obtain ⟨r0, r1⟩ := rows2 hb1; have q1 := row_at1 r1; have f1 := froz r1 0; have R1 := dhid r1; clear r0 r1))
    exact bodyPost_ret (results_cell_row Try.results26 _ _ _ _ _ _ _ rfl (row_set R1.out 0 (.slice none 0 0)) Try.underlying26 rfl cache_size) rfl ⟨none, 0, rfl, own_none _ _, (below_trans (hB2 _ _) hb1).setCell (by dsimp only; omega) _⟩
  have h16 : n = 16 := by simp [cacheB] at t0; omega
  subst h16
  have LK : R = ss.map (dropOne addr all) := by rw [← hR, dropS, t0]; rfl
  have HL : Hid (R.length = 16) := by show R.length = 16; rw [LK, List.length_map, hz]
  have HCP := dhid (fun (w' : World) (hb : Below w.heap.size w w') => l10Copy_any a 16 cap ss w' hz (by omega) (by omega) (hs.below hb))
  have HD := dhid (fun (g c base : Nat) (w' : World) (h : w'.ownsRow base 60 5 (.slice (some ⟨g, 0, none⟩) 16 c) 16 (flatS ss)) => l10Drop_any g c base ss addr all w' ha hw h)
  rw [t0] at HC
  rw [HL.out]
  rw [← LK] at HD
  clear t0 LK hs hw hR hz
  go_enter Try.func26, Try.ntmps26
  go_wp2_with (first | (go_at_call 20; refine (HC.out _ _).mono ?_; rintro e w1 ⟨rfl, hb1⟩; obtain ⟨r0, r1⟩ := rows2 hb1; have q0 := row_at1 r0; have R1 := dhid r1; have B1 := dhid (below_trans (hB2 _ _) hb1); clear r0 r1 hb1) | (go_at_call 37; refine (HCP.out _ B1.out).mono ?_; rintro e w3 ⟨g, c, rfl, ow3, hb3⟩; have OW := dhid ow3; have B3 := dhid (below_trans B1.out hb3); have R3 := dhid (dstays hb3 R1.out); have hgl := own_lt ow3; have hg0 := own_base ow3; clear ow3 hb3) | (go_at_call 47; refine (HD.out _ _ _ _ (OW.out.alloc _)).mono ?_))
  rintro e w5 ⟨rfl, ow5, gr5⟩
  have hsz : w.heap.size + 1 < w1.heap.size := (Array.getElem?_eq_some_iff.1 R1.out).1
  have z3 := (Array.getElem?_eq_some_iff.1 R3.out).1
  have r9 := (gr5.block w3.heap.size (by simp) (by simp; omega)).trans (heap_alloc_new _ _)
  have rr9 := ((gr5.block (w.heap.size + 1) (by simp; omega) (by simp; omega)).trans (Below.heap_alloc _ _ _ (by omega))).trans R3.out
  have B9 := dhid ((B3.out.alloc B3.out.size _).grown gr5 (by have := B3.out.size; simp; omega) (by intro k hk; cases hk; omega))
  have R9 := dhid rr9
  have c9 := row_at1 r9
  have d9 := row_at1 rr9
  have f9 := froz rr9 0
  have OW9 := dhid ow5
  clear r9 rr9 gr5 ow5 q0 OW HC HCP HD
  go_wp2_with fail
  have T1 := row_set R9.out 0 (.slice (some ⟨g, 0, none⟩) 16 c)
  have O1 := own_far OW9.out ⟨w.heap.size + 1, 0, none⟩ (.slice (some ⟨g, 0, none⟩) 16 c) (by intro k hk; simp [Value.ownBlock] at hk; dsimp only; omega)
  exact bodyPost_ret (results_cell_row Try.results26 _ _ _ _ _ _ _ rfl T1 Try.underlying26 rfl cache_size) rfl ⟨_, _, rfl, own_low O1 (by omega), B9.out.setCell (by dsimp only; omega) _⟩

end Go.Proofs.Ytdllhjehokpefaa
