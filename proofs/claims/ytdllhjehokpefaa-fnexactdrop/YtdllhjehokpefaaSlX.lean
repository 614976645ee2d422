/- The program's Drop. -/
import Derived.Test.YtdllhjehokpefaaSlO
namespace Go.Proofs.Ytdllhjehokpefaa
open Go.RowKit
set_option linter.unusedVariables false

theorem wpList_clearS {ops : Array Oper} {rest : List Oper} {o : Oper} {A : Act} {w : World} {Q : Exit → Act → World → Prop} (hgd : o.guard = none) (x : Operand) (ho : o.op = .call { callee := .builtin .clear, args := #[x], argTypes := #[24] })
    {base g n cap : Nat} {ss : List Slt} (hown : w.ownsRow base 60 5 (.slice (some ⟨g, 0, none⟩) n cap) n (flatS ss)) (i m c : Nat) (hm : 0 < m) (him : i + m ≤ n) (hx : A.eval x = .slice (some ⟨g, i * 5, none⟩) m c)
    (h : ∀ w', w'.ownsRow base 60 5 (.slice (some ⟨g, 0, none⟩) n cap) n (flatS (zeroed ss i m)) → w.grownBy w' (some g) → wpList Try.prog ops Q rest (A.put o.dst (.tuple #[])) w') : wpList Try.prog ops Q (o :: rest) A w := by
  refine wpList_plain hgd fun K hK => ?_
  obtain ⟨w', hr, h1, h2⟩ := run_clear_own hown i m c o.type hm him
  unfold Oper.wp execOp
  simp only [ho, resolve, invoke, builtin, Sem.run_bind, Sem.run_pure, Result.andThen_ok, List.map_toArray, List.map_cons, List.map_nil, hx, hr]
  exact hK _ _ (h w' h1 h2)

set_option maxRecDepth 100000 in
set_option maxHeartbeats 3200000 in
theorem implDrop_any (a : Option Addr) (n cap : Nat) (ss : List Slt) (addr : Int) (all : Bool) (w : World) (ha : 0 ≤ addr ∧ addr ≤ 18446744073709551615) (hz : ss.length = n) (hn : n ≤ 1048576) (hw : Sw ss) (hs : Ss w a ss) :
    Calls Try.prog 16 #[.agg #[.slice a n cap], .int .u64 addr, .bool all] w fun e w' => ∃ a' c', e = .returned (.agg #[.slice a' (dropS ss addr all).length c']) ∧
      w'.ownsRow w.heap.size 60 5 (.slice a' (dropS ss addr all).length c') (dropS ss addr all).length (flatS (dropS ss addr all)) ∧ Below w.heap.size w w' := by
  have hB2 : ∀ o1 o2, Below w.heap.size w ((w.alloc o1).alloc o2) := fun o1 o2 => ((Below.refl _ _).alloc (Nat.le_refl _) o1).alloc (by simp) o2
  have HC := dhid (fun o1 o2 => implCacheOk_any a n cap ss ((w.alloc o1).alloc o2) hz hn hw (hs.below (hB2 o1 o2)))
  obtain ⟨R, hR⟩ : ∃ R, dropS ss addr all = R := ⟨_, rfl⟩
  rw [hR]
  cases t0 : cacheB ss
  case false =>
    have F : R = [] := by rw [← hR, dropS, t0]; rfl
    subst F
    rw [t0] at HC
    clear t0 hs hw hR
    go_enter Try.func16, Try.ntmps16
    go_wp2_with (first | (go_at_call 18; refine (HC.out _ _).mono ?_; rintro e w1 ⟨rfl, hb1⟩; obtain ⟨r0, r1⟩ := rows2 hb1; have q1 := row_at1 r1; have f1 := froz r1 0; have R1 := dhid r1; clear r0 r1))
    exact bodyPost_ret (results_cell_row Try.results16 _ _ _ _ _ _ _ rfl (row_set R1.out 0 (.slice none 0 0)) Try.underlying26 rfl cache_size) rfl ⟨none, 0, rfl, own_noneI _ _, (below_trans (hB2 _ _) hb1).setCell (by dsimp only; omega) _⟩
  have h16 : n = 16 := by simp [cacheB] at t0; omega
  subst h16
  have ho : okTo ss 16 = true := by simp [cacheB] at t0; exact t0.2
  have LK : R = ss.map (dropOne addr all) := by rw [← hR, dropS, t0]; rfl
  have HL : Hid (R.length = 16) := by show R.length = 16; rw [LK, List.length_map, hz]
  have HCP := dhid (fun (w' : World) (hb : Below w.heap.size w w') => cloneS_any a 16 cap ss w' hz (by omega) (by omega) (hs.below hb))
  rw [t0] at HC
  rw [HL.out]
  have HO := dhid ho
  have LKK := dhid LK
  have HZ := dhid hz
  have HW := dhid hw
  clear t0 LK hs hw hR hz ho
  cases all
  case true =>
    have LA := dhid (show zeroed ss 0 16 = R by rw [LKK.out, dropS_all, zeroed_all ss 16 HZ.out, HZ.out])
    go_enter Try.func16, Try.ntmps16
    go_wp2_with (first | (go_at_call 18; refine (HC.out _ _).mono ?_; rintro e w1 ⟨rfl, hb1⟩; obtain ⟨r0, r1⟩ := rows2 hb1; have q0 := row_at1 r0; have R1 := dhid r1; have B1 := dhid (below_trans (hB2 _ _) hb1); clear r0 r1 hb1) | (go_at_call 33; refine (HCP.out _ B1.out).mono ?_; rintro e w3 ⟨g, c, rfl, ow3, hb3⟩; have OW := dhid ow3; have B3 := dhid (below_trans B1.out hb3); have R3 := dhid (dstays hb3 R1.out); have hgl := own_lt ow3; have hg0 := own_base2 ow3; clear ow3 hb3) | (refine wpList_clearS rfl (.tmp 19) rfl OW.out 0 16 c (by omega) (by omega) rfl ?_; intro w5 ow5 gr5; have rr9 := (gr5.block (w.heap.size + 1) (Array.getElem?_eq_some_iff.1 R3.out).1 (by have := (Array.getElem?_eq_some_iff.1 R1.out).1; simp; omega)).trans R3.out; have R9 := dhid rr9; have d9 := row_at1 rr9; have f9 := froz rr9 0; have OW9 := dhid ow5; have GR := dhid gr5; clear ow5 gr5 rr9))
    have hsz : w.heap.size + 1 < w1.heap.size := (Array.getElem?_eq_some_iff.1 R1.out).1
    rw [LA.out] at OW9
    have B9 := B3.out.grown GR.out B3.out.size (by intro k hk; cases hk; omega)
    have T1 := row_set R9.out 0 (.slice (some ⟨g, 0, none⟩) 16 c)
    have O1 := own_far OW9.out ⟨w.heap.size + 1, 0, none⟩ (.slice (some ⟨g, 0, none⟩) 16 c) (by intro k hk; simp [Value.ownBlock] at hk; dsimp only; omega)
    exact bodyPost_ret (results_cell_row Try.results16 _ _ _ _ _ _ _ rfl T1 Try.underlying26 rfl cache_size) rfl ⟨_, _, rfl, own_low O1 (by omega), B9.setCell (by dsimp only; omega) _⟩
  case false =>
    go_enter Try.func16, Try.ntmps16
    go_wp2_with (first | (go_at_call 18; refine (HC.out _ _).mono ?_; rintro e w1 ⟨rfl, hb1⟩; obtain ⟨r0, r1⟩ := rows2 hb1; have q0 := row_at1 r0; have R1 := dhid r1; have B1 := dhid (below_trans (hB2 _ _) hb1); clear r0 r1 hb1) | (go_at_call 33; refine (HCP.out _ B1.out).mono ?_; rintro e w3 ⟨g, c, rfl, ow3, hb3⟩; have OW := dhid ow3; have B3 := dhid (below_trans B1.out hb3); have R3 := dhid (dstays hb3 R1.out); have hgl := own_lt ow3; have hg0 := own_base2 ow3; clear ow3 hb3))
    have hsz : w.heap.size + 1 < w1.heap.size := (Array.getElem?_eq_some_iff.1 R1.out).1
    have hown0 := OW.out
    rw [← DkS_zero ss addr false] at hown0
    have hcap : 16 ≤ c := by
      rcases OW.out.2 with ⟨h, _⟩ | ⟨g', c', cur, h, _, _, h4, _⟩
      · cases h
      · simp only [Value.slice.injEq, Option.some.injEq, Addr.mk.injEq, and_true, true_and] at h
        omega
    have H0 := dhid hown0
    clear hown0 q0 HC HCP
    obtain ⟨base, hbase⟩ : ∃ base, base = w1.heap.size := ⟨_, rfl⟩
    rw [← hbase] at H0
    have hbs : w.heap.size + 1 < base := by omega
    clear hbase
    go_loopw [26] (fun i wr => ∃ j : Nat, j ≤ 16 ∧ i = .int .i64 j ∧ wr.ownsRow base 60 5 (.slice (some ⟨g, 0, none⟩) 16 c) 16 (flatS (DkS ss addr false j)) ∧ w3.grownBy wr (some g)) (fun i _ => 16 - (intOf i).toNat)
    case atStart => exact ⟨0, Nat.zero_le _, rfl, H0.out, grown_refl _ _⟩
    case round =>
      obtain ⟨j, hj, rfl, hown, hgr⟩ := hrel
      by_cases hlt : j < 16
      · obtain ⟨⟨f0, f1, f2, f3, f4⟩, s, hs, d0, d1, d2, d3, d4⟩ := own_room hown j hlt
        rw [DkS_at ss addr false 16 j HZ.out hlt] at hs
        have gb := (HW.out.get j).1
        have KEEP := dhid (fun (h : dropOne addr false (ss.getD j slt0) = ss.getD j slt0) => DkS_same ss addr false 16 j HZ.out hlt h)
        have SETS := dhid (DkS_set ss addr false 16 j HZ.out hlt)
        have DP := drop_prog HO.out addr j hlt
        rw [hs] at KEEP SETS gb DP
        have HOW := dhid (fun o => hown.alloc o)
        have HG0 := dhid (fun o => grown_trans hgr (World.grownBy_alloc wr o (some g)))
        have hdl : j < (DkS ss addr false j).length := by rw [DkS_len ss addr false 16 j HZ.out hj]; exact hlt
        obtain ⟨u, sk, sp, sg, sf⟩ := s
        dsimp only at d0 d1 d2 d3 d4 gb DP
        clear hown hgr hs f0 f1 f2 f3 f4
        cases te : (sg == addr / 4096)
        case false =>
          rw [te] at DP
          have N1 := dhid (KEEP.out DP)
          clear KEEP SETS DP
          go_wp2_with fail
          go_roundw
          case rel => exact ⟨j + 1, by omega, by go_num, by rw [N1.out]; exact HOW.out _, HG0.out _⟩
          case measure => simp [intOf]; omega
        case true =>
          rw [te] at DP
          have N1 := dhid (show zeroed (DkS ss addr false j) j 1 = DkS ss addr false (j + 1) by rw [zeroed_one _ _ hdl, ← SETS.out, DP]; rfl)
          clear KEEP SETS DP
          go_wp2_with (first | (refine wpList_clearS rfl (.tmp 39) rfl (HOW.out _) j 1 _ (by omega) (by omega) rfl ?_; intro w5 ow5 gr5; have OW9 := dhid ow5; have GR := dhid (grown_trans (HG0.out _) gr5); clear ow5 gr5))
          go_roundw
          case rel => exact ⟨j + 1, by omega, by go_num, by rw [← N1.out]; exact OW9.out, GR.out⟩
          case measure => simp [intOf]; omega
      · have : j = 16 := by omega
        subst this
        rw [DkS_end ss addr false 16 HZ.out, ← LKK.out] at hown
        have rr9 := (hgr.block (w.heap.size + 1) (Array.getElem?_eq_some_iff.1 R3.out).1 (by simp; omega)).trans R3.out
        have R9 := dhid rr9
        have d9 := row_at1 rr9
        have f9 := froz rr9 0
        have OW9 := dhid hown
        have B9 := dhid (B3.out.grown hgr B3.out.size (by intro k hk; cases hk; omega))
        clear hown hgr rr9
        go_wp2_with fail
        have T1 := row_set R9.out 0 (.slice (some ⟨g, 0, none⟩) 16 c)
        have O1 := own_far OW9.out ⟨w.heap.size + 1, 0, none⟩ (.slice (some ⟨g, 0, none⟩) 16 c) (by intro k hk; simp [Value.ownBlock] at hk; dsimp only; omega)
        exact bodyPost_ret (results_cell_row Try.results16 _ _ _ _ _ _ _ rfl T1 Try.underlying26 rfl cache_size) rfl ⟨_, _, rfl, own_low O1 (by omega), B9.out.setCell (by dsimp only; omega) _⟩

end Go.Proofs.Ytdllhjehokpefaa
