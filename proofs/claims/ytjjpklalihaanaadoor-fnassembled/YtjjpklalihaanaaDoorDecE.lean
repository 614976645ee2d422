/- The model's Decode. -/
import Derived.Test.YtjjpklalihaanaaDoorDecD
import Derived.Test.YtjjpklalihaanaaDoorDecM
import Derived.Test.YtjjpklalihaanaaDoorDecS
namespace Go.Proofs.YtjjpklalihaanaaDoor
open Go.RowKit
set_option linter.unusedVariables false

theorem rowOk_x {k : Nat} {r : Row} (h : rowOk k r = true) : r.fm = .x → 0 ≤ r.op ∧ r.op < 128 ∧ 0 ≤ r.more ∧ r.more < 4096 := by
  intro hx
  simp only [rowOk, hx, Bool.and_eq_true, decide_eq_true_eq] at h
  omega

set_option maxHeartbeats 3200000 in
theorem specDecode_any (x : Int) (h0 : 0 ≤ x) (h1 : x < 18446744073709551616) (w : World) :
    Calls Tryd.prog 54 #[.int .u64 x] w fun e w' => e = .returned (decV x) ∧ Below w.heap.size w w' := by
  by_cases hbig : x < 4294967296
  · have d1 : (x / 4294967296 != 0) = false := by simp; omega
    have HH : Hid (∀ k, findRow x 98 0 = some k → decV x = .tuple #[(insAt k x).val, .bool true]) := fun k (h : findRow x 98 0 = some k) => decV_hit x k hbig h
    have HM : Hid (findRow x 98 0 = none → decV x = .tuple #[noIns.val, .bool false]) := fun (h : findRow x 98 0 = none) => decV_miss x hbig h
    obtain ⟨V, hV⟩ : ∃ V, V = decV x := ⟨_, rfl⟩
    rw [← hV] at HH HM ⊢
    clear hV
    go_enter Tryd.func54, Tryd.ntmps54
    go_wp2_with fail
    refine (l2Rows_T _).mono ?_
    rintro e w1 ⟨rfl, hT, hb⟩
    have hsz : w.heap.size + 1 < w1.heap.size := by have := hT.out.1; simp at this; omega
    have G0 : Hid (w1.heap[w.heap.size]? = some (.cells #[.int .i64 0, .int .i64 0, .int .i64 0, .int .i64 0, .int .i64 0] 30 (0, 0))) := by
      show _ = _
      rw [hb.block _ (by simp)]; exact none_row w
    have hb0 : Below w.heap.size w w1 := ((Below.refl _ _).alloc (Nat.le_refl _) _).trans (hb.mono (by simp))
    obtain ⟨g, hg⟩ : ∃ g, g = (w.alloc (.cells #[.int .i64 0, .int .i64 0, .int .i64 0, .int .i64 0, .int .i64 0] 30)).heap.size := ⟨_, rfl⟩
    rw [← hg] at hT ⊢
    clear hb hg
    go_wp2_with fail
    go_loopw [5] (fun i wr => ∃ k : Nat, k ≤ 98 ∧ i = .int .i64 k ∧ Hid (findRow x (98 - k) k = findRow x 98 0) ∧ Hid (TabS wr g) ∧
        Hid (wr.heap[w.heap.size]? = some (.cells #[.int .i64 0, .int .i64 0, .int .i64 0, .int .i64 0, .int .i64 0] 30 (0, 0))) ∧ Below w.heap.size w wr)
      (fun i _ => 98 - (intOf i).toNat)
    case atStart => exact ⟨0, by omega, rfl, (rfl : findRow x (98 - 0) 0 = findRow x 98 0), hT, G0, hb0⟩
    case round =>
      obtain ⟨k, hk, rfl, hf, hT2, G, hb2⟩ := hrel
      clear G0 hb0 hT
      by_cases hlt : k < 98
      · have RX := rowOk_x (rows_ok k hlt)
        obtain ⟨r, hr0⟩ : ∃ r, r = rowAt k := ⟨_, rfl⟩
        obtain ⟨c0, c1, c2, c3, c4⟩ := hT2.out.2 k hlt r hr0
        have MB : decide (matchP k r.fm r.op r.f3 r.more x) = matchB k x := by rw [hr0]; rfl
        have IV : Hid (Value.agg #[.int .i64 ((k : Int) + 1), .int .i64 (rdV r.fm x), .int .i64 (aV r.fm x), .int .i64 (bV r.fm x), .int .i64 (immV r.fm x)] = (insAt k x).val) := by
          show _ = _
          rw [hr0]; rfl
        rw [← hr0] at RX
        have LM0 := l2Match_any k hlt r.name r.fm r.op r.f3 r.more x h0 hbig RX
        rw [MB] at LM0
        clear hr0 MB RX
        obtain ⟨nm, f, o, z, m⟩ := r
        simp only at c0 c1 c2 c3 c4 IV LM0
        obtain ⟨s, hs⟩ : ∃ s, s = f.str := ⟨_, rfl⟩
        rw [← hs] at c1 LM0
        obtain ⟨mb, hmb⟩ : ∃ b, b = matchB k x := ⟨_, rfl⟩
        rw [← hmb] at LM0
        have LM : Hid (∀ w : World, Calls Tryd.prog 64 #[.int .i64 k, .agg #[.string nm, .string s, .int .u64 o, .int .i64 z, .int .u64 m], .int .u64 x] w fun e w' => e = .returned (.bool mb) ∧ Below w.heap.size w w') := LM0
        have HMB : Hid (mb = matchB k x) := hmb
        have HS : Hid (s = f.str) := hs
        clear LM0 hmb hs
        go_wp2_with fail
        refine (LM.out _).mono ?_
        rintro e w2 ⟨rfl, hbp⟩
        have hbw : Below wr.heap.size wr w2 := ((Below.refl _ _).alloc (Nat.le_refl _) _).trans (hbp.mono (by simp))
        have c1' : w2.cell? ⟨wr.heap.size, 1, none⟩ = some (.string s) := by
          rw [hbp.cell (by simp)]
          rw [cell_of_row _ _ _ _ _ _ (heap_alloc_new _ _)]; rfl
        have G2 : w2.heap[w.heap.size]? = some (.cells #[.int .i64 0, .int .i64 0, .int .i64 0, .int .i64 0, .int .i64 0] 30 (0, 0)) := keep_some hbw G.out
        have hT3 : Hid (TabS w2 g) := TabS.below hT2.out hT2.out.1 hbw
        have hb3 := below_trans hb2 hbw
        have hlt2 : wr.heap.size < w2.heap.size := by have := hbp.size; simp at this; omega
        have c1a : ∀ o, (w2.alloc o).cell? ⟨wr.heap.size, 1, none⟩ = some (.string s) := fun o => (((Below.refl w2.heap.size w2).alloc (Nat.le_refl _) o).cell (p := ⟨wr.heap.size, 1, none⟩) hlt2).trans c1'
        have G2a : ∀ o, (w2.alloc o).heap[w.heap.size]? = some (.cells #[.int .i64 0, .int .i64 0, .int .i64 0, .int .i64 0, .int .i64 0] 30 (0, 0)) := fun o => keep_some ((Below.refl w2.heap.size w2).alloc (Nat.le_refl _) o) G2
        have HG2a : Hid (∀ o, (w2.alloc o).heap[w.heap.size]? = some (.cells #[.int .i64 0, .int .i64 0, .int .i64 0, .int .i64 0, .int .i64 0] 30 (0, 0))) := G2a
        have HG2 : Hid (w2.heap[w.heap.size]? = some (.cells #[.int .i64 0, .int .i64 0, .int .i64 0, .int .i64 0, .int .i64 0] 30 (0, 0))) := G2
        clear G2 G2a
        clear hbp LM c0 c1 c2 c3 c4
        cases mb with
        | true =>
          have F : Hid (V = .tuple #[(insAt k x).val, .bool true]) := HH.out k (hf.out.symm.trans (findRow_hit x k hlt HMB.out.symm))
          have A7 : bits .and .u64 (x / 128) 31 = x / 128 % 32 := and_low (x / 128) 5 (by omega) (by omega) (by decide)
          have A15 : bits .and .u64 (x / 32768) 31 = x / 32768 % 32 := and_low (x / 32768) 5 (by omega) (by omega) (by decide)
          have A20 : bits .and .u64 (x / 1048576) 31 = x / 1048576 % 32 := and_low (x / 1048576) 5 (by omega) (by omega) (by decide)
          have hs := HS.out
          subst hs
          have LI0 := l2Imm_any f x h0 hbig
          obtain ⟨y4, hy4⟩ : ∃ y, y = immV f x := ⟨_, rfl⟩
          rw [← hy4] at LI0 IV
          have LI : Hid (∀ w : World, Calls Tryd.prog 65 #[.string f.str, .int .u64 x] w fun e w' => e = .returned (.int .i64 y4) ∧ w' = w) := LI0
          clear LI0 hy4 HS
          cases f
          all_goals (
            simp only [Fm.str] at c1' c1a LI ⊢
            go_wp2_with fail
            refine (LI.out _).mono ?_
            rintro e w3 ⟨rfl, hw3⟩
            have hw4 := hw3.symm
            subst hw4
            go_wp2_with (refine wpList_store_rowTo rfl 30 (.tmp 2) (.tmp 82) rfl rfl w.heap.size _ rfl rfl 30 _ (HG2a.out _) inst_size rfl (inst_one _ _ _ _ _) ?_)
            refine bodyPost_ret (results_row2 Tryd.results54 _ _ _ _ _ _ _ rfl (setRow_heap _ _ _ _ _ _ (HG2a.out _)) Tryd.underlying30 rfl inst_size) rfl ⟨?_, ?_⟩
            · rw [F.out, ← IV.out]; rfl
            · exact below_setRow (hb3.alloc hb3.size _) (Nat.le_refl _) _)
        | false =>
          have F : Hid (findRow x (98 - (k + 1)) (k + 1) = findRow x 98 0) := (findRow_miss x k hlt HMB.out.symm).symm.trans hf.out
          go_wp2_with fail
          go_roundw
          case rel => exact ⟨k + 1, by omega, by go_num, F, hT3, HG2, hb3⟩
          case measure => simp [intOf]; omega
      · have hk2 : k = 98 := by omega
        subst hk2
        have F : Hid (V = .tuple #[noIns.val, .bool false]) := HM.out hf.out.symm
        have G3 := G.out
        go_wp2_with (refine wpList_store_rowTo rfl 30 (.tmp 2) (.tmp 83) rfl rfl w.heap.size #[.int .i64 0, .int .i64 0, .int .i64 0, .int .i64 0, .int .i64 0] rfl rfl 30 _ G3 inst_size rfl (inst_one _ _ _ _ _) ?_)
        refine bodyPost_ret (results_row2 Tryd.results54 _ _ _ _ _ _ _ rfl (setRow_heap _ _ _ _ _ _ G3) Tryd.underlying30 rfl inst_size) rfl ⟨?_, ?_⟩
        · rw [F.out]; rfl
        · exact below_setRow hb2 (Nat.le_refl _) _
  · have d1 : (x / 4294967296 != 0) = true := by simp; omega
    have F : Hid (decV x = .tuple #[noIns.val, .bool false]) := decV_far x hbig
    obtain ⟨V, hV⟩ : ∃ V, V = decV x := ⟨_, rfl⟩
    rw [← hV] at F ⊢
    clear hV
    go_enter Tryd.func54, Tryd.ntmps54
    go_wp2_with fail
    refine bodyPost_ret (results_row2 Tryd.results54 _ _ _ _ _ _ _ rfl (none_row w) Tryd.underlying30 rfl inst_size) rfl ⟨?_, ?_⟩
    · rw [F.out]; rfl
    · exact (Below.refl _ _).alloc (Nat.le_refl _) _

end Go.Proofs.YtjjpklalihaanaaDoor
