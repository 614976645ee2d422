/- Registers most of whose entries have a region. By tools/genDrawV.py. What Region and Permits are drawn. -/
import Derived.Test.YtldjmphflgecjacDoorDrawU
import Derived.Test.YtldjmphflgecjacDoorDrawM
import Derived.Test.YtldjmphflgecjacDoorRegH
import Derived.Deep.CutRange
namespace Go.Proofs.YtldjmphflgecjacDoor
open Go.RowKit
set_option linter.unusedVariables false

/-- A number below m is drawn, registers and a literal's slice being there. -/
theorem below_k {w0 : World} {g : Nat} {a : Option Addr} {n cap : Nat} {zs : List Int} (hcd : Code w0 a n zs) (m : Nat) (hm : 0 < m) (w W : World) (h : Rg w0 g a n cap w W) :
    Calls Tryd.prog 42 #[.pointer (some ⟨g, 0, none⟩), .int .i64 m] W fun e w' => ∃ k : Nat, e = .returned (.int .i64 k) ∧ k < m ∧ Hid (Rg w0 g a n cap w w') ∧ Hid (∀ b o, W.heap[b]? = some o → b ≠ g → w'.heap[b]? = some o) := by
  refine (l1Below_c hcd m (by omega) W h.cur).mono ?_
  rintro e w' ⟨x, rfl, ⟨hx0, hx1⟩, hs⟩
  obtain ⟨k, rfl⟩ := Int.eq_ofNat_of_zero_le hx0
  exact ⟨k, rfl, by omega, h.next hs.out, fun b o hb hne => hs.out.keep hb hne⟩

theorem Rg.cellA {w0 : World} {g : Nat} {a : Option Addr} {n cap : Nat} {w wr : World} (h : Rg w0 g a n cap w wr) (k : Nat) (hk : k < 22) : ∃ v, wr.cell? ⟨w.heap.size, k, none⟩ = some (.int .u64 v) ∧ wr.frozen? ⟨w.heap.size, k, none⟩ = false ∧ (∀ o, (wr.alloc o).cell? ⟨w.heap.size, k, none⟩ = some (.int .u64 v)) ∧ (∀ o, (wr.alloc o).frozen? ⟨w.heap.size, k, none⟩ = false) := by
  obtain ⟨v, hv, hc, hf⟩ := h.cell k hk
  have hlt := World.block_lt_of_cell? _ _ hc
  have hA : ∀ o, Below wr.heap.size wr (wr.alloc o) := fun o => (Below.refl _ _).alloc (Nat.le_refl _) _
  exact ⟨v, hc, hf, fun o => ((hA o).cell (by exact hlt)).trans hc, fun o => ((hA o).frozen (by exact hlt)).trans hf⟩

theorem at10 {w : World} {b k : Nat} (hr : w.heap[b]? = some (.cells #[.int .u64 31, .int .u64 27, .int .u64 25, .int .u64 15, .int .u64 23, .int .u64 153, .int .u64 145, .int .u64 137, .int .u64 159, .int .u64 0] 25)) (hk : k < 10) : ∃ v, w.cell? ⟨b, k, none⟩ = some (.int .u64 v) := few_at [31, 27, 25, 15, 23, 153, 145, 137, 159, 0] 25 hr hk

theorem at7 {w : World} {b k : Nat} (hr : w.heap[b]? = some (.cells #[.int .u64 0, .int .u64 511, .int .u64 1023, .int .u64 255, .int .u64 2047, .int .u64 1024, .int .u64 3] 25)) (hk : k < 7) : ∃ v, w.cell? ⟨b, k, none⟩ = some (.int .u64 v) := few_at [0, 511, 1023, 255, 2047, 1024, 3] 25 hr hk

set_option maxHeartbeats 12800000 in
theorem l6DrawCsrs_c {w0 : World} {g : Nat} {a : Option Addr} {n cap : Nat} {zs : List Int} (hcd : Code w0 a n zs) (w : World) (hc : Cur w0 w g a n cap) :
    Calls Tryd.prog 19 #[.pointer (some ⟨g, 0, none⟩)] w fun e w' => ∃ s : Bool, e = .returned (anyV w s) ∧ Hid (Rg w0 g a n cap w w') := by
  have HD : Hid (Code w0 a n zs) := hcd
  have HC0 : Hid (Cur w0 w g a n cap) := hc
  have FT : Hid (anyV w true = .slice (some ⟨w.heap.size, 1, none⟩) 21 21) := (rfl : anyV w true = _)
  have FF : Hid (anyV w false = .slice (some ⟨w.heap.size, 0, none⟩) 22 22) := (rfl : anyV w false = _)
  clear hcd hc
  go_enter Tryd.func19, Tryd.ntmps19
  go_wp2_with fail
  refine (l4DrawAny_c HD.out _ HC0.out).mono ?_
  rintro e w2 ⟨s, rfl, R2⟩
  clear HC0
  cases s with
  | true =>
    rw [FT.out]
    go_wp2_with fail
    go_ret
    exact ⟨true, by rw [FT.out]; rfl, R2⟩
  | false =>
    rw [FF.out]
    go_wp2_with fail
    refine (l1Once_c HD.out 3 (by omega) _ R2.out.cur).mono ?_
    rintro e w3 ⟨c, rfl, hs3⟩
    have R3 : Hid (Rg w0 g a n cap w w3) := R2.out.next hs3.out
    clear R2 hs3
    cases c with
    | true =>
      go_wp2_with fail
      go_ret
      exact ⟨false, by rw [FF.out]; rfl, R3⟩
    | false =>
      obtain ⟨v16, -, c16, f16⟩ := R3.out.cell 16 (by omega)
      go_wp2_with fail
      have R4 : Hid (Rg w0 g a n cap w (w3.setCell ⟨w.heap.size, 16, none⟩ (.int .u64 0))) := R3.out.put 16 _ U0
      clear R3 c16 f16 v16
      generalize w3.setCell ⟨w.heap.size, 16, none⟩ (.int .u64 0) = w4 at *
      go_loopw [4] (fun i wr => ∃ k : Nat, k ≤ 4 ∧ i = .int .i64 k ∧ Hid (Rg w0 g a n cap w wr)) (fun i _ => 4 - (intOf i).toNat)
      case atStart => exact ⟨0, by omega, rfl, R4⟩
      case round =>
        obtain ⟨k, hk, rfl, hr⟩ := hrel
        by_cases hlt : k < 4
        · have dk : decide ((k : Int) < 4) = true := decide_eq_true (by omega)
          go_wp2_with fail
          obtain ⟨v9, c9, f9, hA, hF⟩ := hr.out.cellA 16 (by omega)
          have HBA : Hid (Calls Tryd.prog 42 #[.pointer (some ⟨g, 0, none⟩), .int .i64 10] (wr.alloc (.cells #[.int .u64 31, .int .u64 27, .int .u64 25, .int .u64 15, .int .u64 23, .int .u64 153, .int .u64 145, .int .u64 137, .int .u64 159, .int .u64 0] 25)).drew fun e w' => ∃ (q : Nat) (v u : Int), e = .returned (.int .i64 q) ∧ q < 10 ∧ Hid (Rg w0 g a n cap w w') ∧ w'.heap[wr.heap.size]? = some (.cells #[.int .u64 31, .int .u64 27, .int .u64 25, .int .u64 15, .int .u64 23, .int .u64 153, .int .u64 145, .int .u64 137, .int .u64 159, .int .u64 0] 25) ∧ w'.cell? ⟨wr.heap.size, q, none⟩ = some (.int .u64 u) ∧ w'.cell? ⟨w.heap.size, 16, none⟩ = some (.int .u64 v) ∧ w'.frozen? ⟨w.heap.size, 16, none⟩ = false) := by
            refine (below_k HD.out 10 (by omega) w _ (hr.out.alloc _).drew).mono ?_
            rintro e w' ⟨q, rfl, hq, R5, K5⟩
            have hrow := K5.out _ _ (heap_alloc_new wr _) (Nat.ne_of_gt hr.out.cur.lt)
            obtain ⟨u, hu⟩ := at10 hrow hq
            obtain ⟨v, h1, h2, h3, h4⟩ := R5.out.cellA 16 (by omega)
            exact ⟨q, v, u, rfl, hq, R5, hrow, hu, h1, h2⟩
          have HBB : Hid (Calls Tryd.prog 42 #[.pointer (some ⟨g, 0, none⟩), .int .i64 10] wr.drew fun e w' => ∃ (q : Nat) (v u : Int), e = .returned (.int .i64 q) ∧ q < 10 ∧ Hid (Rg w0 g a n cap w w') ∧ (w'.alloc (.cells #[.int .u64 31, .int .u64 27, .int .u64 25, .int .u64 15, .int .u64 23, .int .u64 153, .int .u64 145, .int .u64 137, .int .u64 159, .int .u64 0] 25)).cell? ⟨w'.heap.size, q, none⟩ = some (.int .u64 u) ∧ w'.cell? ⟨w.heap.size, 16, none⟩ = some (.int .u64 v) ∧ (∀ o, (w'.alloc o).cell? ⟨w.heap.size, 16, none⟩ = some (.int .u64 v)) ∧ (∀ o, (w'.alloc o).frozen? ⟨w.heap.size, 16, none⟩ = false)) := by
            refine (below_k HD.out 10 (by omega) w _ hr.out.drew).mono ?_
            rintro e w' ⟨q, rfl, hq, R5, K5⟩
            obtain ⟨u, hu⟩ := at10 (heap_alloc_new w' _) hq
            obtain ⟨v, h1, h2, h3, h4⟩ := R5.out.cellA 16 (by omega)
            exact ⟨q, v, u, rfl, hq, R5, hu, h1, h3, h4⟩
          go_cut [] from 17 to 47 (fun wc => Hid (Rg w0 g a n cap w wc))
          case first =>
            go_region_with (first | (go_at_call 42; with_reducible refine HBA.out.mono ?_; rintro e w5 ⟨k1, v5, u5, rfl, hk1, R5, row5, hc5, h1, h2⟩; have hka : (0 : Int) ≤ (k1 : Int) := (by omega); have hkb : (k1 : Int) < 10 := (by omega)) | (go_at_call 42; with_reducible refine HBB.out.mono ?_; rintro e w5 ⟨k1, v5, u5, rfl, hk1, R5, hc5, h1, h2, h3⟩; have hka : (0 : Int) ≤ (k1 : Int) := (by omega); have hkb : (k1 : Int) < 10 := (by omega)))
            all_goals go_wp2_with fail
            all_goals go_meet
            all_goals (first | exact R5.out.put 16 _ (U_bits _ _ _) | exact (R5.out.alloc _).put 16 _ (U_bits _ _ _))
          case rest =>
            obtain ⟨j, hj⟩ : ∃ j : Nat, 17 + k = j := ⟨_, rfl⟩
            have hid2 : (17 : Int) + (k : Int) = (j : Int) := by omega
            have hid : wrap64 (j : Int) = (j : Int) := by unfold wrap64; omega
            have hid4 : IntKind.i64.wrap (j : Int) = (j : Int) := by rw [IntKind.wrap_i64]; omega
            have hid0 : (0 : Int) ≤ (j : Int) := by omega
            have hid1 : (j : Int) < 22 := by omega
            have hj22 : j < 22 := by omega
            clear hj
            clear HBA HBB hA hF c9 f9 hr
            have HBA : Hid (Calls Tryd.prog 42 #[.pointer (some ⟨g, 0, none⟩), .int .i64 7] (wc.alloc (.cells #[.int .u64 0, .int .u64 511, .int .u64 1023, .int .u64 255, .int .u64 2047, .int .u64 1024, .int .u64 3] 25)).drew fun e w' => ∃ (q : Nat) (v u : Int), e = .returned (.int .i64 q) ∧ q < 7 ∧ Hid (Rg w0 g a n cap w w') ∧ w'.heap[wc.heap.size]? = some (.cells #[.int .u64 0, .int .u64 511, .int .u64 1023, .int .u64 255, .int .u64 2047, .int .u64 1024, .int .u64 3] 25) ∧ w'.cell? ⟨wc.heap.size, q, none⟩ = some (.int .u64 u) ∧ w'.cell? ⟨w.heap.size, j, none⟩ = some (.int .u64 v) ∧ w'.frozen? ⟨w.heap.size, j, none⟩ = false) := by
              refine (below_k HD.out 7 (by omega) w _ (hcut.out.alloc _).drew).mono ?_
              rintro e w' ⟨q, rfl, hq, R5, K5⟩
              have hrow := K5.out _ _ (heap_alloc_new wc _) (Nat.ne_of_gt hcut.out.cur.lt)
              obtain ⟨u, hu⟩ := at7 hrow hq
              obtain ⟨v, h1, h2, h3, h4⟩ := R5.out.cellA j (by omega)
              exact ⟨q, v, u, rfl, hq, R5, hrow, hu, h1, h2⟩
            have HBB : Hid (Calls Tryd.prog 42 #[.pointer (some ⟨g, 0, none⟩), .int .i64 7] wc.drew fun e w' => ∃ (q : Nat) (v u : Int), e = .returned (.int .i64 q) ∧ q < 7 ∧ Hid (Rg w0 g a n cap w w') ∧ (w'.alloc (.cells #[.int .u64 0, .int .u64 511, .int .u64 1023, .int .u64 255, .int .u64 2047, .int .u64 1024, .int .u64 3] 25)).cell? ⟨w'.heap.size, q, none⟩ = some (.int .u64 u) ∧ w'.cell? ⟨w.heap.size, j, none⟩ = some (.int .u64 v) ∧ (∀ o, (w'.alloc o).cell? ⟨w.heap.size, j, none⟩ = some (.int .u64 v)) ∧ (∀ o, (w'.alloc o).frozen? ⟨w.heap.size, j, none⟩ = false)) := by
              refine (below_k HD.out 7 (by omega) w _ hcut.out.drew).mono ?_
              rintro e w' ⟨q, rfl, hq, R5, K5⟩
              obtain ⟨u, hu⟩ := at7 (heap_alloc_new w' _) hq
              obtain ⟨v, h1, h2, h3, h4⟩ := R5.out.cellA j (by omega)
              exact ⟨q, v, u, rfl, hq, R5, hu, h1, h3, h4⟩
            have HC : Hid (∀ W, Rg w0 g a n cap w W → Calls Tryd.prog 42 #[.pointer (some ⟨g, 0, none⟩), .int .i64 2] W fun e w' => ∃ (k2 : Nat) (v : Int), e = .returned (.int .i64 k2) ∧ k2 < 2 ∧ Hid (Rg w0 g a n cap w w') ∧ Hid (∀ b o, W.heap[b]? = some o → b ≠ g → w'.heap[b]? = some o) ∧ w'.cell? ⟨w.heap.size, j, none⟩ = some (.int .u64 v) ∧ w'.frozen? ⟨w.heap.size, j, none⟩ = false ∧ (∀ o, (w'.alloc o).cell? ⟨w.heap.size, j, none⟩ = some (.int .u64 v)) ∧ (∀ o, (w'.alloc o).frozen? ⟨w.heap.size, j, none⟩ = false)) := by
              intro W hW
              refine (below_k HD.out 2 (by omega) w W hW).mono ?_
              rintro e w' ⟨k2, rfl, hk2, R7, K7⟩
              obtain ⟨v, h1, h2, h3, h4⟩ := R7.out.cellA j (by omega)
              exact ⟨k2, v, rfl, hk2, R7, K7, h1, h2, h3, h4⟩
            have HN : Hid (∀ (W w' : World) (b k1 : Nat), (∀ b o, W.heap[b]? = some o → b ≠ g → w'.heap[b]? = some o) → W.heap[b]? = some (.cells #[.int .u64 0, .int .u64 511, .int .u64 1023, .int .u64 255, .int .u64 2047, .int .u64 1024, .int .u64 3] 25) → b ≠ g → k1 < 7 → ∃ v, w'.cell? ⟨b, k1, none⟩ = some (.int .u64 v)) := fun W w' b k1 K hr hne hk => at7 (K _ _ hr hne) hk
            have HM : Hid (∀ (w' : World) (k1 : Nat), k1 < 7 → ∃ v, (w'.alloc (.cells #[.int .u64 0, .int .u64 511, .int .u64 1023, .int .u64 255, .int .u64 2047, .int .u64 1024, .int .u64 3] 25)).cell? ⟨w'.heap.size, k1, none⟩ = some (.int .u64 v)) := fun w' k1 hk => at7 (heap_alloc_new w' _) hk
            have HGW : Hid (wc.heap.size ≠ g) := (Nat.ne_of_gt hcut.out.cur.lt)
            go_wp2_with fail
            go_region_with (first | (go_at_call 42; with_reducible refine HBA.out.mono ?_; rintro e w5 ⟨k1, v5, u5, rfl, hk1, R5, row5, hc5, h1, h2⟩; have hka : (0 : Int) ≤ (k1 : Int) := (by omega); have hkb : (k1 : Int) < 7 := (by omega)) | (go_at_call 42; with_reducible refine HBB.out.mono ?_; rintro e w5 ⟨k1, v5, u5, rfl, hk1, R5, hc5, h1, h2, h3⟩; have hka : (0 : Int) ≤ (k1 : Int) := (by omega); have hkb : (k1 : Int) < 7 := (by omega)) | (go_at_call 42; with_reducible refine (HC.out _ ?_).mono ?_; exact R5.out; rintro e w7 ⟨k2, v7, rfl, hk2, R7, K7, h5, h6, h7, h8⟩; have hu7 := HN.out _ w7 _ k1 K7.out row5 HGW.out hk1; cases hu7; rename_i u7 hu7; have hx2 : IntKind.u64.wrap (k2 : Int) = k2 := (by rw [IntKind.wrap_u64]; omega)) | (go_at_call 42; with_reducible refine (HC.out _ ?_).mono ?_; exact R5.out; rintro e w7 ⟨k2, v7, rfl, hk2, R7, K7, h5, h6, h7, h8⟩; have hu7 := HM.out w7 k1 hk1; cases hu7; rename_i u7 hu7; have hx2 : IntKind.u64.wrap (k2 : Int) = k2 := (by rw [IntKind.wrap_u64]; omega)) | (go_at_call 42; with_reducible refine (HC.out _ ?_).mono ?_; exact R5.out.alloc _; rintro e w7 ⟨k2, v7, rfl, hk2, R7, K7, h5, h6, h7, h8⟩; have hu7 := HN.out _ w7 _ k1 K7.out (heap_alloc_new w5 _) (Nat.ne_of_gt R5.out.cur.lt) hk1; cases hu7; rename_i u7 hu7; have hx2 : IntKind.u64.wrap (k2 : Int) = k2 := (by rw [IntKind.wrap_u64]; omega)))
            all_goals go_wp2_with fail
            all_goals go_roundw
            all_goals (first | exact ⟨k + 1, by omega, by go_num, R7.out.put _ _ (U_wrap _)⟩ | exact ⟨k + 1, by omega, by go_num, (R7.out.alloc _).put _ _ (U_wrap _)⟩ | (simp [intOf]; omega))
        · have hk4 : k = 4 := by omega
          subst hk4
          go_wp2_with fail
          go_ret
          exact ⟨false, by rw [FF.out]; rfl, hr⟩

end Go.Proofs.YtldjmphflgecjacDoor

namespace Go.Proofs.YtldjmphflgecjacDoor
open Go.RowKit
set_option linter.unusedVariables false

theorem results_d5 {fn : Func} {t u v x y : Tmp} (h : fn.results = #[.tmp t, .tmp u, .tmp v, .tmp x, .tmp y]) (tmps : Array Value) (P : Program) (w : World) :
    (results fn tmps).run P w = .ok (.tuple #[tmps.getD t undef, tmps.getD u undef, tmps.getD v undef, tmps.getD x undef, tmps.getD y undef]) w := by
  simp only [results, h]
  simp

theorem l6DrawKind_c {w0 : World} {g : Nat} {a : Option Addr} {n cap : Nat} {zs : List Int} (hcd : Code w0 a n zs) (w : World) (hc : Cur w0 w g a n cap) :
    Calls Tryd.prog 23 #[.pointer (some ⟨g, 0, none⟩)] w fun e w' => ∃ x : Int, e = .returned (.int .i64 x) ∧ Hid (Cs w0 g a n cap w w') := by
  have HD : Hid (Code w0 a n zs) := hcd
  have HC : Hid (Cur w0 w g a n cap) := hc
  clear hcd hc
  go_enter Tryd.func23, Tryd.ntmps23
  go_wp2_with fail
  refine (l1Once_c HD.out 20 (by omega) _ HC.out).mono ?_
  rintro e w1 ⟨c, rfl, hs1⟩
  cases c with
  | true =>
    go_wp2_with fail
    have HA := Cs.alloc hs1.out.1 (.cells #[.int .i64 0, .int .i64 4, .int .i64 (-1)] 2)
    refine (l1Below_c HD.out 3 (by omega) _ HA.1).mono ?_
    rintro e w2 ⟨x, rfl, ⟨hx0, hx1⟩, hs2⟩
    obtain ⟨k, rfl⟩ := Int.eq_ofNat_of_zero_le hx0
    obtain ⟨v, hv, hcell⟩ := few_ints [0, 4, -1] 2 (hs2.out.keep (heap_alloc_new _ _) (Nat.ne_of_gt hs1.out.1.lt)) (by decide) (k := k) (by simp; omega)
    have HS : Hid (Cs w0 g a n cap w w2) := hs1.out.trans (HA.trans hs2.out)
    clear hv hs1 hs2 HA HC
    go_wp2_with fail
    go_ret
    exact ⟨_, rfl, HS⟩
  | false =>
    go_wp2_with fail
    refine (l1Below_c HD.out 3 (by omega) _ hs1.out.1).mono ?_
    rintro e w2 ⟨x, rfl, ⟨hx0, hx1⟩, hs2⟩
    have HS : Hid (Cs w0 g a n cap w w2) := hs1.out.trans hs2.out
    clear hs1 hs2 HC
    go_wp2_with fail
    go_ret
    exact ⟨_, rfl, HS⟩

theorem U_region (l : List Int) (i : Nat) : U (regionV l i).1 ∧ U (regionV l i).2.1 := by
  have hf : U (regFrom l i) := by
    unfold regFrom
    split
    · exact U_wrap _
    · exact U0
  unfold regionV
  split
  · split
    · exact ⟨U0, U0⟩
    · exact ⟨hf, U_wrap _⟩
  · split
    · exact ⟨U_wrap _, U_wrap _⟩
    · split
      · exact ⟨U_wrap _, U_wrap _⟩
      · exact ⟨U0, U0⟩

theorem three_U : ∀ x ∈ ([0, 18446744073709551615, 18446744073709551608] : List Int), U x := by
  intro x hx
  simp only [List.mem_cons, List.not_mem_nil, or_false] at hx
  rcases hx with rfl | rfl | rfl <;> constructor <;> decide

theorem six_U (lo hi : Int) (h0 : U lo) (h1 : U hi) : ∀ x ∈ ([lo, hi, IntKind.u64.wrap (lo - 1), IntKind.u64.wrap (hi + 1), IntKind.u64.wrap (lo + 4), IntKind.u64.wrap (hi - 7)] : List Int), U x := by
  intro x hx
  simp only [List.mem_cons, List.not_mem_nil, or_false] at hx
  rcases hx with rfl | rfl | rfl | rfl | rfl | rfl
  · exact h0
  · exact h1
  · exact U_wrap _
  · exact U_wrap _
  · exact U_wrap _
  · exact U_wrap _

set_option maxHeartbeats 3200000 in
theorem l6DrawAddr_t {w0 : World} {g : Nat} {a : Option Addr} {n cap : Nat} {zs : List Int} (hcd : Code w0 a n zs) (w W : World) (h : Rg w0 g a n cap w W) :
    Calls Tryd.prog 21 #[.pointer (some ⟨g, 0, none⟩), .slice (some ⟨w.heap.size, 1, none⟩) 21 21] W fun e w' => ∃ x : Int, e = .returned (.int .u64 x) ∧ Hid (U x) ∧ Hid (Rg w0 g a n cap w w') := by
  have HD : Hid (Code w0 a n zs) := hcd
  have R0 : Hid (Rg w0 g a n cap w W) := h
  clear hcd h
  go_enter Tryd.func21, Tryd.ntmps21
  go_wp2_with fail
  refine (l1Below_c HD.out 9000 (by omega) _ R0.out.cur).mono ?_
  rintro e w1 ⟨x, rfl, ⟨hx0, hx1⟩, hs1⟩
  have R1 : Hid (Rg w0 g a n cap w w1) := R0.out.next hs1.out
  clear R0 hs1
  go_wp2_with fail
  refine (l1Once_c HD.out 2 (by omega) _ R1.out.cur).mono ?_
  rintro e w2 ⟨c, rfl, hs2⟩
  have R2 : Hid (Rg w0 g a n cap w w2) := R1.out.next hs2.out
  clear R1 hs2
  have HX : Hid (U (2147483648 + x)) := ⟨by omega, by omega⟩
  cases c with
  | false =>
    go_wp2_with fail
    refine (l1Once_c HD.out 20 (by omega) _ R2.out.cur).mono ?_
    rintro e w8 ⟨c8, rfl, hs8⟩
    have R8 : Hid (Rg w0 g a n cap w w8) := R2.out.next hs8.out
    clear hs8
    cases c8 with
    | false =>
      go_wp2_with fail
      go_ret
      exact ⟨_, rfl, HX, R8⟩
    | true =>
      go_wp2_with fail
      have HA := Cs.alloc R8.out.cur (.cells #[.int .u64 0, .int .u64 18446744073709551615, .int .u64 18446744073709551608] 25)
      refine (l1Below_c HD.out 3 (by omega) _ HA.1).mono ?_
      rintro e w9 ⟨y, rfl, ⟨hy0, hy1⟩, hs9⟩
      obtain ⟨k, rfl⟩ := Int.eq_ofNat_of_zero_le hy0
      obtain ⟨v, hv0, hcell⟩ := few_words [0, 18446744073709551615, 18446744073709551608] 25 (hs9.out.keep (heap_alloc_new _ _) (Nat.ne_of_gt R8.out.cur.lt)) three_U (k := k) (by simp; omega)
      have R9 : Hid (Rg w0 g a n cap w w9) := (R8.out.next HA).next hs9.out
      have HV : Hid (U v) := hv0
      clear hs9 HA hv0
      go_wp2_with fail
      go_ret
      exact ⟨_, rfl, HV, R9⟩
  | true =>
    obtain ⟨l, hlen, hu, hsl⟩ := R2.out.sl.2
    have HLEN : Hid (l.length = 21) := hlen
    have HSL : Hid (Sl .u64 w2 (some ⟨w.heap.size, 1, none⟩) l) := hsl
    clear hlen hu hsl
    have HO : Hid (Calls Tryd.prog 35 #[.slice (some ⟨w.heap.size, 1, none⟩) 21 21] w2 fun e w' => e = .returned (.bool false) ∧ w' = w2) := specCsrsOk_any _ 21 21 l w2 HLEN.out HSL.out
    go_wp2_with fail
    refine HO.out.mono ?_
    rintro e w3 ⟨rfl, hw3⟩
    have hw4 := hw3.symm
    subst hw4
    clear HO HSL HLEN
    go_wp2_with fail
    refine (l1Once_c HD.out 20 (by omega) _ R2.out.cur).mono ?_
    rintro e w8 ⟨c8, rfl, hs8⟩
    have R8 : Hid (Rg w0 g a n cap w w8) := R2.out.next hs8.out
    clear hs8
    cases c8 with
    | false =>
      go_wp2_with fail
      go_ret
      exact ⟨_, rfl, HX, R8⟩
    | true =>
      go_wp2_with fail
      have HA := Cs.alloc R8.out.cur (.cells #[.int .u64 0, .int .u64 18446744073709551615, .int .u64 18446744073709551608] 25)
      refine (l1Below_c HD.out 3 (by omega) _ HA.1).mono ?_
      rintro e w9 ⟨y, rfl, ⟨hy0, hy1⟩, hs9⟩
      obtain ⟨k, rfl⟩ := Int.eq_ofNat_of_zero_le hy0
      obtain ⟨v, hv0, hcell⟩ := few_words [0, 18446744073709551615, 18446744073709551608] 25 (hs9.out.keep (heap_alloc_new _ _) (Nat.ne_of_gt R8.out.cur.lt)) three_U (k := k) (by simp; omega)
      have R9 : Hid (Rg w0 g a n cap w w9) := (R8.out.next HA).next hs9.out
      have HV : Hid (U v) := hv0
      clear hs9 HA hv0
      go_wp2_with fail
      go_ret
      exact ⟨_, rfl, HV, R9⟩

set_option maxHeartbeats 3200000 in
theorem l6DrawAddr_f {w0 : World} {g : Nat} {a : Option Addr} {n cap : Nat} {zs : List Int} (hcd : Code w0 a n zs) (w W : World) (h : Rg w0 g a n cap w W) :
    Calls Tryd.prog 21 #[.pointer (some ⟨g, 0, none⟩), .slice (some ⟨w.heap.size, 0, none⟩) 22 22] W fun e w' => ∃ x : Int, e = .returned (.int .u64 x) ∧ Hid (U x) ∧ Hid (Rg w0 g a n cap w w') := by
  have HD : Hid (Code w0 a n zs) := hcd
  have R0 : Hid (Rg w0 g a n cap w W) := h
  clear hcd h
  go_enter Tryd.func21, Tryd.ntmps21
  go_wp2_with fail
  refine (l1Below_c HD.out 9000 (by omega) _ R0.out.cur).mono ?_
  rintro e w1 ⟨x, rfl, ⟨hx0, hx1⟩, hs1⟩
  have R1 : Hid (Rg w0 g a n cap w w1) := R0.out.next hs1.out
  clear R0 hs1
  go_wp2_with fail
  refine (l1Once_c HD.out 2 (by omega) _ R1.out.cur).mono ?_
  rintro e w2 ⟨c, rfl, hs2⟩
  have R2 : Hid (Rg w0 g a n cap w w2) := R1.out.next hs2.out
  clear R1 hs2
  have HX : Hid (U (2147483648 + x)) := ⟨by omega, by omega⟩
  cases c with
  | false =>
    go_wp2_with fail
    refine (l1Once_c HD.out 20 (by omega) _ R2.out.cur).mono ?_
    rintro e w8 ⟨c8, rfl, hs8⟩
    have R8 : Hid (Rg w0 g a n cap w w8) := R2.out.next hs8.out
    clear hs8
    cases c8 with
    | false =>
      go_wp2_with fail
      go_ret
      exact ⟨_, rfl, HX, R8⟩
    | true =>
      go_wp2_with fail
      have HA := Cs.alloc R8.out.cur (.cells #[.int .u64 0, .int .u64 18446744073709551615, .int .u64 18446744073709551608] 25)
      refine (l1Below_c HD.out 3 (by omega) _ HA.1).mono ?_
      rintro e w9 ⟨y, rfl, ⟨hy0, hy1⟩, hs9⟩
      obtain ⟨k, rfl⟩ := Int.eq_ofNat_of_zero_le hy0
      obtain ⟨v, hv0, hcell⟩ := few_words [0, 18446744073709551615, 18446744073709551608] 25 (hs9.out.keep (heap_alloc_new _ _) (Nat.ne_of_gt R8.out.cur.lt)) three_U (k := k) (by simp; omega)
      have R9 : Hid (Rg w0 g a n cap w w9) := (R8.out.next HA).next hs9.out
      have HV : Hid (U v) := hv0
      clear hs9 HA hv0
      go_wp2_with fail
      go_ret
      exact ⟨_, rfl, HV, R9⟩
  | true =>
    obtain ⟨l, hlen, hu, hsl⟩ := R2.out.sl.1
    have HLEN : Hid (l.length = 22) := hlen
    have HSL : Hid (Sl .u64 w2 (some ⟨w.heap.size, 0, none⟩) l) := hsl
    clear hlen hu hsl
    have HO : Hid (Calls Tryd.prog 35 #[.slice (some ⟨w.heap.size, 0, none⟩) 22 22] w2 fun e w' => e = .returned (.bool (csrsOk 22 l)) ∧ w' = w2) := specCsrsOk_any _ 22 22 l w2 HLEN.out HSL.out
    cases hok : csrsOk 22 l with
    | false =>
      rw [hok] at HO
      go_wp2_with fail
      refine HO.out.mono ?_
      rintro e w3 ⟨rfl, hw3⟩
      have hw4 := hw3.symm
      subst hw4
      clear HO HSL HLEN
      go_wp2_with fail
      refine (l1Once_c HD.out 20 (by omega) _ R2.out.cur).mono ?_
      rintro e w8 ⟨c8, rfl, hs8⟩
      have R8 : Hid (Rg w0 g a n cap w w8) := R2.out.next hs8.out
      clear hs8
      cases c8 with
      | false =>
        go_wp2_with fail
        go_ret
        exact ⟨_, rfl, HX, R8⟩
      | true =>
        go_wp2_with fail
        have HA := Cs.alloc R8.out.cur (.cells #[.int .u64 0, .int .u64 18446744073709551615, .int .u64 18446744073709551608] 25)
        refine (l1Below_c HD.out 3 (by omega) _ HA.1).mono ?_
        rintro e w9 ⟨y, rfl, ⟨hy0, hy1⟩, hs9⟩
        obtain ⟨k, rfl⟩ := Int.eq_ofNat_of_zero_le hy0
        obtain ⟨v, hv0, hcell⟩ := few_words [0, 18446744073709551615, 18446744073709551608] 25 (hs9.out.keep (heap_alloc_new _ _) (Nat.ne_of_gt R8.out.cur.lt)) three_U (k := k) (by simp; omega)
        have R9 : Hid (Rg w0 g a n cap w w9) := (R8.out.next HA).next hs9.out
        have HV : Hid (U v) := hv0
        clear hs9 HA hv0
        go_wp2_with fail
        go_ret
        exact ⟨_, rfl, HV, R9⟩
    | true =>
      rw [hok] at HO
      go_wp2_with fail
      refine HO.out.mono ?_
      rintro e w3 ⟨rfl, hw3⟩
      have hw4 := hw3.symm
      subst hw4
      clear HO HSL HLEN hok l
      go_wp2_with fail
      refine (l1Below_c HD.out 4 (by omega) _ R2.out.cur).mono ?_
      rintro e w5 ⟨y, rfl, ⟨hy0, hy1⟩, hs5⟩
      obtain ⟨k, rfl⟩ := Int.eq_ofNat_of_zero_le hy0
      have R5 : Hid (Rg w0 g a n cap w w5) := R2.out.next hs5.out
      clear R2 hs5
      obtain ⟨l, hlen, hu, hsl⟩ := R5.out.sl.1
      have HR : Hid (Calls Tryd.prog 36 #[.slice (some ⟨w.heap.size, 0, none⟩) 22 22, .int .i64 k] w5 fun e w' => e = .returned (.tuple #[.int .u64 (regionV l k).1, .int .u64 (regionV l k).2.1, .bool (regionV l k).2.2]) ∧ w' = w5) := l6Region_any _ 22 l k (by omega) w5 hlen hsl
      obtain ⟨hlo, hhi⟩ := U_region l k
      have HLO : Hid (U (regionV l k).1) := hlo
      have HHI : Hid (U (regionV l k).2.1) := hhi
      clear hlo hhi hu hsl hlen
      generalize regionV l k = r at *
      obtain ⟨lo, hi, is⟩ := r
      simp only at HR HLO HHI
      cases is with
      | false =>
        go_wp2_with fail
        refine HR.out.mono ?_
        rintro e w6 ⟨rfl, hw6⟩
        have hw7 := hw6.symm
        subst hw7
        clear HR HLO HHI
        go_wp2_with fail
        refine (l1Once_c HD.out 20 (by omega) _ R5.out.cur).mono ?_
        rintro e w8 ⟨c8, rfl, hs8⟩
        have R8 : Hid (Rg w0 g a n cap w w8) := R5.out.next hs8.out
        clear hs8
        cases c8 with
        | false =>
          go_wp2_with fail
          go_ret
          exact ⟨_, rfl, HX, R8⟩
        | true =>
          go_wp2_with fail
          have HA := Cs.alloc R8.out.cur (.cells #[.int .u64 0, .int .u64 18446744073709551615, .int .u64 18446744073709551608] 25)
          refine (l1Below_c HD.out 3 (by omega) _ HA.1).mono ?_
          rintro e w9 ⟨y, rfl, ⟨hy0, hy1⟩, hs9⟩
          obtain ⟨k, rfl⟩ := Int.eq_ofNat_of_zero_le hy0
          obtain ⟨v, hv0, hcell⟩ := few_words [0, 18446744073709551615, 18446744073709551608] 25 (hs9.out.keep (heap_alloc_new _ _) (Nat.ne_of_gt R8.out.cur.lt)) three_U (k := k) (by simp; omega)
          have R9 : Hid (Rg w0 g a n cap w w9) := (R8.out.next HA).next hs9.out
          have HV : Hid (U v) := hv0
          clear hs9 HA hv0
          go_wp2_with fail
          go_ret
          exact ⟨_, rfl, HV, R9⟩
      | true =>
        go_wp2_with fail
        refine HR.out.mono ?_
        rintro e w6 ⟨rfl, hw6⟩
        have hw7 := hw6.symm
        subst hw7
        clear HR
        go_wp2_with fail
        have HA := Cs.alloc R5.out.cur (.cells #[.int .u64 lo, .int .u64 hi, .int .u64 (IntKind.u64.wrap (lo - 1)), .int .u64 (IntKind.u64.wrap (hi + 1)), .int .u64 (IntKind.u64.wrap (lo + 4)), .int .u64 (IntKind.u64.wrap (hi - 7))] 25)
        refine (l1Below_c HD.out 6 (by omega) _ HA.1).mono ?_
        rintro e w6 ⟨y, rfl, ⟨hy0, hy1⟩, hs6⟩
        obtain ⟨k2, rfl⟩ := Int.eq_ofNat_of_zero_le hy0
        obtain ⟨v6, hv6, hcell6⟩ := few_words [lo, hi, IntKind.u64.wrap (lo - 1), IntKind.u64.wrap (hi + 1), IntKind.u64.wrap (lo + 4), IntKind.u64.wrap (hi - 7)] 25 (hs6.out.keep (heap_alloc_new _ _) (Nat.ne_of_gt R5.out.cur.lt)) (six_U lo hi HLO.out HHI.out) (k := k2) (by simp; omega)
        have R6 : Hid (Rg w0 g a n cap w w6) := (R5.out.next HA).next hs6.out
        have HV6 : Hid (U v6) := hv6
        clear hs6 HA hv6 HLO HHI
        go_wp2_with fail
        refine (l1Once_c HD.out 20 (by omega) _ R6.out.cur).mono ?_
        rintro e w8 ⟨c8, rfl, hs8⟩
        have R8 : Hid (Rg w0 g a n cap w w8) := R6.out.next hs8.out
        clear hs8
        cases c8 with
        | false =>
          go_wp2_with fail
          go_ret
          exact ⟨_, rfl, HV6, R8⟩
        | true =>
          go_wp2_with fail
          have HA := Cs.alloc R8.out.cur (.cells #[.int .u64 0, .int .u64 18446744073709551615, .int .u64 18446744073709551608] 25)
          refine (l1Below_c HD.out 3 (by omega) _ HA.1).mono ?_
          rintro e w9 ⟨y, rfl, ⟨hy0, hy1⟩, hs9⟩
          obtain ⟨k, rfl⟩ := Int.eq_ofNat_of_zero_le hy0
          obtain ⟨v, hv0, hcell⟩ := few_words [0, 18446744073709551615, 18446744073709551608] 25 (hs9.out.keep (heap_alloc_new _ _) (Nat.ne_of_gt R8.out.cur.lt)) three_U (k := k) (by simp; omega)
          have R9 : Hid (Rg w0 g a n cap w w9) := (R8.out.next HA).next hs9.out
          have HV : Hid (U v) := hv0
          clear hs9 HA hv0
          go_wp2_with fail
          go_ret
          exact ⟨_, rfl, HV, R9⟩

/-- An address is drawn: near the ends of a region, or anywhere. -/
theorem l6DrawAddr_c {w0 : World} {g : Nat} {a : Option Addr} {n cap : Nat} {zs : List Int} (hcd : Code w0 a n zs) (w W : World) (h : Rg w0 g a n cap w W) (s : Bool) :
    Calls Tryd.prog 21 #[.pointer (some ⟨g, 0, none⟩), anyV w s] W fun e w' => ∃ x : Int, e = .returned (.int .u64 x) ∧ Hid (U x) ∧ Hid (Rg w0 g a n cap w w') := by
  cases s with
  | true => exact l6DrawAddr_t hcd w W h
  | false => exact l6DrawAddr_f hcd w W h

set_option maxHeartbeats 3200000 in
theorem DrawPermits_c {a : Option Addr} {n : Nat} (cap : Nat) {zs : List Int} (w : World) (hcd : Code w a n zs) :
    Calls Tryd.prog 7 #[.slice a n cap] w fun e w' => ∃ (b : Option Addr) (m c : Nat) (l : List Int) (p x s k : Int), e = .returned (.tuple #[.slice b m c, .int .i64 p, .int .u64 x, .int .i64 s, .int .i64 k]) ∧ l.length = m ∧ m ≤ 22 ∧ Hid (∀ j, U (l.getD j 0)) ∧ Hid (Sl .u64 w' b l) ∧ Hid (U x) ∧ (Lit.int .i64 s).wf = true ∧ Hid (Below w.heap.size w w') := by
  have HD : Hid (Code w a n zs) := hcd
  clear hcd
  go_enter Tryd.func7, Tryd.ntmps7
  go_wp2_with fail
  refine (l1New_c cap _ HD.out).mono ?_
  rintro e w1 ⟨g, rfl, hc⟩
  go_wp2_with fail
  refine (l6DrawCsrs_c HD.out _ hc.out).mono ?_
  rintro e w2 ⟨s, rfl, R2⟩
  go_wp2_with fail
  refine (l4DrawPriv_c HD.out _ R2.out.cur).mono ?_
  rintro e w3 ⟨p, rfl, h3, hs3⟩
  have R3 : Hid (Rg w g a n cap w1 w3) := R2.out.next hs3.out
  clear R2 hs3 h3
  go_wp2_with fail
  refine (l6DrawAddr_c HD.out w1 _ R3.out s).mono ?_
  rintro e w4 ⟨x, rfl, HX, R4⟩
  clear R3
  go_wp2_with fail
  refine (l1DrawSize_c HD.out _ R4.out.cur).mono ?_
  rintro e w5 ⟨sz, rfl, h5, hs5⟩
  have R5 : Hid (Rg w g a n cap w1 w5) := R4.out.next hs5.out
  have H5 : Hid ((Lit.int .i64 sz).wf = true) := h5
  clear R4 hs5 h5
  go_wp2_with fail
  refine (l6DrawKind_c HD.out _ R5.out.cur).mono ?_
  rintro e w6 ⟨k, rfl, hs6⟩
  have R6 : Hid (Rg w g a n cap w1 w6) := R5.out.next hs6.out
  clear R5 hs6
  obtain ⟨b, m, c, l, hv, hl, hm, hu, hsl⟩ := any_list R6.out s
  rw [hv]
  have HU : Hid (∀ j, U (l.getD j 0)) := hu
  have HSL : Hid (Sl .u64 w6 b l) := hsl
  clear hu hsl
  go_wp2_with fail
  refine bodyPost_ret (results_d5 Tryd.results7 _ _ _) rfl ?_
  exact ⟨b, m, c, l, p, x, sz, k, rfl, hl, hm, HU, HSL, HX, H5.out, R6.out.cur.below⟩

end Go.Proofs.YtldjmphflgecjacDoor
