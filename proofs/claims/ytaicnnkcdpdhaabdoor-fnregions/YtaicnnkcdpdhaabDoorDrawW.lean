/- Registers most of whose entries have a region. By tools/genDrawV.py. What Region and Permits are drawn. -/
import Derived.Test.YtaicnnkcdpdhaabDoorDrawU
import Derived.Test.YtaicnnkcdpdhaabDoorDrawM
import Derived.Test.YtaicnnkcdpdhaabDoorRegH
import Derived.Deep.CutRange
namespace Go.Proofs.YtaicnnkcdpdhaabDoor
open Go.RowKit
set_option linter.unusedVariables false

/-- A number below m is drawn, registers and a literal's slice being there. -/
theorem below_k {w0 : World} {g : Nat} {a : Option Addr} {n cap : Nat} {zs : List Int} (hcd : Code w0 a n zs) (m : Nat) (hm : 0 < m) (w W : World) (h : Rg w0 g a n cap w W) :
    Calls Tryd.prog 11 #[.pointer (some ⟨g, 0, none⟩), .int .i64 m] W fun e w' => ∃ k : Nat, e = .returned (.int .i64 k) ∧ k < m ∧ Hid (Rg w0 g a n cap w w') ∧ Hid (∀ b o, W.heap[b]? = some o → b ≠ g → w'.heap[b]? = some o) := by
  refine (l1Below_c hcd m (by omega) W h.cur).mono ?_
  rintro e w' ⟨x, rfl, ⟨hx0, hx1⟩, hs⟩
  obtain ⟨k, rfl⟩ := Int.eq_ofNat_of_zero_le hx0
  exact ⟨k, rfl, by omega, h.next hs.out, fun b o hb hne => hs.out.keep hb hne⟩

theorem Rg.cellA {w0 : World} {g : Nat} {a : Option Addr} {n cap : Nat} {w wr : World} (h : Rg w0 g a n cap w wr) (k : Nat) (hk : k < 22) : ∃ v, wr.cell? ⟨w.heap.size, k, none⟩ = some (.int .u64 v) ∧ wr.frozen? ⟨w.heap.size, k, none⟩ = false ∧ (∀ o, (wr.alloc o).cell? ⟨w.heap.size, k, none⟩ = some (.int .u64 v)) ∧ (∀ o, (wr.alloc o).frozen? ⟨w.heap.size, k, none⟩ = false) := by
  obtain ⟨v, hv, hc, hf⟩ := h.cell k hk
  have hlt := World.block_lt_of_cell? _ _ hc
  have hA : ∀ o, Below wr.heap.size wr (wr.alloc o) := fun o => (Below.refl _ _).alloc (Nat.le_refl _) _
  exact ⟨v, hc, hf, fun o => ((hA o).cell (by exact hlt)).trans hc, fun o => ((hA o).frozen (by exact hlt)).trans hf⟩

theorem at10 {w : World} {b k : Nat} (hr : w.heap[b]? = some (.cells #[.int .u64 31, .int .u64 27, .int .u64 25, .int .u64 15, .int .u64 23, .int .u64 153, .int .u64 145, .int .u64 137, .int .u64 159, .int .u64 0] 27)) (hk : k < 10) : ∃ v, w.cell? ⟨b, k, none⟩ = some (.int .u64 v) := few_at [31, 27, 25, 15, 23, 153, 145, 137, 159, 0] 27 hr hk

theorem at7 {w : World} {b k : Nat} (hr : w.heap[b]? = some (.cells #[.int .u64 0, .int .u64 511, .int .u64 1023, .int .u64 255, .int .u64 2047, .int .u64 1024, .int .u64 3] 27)) (hk : k < 7) : ∃ v, w.cell? ⟨b, k, none⟩ = some (.int .u64 v) := few_at [0, 511, 1023, 255, 2047, 1024, 3] 27 hr hk

set_option maxHeartbeats 12800000 in
theorem l6DrawCsrs_c {w0 : World} {g : Nat} {a : Option Addr} {n cap : Nat} {zs : List Int} (hcd : Code w0 a n zs) (w : World) (hc : Cur w0 w g a n cap) :
    Calls Tryd.prog 10 #[.pointer (some ⟨g, 0, none⟩)] w fun e w' => ∃ s : Bool, e = .returned (anyV w s) ∧ Hid (Rg w0 g a n cap w w') := by
  have HD : Hid (Code w0 a n zs) := hcd
  have HC0 : Hid (Cur w0 w g a n cap) := hc
  have FT : Hid (anyV w true = .slice (some ⟨w.heap.size, 1, none⟩) 21 21) := (rfl : anyV w true = _)
  have FF : Hid (anyV w false = .slice (some ⟨w.heap.size, 0, none⟩) 22 22) := (rfl : anyV w false = _)
  clear hcd hc
  go_enter Tryd.func10, Tryd.ntmps10
  go_wp2_with fail
  refine (l4DrawAny_c HD.out _ HC0.out).mono ?_
  rintro e w2 ⟨s, rfl, R2⟩
  clear HC0
  cases s with
  | true =>
    rw [FT.out]
    go_wp2_with fail
    go_ret
    exact ⟨true, by rw [FT.out]; rfl, R2⟩
  | false =>
    rw [FF.out]
    go_wp2_with fail
    refine (l1Once_c HD.out 3 (by omega) _ R2.out.cur).mono ?_
    rintro e w3 ⟨c, rfl, hs3⟩
    have R3 : Hid (Rg w0 g a n cap w w3) := R2.out.next hs3.out
    clear R2 hs3
    cases c with
    | true =>
      go_wp2_with fail
      go_ret
      exact ⟨false, by rw [FF.out]; rfl, R3⟩
    | false =>
      obtain ⟨v16, -, c16, f16⟩ := R3.out.cell 16 (by omega)
      go_wp2_with fail
      have R4 : Hid (Rg w0 g a n cap w (w3.setCell ⟨w.heap.size, 16, none⟩ (.int .u64 0))) := R3.out.put 16 _ U0
      clear R3 c16 f16 v16
      generalize w3.setCell ⟨w.heap.size, 16, none⟩ (.int .u64 0) = w4 at *
      go_loopw [4] (fun i wr => ∃ k : Nat, k ≤ 4 ∧ i = .int .i64 k ∧ Hid (Rg w0 g a n cap w wr)) (fun i _ => 4 - (intOf i).toNat)
      case atStart => exact ⟨0, by omega, rfl, R4⟩
      case round =>
        obtain ⟨k, hk, rfl, hr⟩ := hrel
        by_cases hlt : k < 4
        · have dk : decide ((k : Int) < 4) = true := decide_eq_true (by omega)
          go_wp2_with fail
          obtain ⟨v9, c9, f9, hA, hF⟩ := hr.out.cellA 16 (by omega)
          have HBA : Hid (Calls Tryd.prog 11 #[.pointer (some ⟨g, 0, none⟩), .int .i64 10] (wr.alloc (.cells #[.int .u64 31, .int .u64 27, .int .u64 25, .int .u64 15, .int .u64 23, .int .u64 153, .int .u64 145, .int .u64 137, .int .u64 159, .int .u64 0] 27)).drew fun e w' => ∃ (q : Nat) (v u : Int), e = .returned (.int .i64 q) ∧ q < 10 ∧ Hid (Rg w0 g a n cap w w') ∧ w'.heap[wr.heap.size]? = some (.cells #[.int .u64 31, .int .u64 27, .int .u64 25, .int .u64 15, .int .u64 23, .int .u64 153, .int .u64 145, .int .u64 137, .int .u64 159, .int .u64 0] 27) ∧ w'.cell? ⟨wr.heap.size, q, none⟩ = some (.int .u64 u) ∧ w'.cell? ⟨w.heap.size, 16, none⟩ = some (.int .u64 v) ∧ w'.frozen? ⟨w.heap.size, 16, none⟩ = false) := by
            refine (below_k HD.out 10 (by omega) w _ (hr.out.alloc _).drew).mono ?_
            rintro e w' ⟨q, rfl, hq, R5, K5⟩
            have hrow := K5.out _ _ (heap_alloc_new wr _) (Nat.ne_of_gt hr.out.cur.lt)
            obtain ⟨u, hu⟩ := at10 hrow hq
            obtain ⟨v, h1, h2, h3, h4⟩ := R5.out.cellA 16 (by omega)
            exact ⟨q, v, u, rfl, hq, R5, hrow, hu, h1, h2⟩
          have HBB : Hid (Calls Tryd.prog 11 #[.pointer (some ⟨g, 0, none⟩), .int .i64 10] wr.drew fun e w' => ∃ (q : Nat) (v u : Int), e = .returned (.int .i64 q) ∧ q < 10 ∧ Hid (Rg w0 g a n cap w w') ∧ (w'.alloc (.cells #[.int .u64 31, .int .u64 27, .int .u64 25, .int .u64 15, .int .u64 23, .int .u64 153, .int .u64 145, .int .u64 137, .int .u64 159, .int .u64 0] 27)).cell? ⟨w'.heap.size, q, none⟩ = some (.int .u64 u) ∧ w'.cell? ⟨w.heap.size, 16, none⟩ = some (.int .u64 v) ∧ (∀ o, (w'.alloc o).cell? ⟨w.heap.size, 16, none⟩ = some (.int .u64 v)) ∧ (∀ o, (w'.alloc o).frozen? ⟨w.heap.size, 16, none⟩ = false)) := by
            refine (below_k HD.out 10 (by omega) w _ hr.out.drew).mono ?_
            rintro e w' ⟨q, rfl, hq, R5, K5⟩
            obtain ⟨u, hu⟩ := at10 (heap_alloc_new w' _) hq
            obtain ⟨v, h1, h2, h3, h4⟩ := R5.out.cellA 16 (by omega)
            exact ⟨q, v, u, rfl, hq, R5, hu, h1, h3, h4⟩
          go_cut [] from 17 to 47 (fun wc => Hid (Rg w0 g a n cap w wc))
          case first =>
            go_region_with (first | (go_at_call 11; with_reducible refine HBA.out.mono ?_; rintro e w5 ⟨k1, v5, u5, rfl, hk1, R5, row5, hc5, h1, h2⟩; have hka : (0 : Int) ≤ (k1 : Int) := (by omega); have hkb : (k1 : Int) < 10 := (by omega)) | (go_at_call 11; with_reducible refine HBB.out.mono ?_; rintro e w5 ⟨k1, v5, u5, rfl, hk1, R5, hc5, h1, h2, h3⟩; have hka : (0 : Int) ≤ (k1 : Int) := (by omega); have hkb : (k1 : Int) < 10 := (by omega)))
            all_goals go_wp2_with fail
            all_goals go_meet
            all_goals (first | exact R5.out.put 16 _ (U_bits _ _ _) | exact (R5.out.alloc _).put 16 _ (U_bits _ _ _))
          case rest =>
            obtain ⟨j, hj⟩ : ∃ j : Nat, 17 + k = j := ⟨_, rfl⟩
            have hid2 : (17 : Int) + (k : Int) = (j : Int) := by omega
            have hid : wrap64 (j : Int) = (j : Int) := by unfold wrap64; omega
            have hid4 : IntKind.i64.wrap (j : Int) = (j : Int) := by rw [IntKind.wrap_i64]; omega
            have hid0 : (0 : Int) ≤ (j : Int) := by omega
            have hid1 : (j : Int) < 22 := by omega
            have hj22 : j < 22 := by omega
            clear hj
            clear HBA HBB hA hF c9 f9 hr
            have HBA : Hid (Calls Tryd.prog 11 #[.pointer (some ⟨g, 0, none⟩), .int .i64 7] (wc.alloc (.cells #[.int .u64 0, .int .u64 511, .int .u64 1023, .int .u64 255, .int .u64 2047, .int .u64 1024, .int .u64 3] 27)).drew fun e w' => ∃ (q : Nat) (v u : Int), e = .returned (.int .i64 q) ∧ q < 7 ∧ Hid (Rg w0 g a n cap w w') ∧ w'.heap[wc.heap.size]? = some (.cells #[.int .u64 0, .int .u64 511, .int .u64 1023, .int .u64 255, .int .u64 2047, .int .u64 1024, .int .u64 3] 27) ∧ w'.cell? ⟨wc.heap.size, q, none⟩ = some (.int .u64 u) ∧ w'.cell? ⟨w.heap.size, j, none⟩ = some (.int .u64 v) ∧ w'.frozen? ⟨w.heap.size, j, none⟩ = false) := by
              refine (below_k HD.out 7 (by omega) w _ (hcut.out.alloc _).drew).mono ?_
              rintro e w' ⟨q, rfl, hq, R5, K5⟩
              have hrow := K5.out _ _ (heap_alloc_new wc _) (Nat.ne_of_gt hcut.out.cur.lt)
              obtain ⟨u, hu⟩ := at7 hrow hq
              obtain ⟨v, h1, h2, h3, h4⟩ := R5.out.cellA j (by omega)
              exact ⟨q, v, u, rfl, hq, R5, hrow, hu, h1, h2⟩
            have HBB : Hid (Calls Tryd.prog 11 #[.pointer (some ⟨g, 0, none⟩), .int .i64 7] wc.drew fun e w' => ∃ (q : Nat) (v u : Int), e = .returned (.int .i64 q) ∧ q < 7 ∧ Hid (Rg w0 g a n cap w w') ∧ (w'.alloc (.cells #[.int .u64 0, .int .u64 511, .int .u64 1023, .int .u64 255, .int .u64 2047, .int .u64 1024, .int .u64 3] 27)).cell? ⟨w'.heap.size, q, none⟩ = some (.int .u64 u) ∧ w'.cell? ⟨w.heap.size, j, none⟩ = some (.int .u64 v) ∧ (∀ o, (w'.alloc o).cell? ⟨w.heap.size, j, none⟩ = some (.int .u64 v)) ∧ (∀ o, (w'.alloc o).frozen? ⟨w.heap.size, j, none⟩ = false)) := by
              refine (below_k HD.out 7 (by omega) w _ hcut.out.drew).mono ?_
              rintro e w' ⟨q, rfl, hq, R5, K5⟩
              obtain ⟨u, hu⟩ := at7 (heap_alloc_new w' _) hq
              obtain ⟨v, h1, h2, h3, h4⟩ := R5.out.cellA j (by omega)
              exact ⟨q, v, u, rfl, hq, R5, hu, h1, h3, h4⟩
            have HC : Hid (∀ W, Rg w0 g a n cap w W → Calls Tryd.prog 11 #[.pointer (some ⟨g, 0, none⟩), .int .i64 2] W fun e w' => ∃ (k2 : Nat) (v : Int), e = .returned (.int .i64 k2) ∧ k2 < 2 ∧ Hid (Rg w0 g a n cap w w') ∧ Hid (∀ b o, W.heap[b]? = some o → b ≠ g → w'.heap[b]? = some o) ∧ w'.cell? ⟨w.heap.size, j, none⟩ = some (.int .u64 v) ∧ w'.frozen? ⟨w.heap.size, j, none⟩ = false ∧ (∀ o, (w'.alloc o).cell? ⟨w.heap.size, j, none⟩ = some (.int .u64 v)) ∧ (∀ o, (w'.alloc o).frozen? ⟨w.heap.size, j, none⟩ = false)) := by
              intro W hW
              refine (below_k HD.out 2 (by omega) w W hW).mono ?_
              rintro e w' ⟨k2, rfl, hk2, R7, K7⟩
              obtain ⟨v, h1, h2, h3, h4⟩ := R7.out.cellA j (by omega)
              exact ⟨k2, v, rfl, hk2, R7, K7, h1, h2, h3, h4⟩
            have HN : Hid (∀ (W w' : World) (b k1 : Nat), (∀ b o, W.heap[b]? = some o → b ≠ g → w'.heap[b]? = some o) → W.heap[b]? = some (.cells #[.int .u64 0, .int .u64 511, .int .u64 1023, .int .u64 255, .int .u64 2047, .int .u64 1024, .int .u64 3] 27) → b ≠ g → k1 < 7 → ∃ v, w'.cell? ⟨b, k1, none⟩ = some (.int .u64 v)) := fun W w' b k1 K hr hne hk => at7 (K _ _ hr hne) hk
            have HM : Hid (∀ (w' : World) (k1 : Nat), k1 < 7 → ∃ v, (w'.alloc (.cells #[.int .u64 0, .int .u64 511, .int .u64 1023, .int .u64 255, .int .u64 2047, .int .u64 1024, .int .u64 3] 27)).cell? ⟨w'.heap.size, k1, none⟩ = some (.int .u64 v)) := fun w' k1 hk => at7 (heap_alloc_new w' _) hk
            have HGW : Hid (wc.heap.size ≠ g) := (Nat.ne_of_gt hcut.out.cur.lt)
            go_wp2_with fail
            go_region_with (first | (go_at_call 11; with_reducible refine HBA.out.mono ?_; rintro e w5 ⟨k1, v5, u5, rfl, hk1, R5, row5, hc5, h1, h2⟩; have hka : (0 : Int) ≤ (k1 : Int) := (by omega); have hkb : (k1 : Int) < 7 := (by omega)) | (go_at_call 11; with_reducible refine HBB.out.mono ?_; rintro e w5 ⟨k1, v5, u5, rfl, hk1, R5, hc5, h1, h2, h3⟩; have hka : (0 : Int) ≤ (k1 : Int) := (by omega); have hkb : (k1 : Int) < 7 := (by omega)) | (go_at_call 11; with_reducible refine (HC.out _ ?_).mono ?_; exact R5.out; rintro e w7 ⟨k2, v7, rfl, hk2, R7, K7, h5, h6, h7, h8⟩; have hu7 := HN.out _ w7 _ k1 K7.out row5 HGW.out hk1; cases hu7; rename_i u7 hu7; have hx2 : IntKind.u64.wrap (k2 : Int) = k2 := (by rw [IntKind.wrap_u64]; omega)) | (go_at_call 11; with_reducible refine (HC.out _ ?_).mono ?_; exact R5.out; rintro e w7 ⟨k2, v7, rfl, hk2, R7, K7, h5, h6, h7, h8⟩; have hu7 := HM.out w7 k1 hk1; cases hu7; rename_i u7 hu7; have hx2 : IntKind.u64.wrap (k2 : Int) = k2 := (by rw [IntKind.wrap_u64]; omega)) | (go_at_call 11; with_reducible refine (HC.out _ ?_).mono ?_; exact R5.out.alloc _; rintro e w7 ⟨k2, v7, rfl, hk2, R7, K7, h5, h6, h7, h8⟩; have hu7 := HN.out _ w7 _ k1 K7.out (heap_alloc_new w5 _) (Nat.ne_of_gt R5.out.cur.lt) hk1; cases hu7; rename_i u7 hu7; have hx2 : IntKind.u64.wrap (k2 : Int) = k2 := (by rw [IntKind.wrap_u64]; omega)))
            all_goals go_wp2_with fail
            all_goals go_roundw
            all_goals (first | exact ⟨k + 1, by omega, by go_num, R7.out.put _ _ (U_wrap _)⟩ | exact ⟨k + 1, by omega, by go_num, (R7.out.alloc _).put _ _ (U_wrap _)⟩ | (simp [intOf]; omega))

        · have hk4 : k = 4 := by omega
          subst hk4
          go_wp2_with fail
          go_ret
          exact ⟨false, by rw [FF.out]; rfl, hr⟩

end Go.Proofs.YtaicnnkcdpdhaabDoor

namespace Go.Proofs.YtaicnnkcdpdhaabDoor
open Go.RowKit
set_option linter.unusedVariables false

theorem results_d5 {fn : Func} {t u v x y : Tmp} (h : fn.results = #[.tmp t, .tmp u, .tmp v, .tmp x, .tmp y]) (tmps : Array Value) (P : Program) (w : World) :
    (results fn tmps).run P w = .ok (.tuple #[tmps.getD t undef, tmps.getD u undef, tmps.getD v undef, tmps.getD x undef, tmps.getD y undef]) w := by
  simp only [results, h]
  simp

set_option maxHeartbeats 3200000 in
theorem DrawRegion_c {a : Option Addr} {n : Nat} (cap : Nat) {zs : List Int} (w : World) (hcd : Code w a n zs) :
    Calls Tryd.prog 5 #[.slice a n cap] w fun e w' => ∃ (b : Option Addr) (m c : Nat) (l : List Int) (i : Int), e = .returned (.tuple #[.slice b m c, .int .i64 i]) ∧ l.length = m ∧ m ≤ 22 ∧ Hid (∀ j, U (l.getD j 0)) ∧ Hid (Sl .u64 w' b l) ∧ Hid (Below w.heap.size w w') := by
  have HD : Hid (Code w a n zs) := hcd
  clear hcd
  go_enter Tryd.func5, Tryd.ntmps5
  go_wp2_with fail
  refine (l1New_c cap _ HD.out).mono ?_
  rintro e w1 ⟨g, rfl, hc⟩
  go_wp2_with fail
  refine (l6DrawCsrs_c HD.out _ hc.out).mono ?_
  rintro e w2 ⟨s, rfl, R2⟩
  go_wp2_with fail
  refine (l1Below_c HD.out 4 (by omega) _ R2.out.cur).mono ?_
  rintro e w3 ⟨i, rfl, hi, hs3⟩
  have R3 : Hid (Rg w g a n cap w1 w3) := R2.out.next hs3.out
  clear R2 hs3 hi
  go_wp2_with fail
  refine (l1Once_c HD.out 14 (by omega) _ R3.out.cur).mono ?_
  rintro e w4 ⟨c, rfl, hs4⟩
  have R4 : Hid (Rg w g a n cap w1 w4) := R3.out.next hs4.out
  clear R3 hs4
  cases c with
  | false =>
    obtain ⟨b, m, c, l, hv, hl, hm, hu, hsl⟩ := any_list R4.out s
    rw [hv]
    have HU : Hid (∀ j, U (l.getD j 0)) := hu
    have HSL : Hid (Sl .u64 w4 b l) := hsl
    clear hu hsl
    go_wp2_with fail
    go_ret2
    exact ⟨b, m, c, l, i, rfl, hl, hm, HU, HSL, R4.out.cur.below⟩
  | true =>
    go_wp2_with fail
    have HA := Cs.alloc R4.out.cur (.cells #[.int .i64 (-1), .int .i64 4, .int .i64 4611686018427387904] 2)
    refine (l1Below_c HD.out 3 (by omega) _ HA.1).mono ?_
    rintro e w5 ⟨x, rfl, ⟨hx0, hx1⟩, hs5⟩
    obtain ⟨k, rfl⟩ := Int.eq_ofNat_of_zero_le hx0
    obtain ⟨v, hv0, hcell⟩ := few_ints [-1, 4, 4611686018427387904] 2 (hs5.out.keep (heap_alloc_new _ _) (Nat.ne_of_gt R4.out.cur.lt)) (by decide) (k := k) (by simp; omega)
    have R5 : Hid (Rg w g a n cap w1 w5) := (R4.out.next HA).next hs5.out
    clear hs5 HA hv0
    obtain ⟨b, m, c, l, hv, hl, hm, hu, hsl⟩ := any_list R5.out s
    rw [hv]
    have HU : Hid (∀ j, U (l.getD j 0)) := hu
    have HSL : Hid (Sl .u64 w5 b l) := hsl
    clear hu hsl
    go_wp2_with fail
    go_ret2
    exact ⟨b, m, c, l, _, rfl, hl, hm, HU, HSL, R5.out.cur.below⟩

theorem U_region (l : List Int) (i : Nat) : U (regionV l i).1 ∧ U (regionV l i).2.1 := by
  have hf : U (regFrom l i) := by
    unfold regFrom
    split
    · exact U_wrap _
    · exact U0
  unfold regionV
  split
  · split
    · exact ⟨U0, U0⟩
    · exact ⟨hf, U_wrap _⟩
  · split
    · exact ⟨U_wrap _, U_wrap _⟩
    · split
      · exact ⟨U_wrap _, U_wrap _⟩
      · exact ⟨U0, U0⟩

theorem three_U : ∀ x ∈ ([0, 18446744073709551615, 18446744073709551608] : List Int), U x := by
  intro x hx
  simp only [List.mem_cons, List.not_mem_nil, or_false] at hx
  rcases hx with rfl | rfl | rfl <;> constructor <;> decide

theorem six_U (lo hi : Int) (h0 : U lo) (h1 : U hi) : ∀ x ∈ ([lo, hi, IntKind.u64.wrap (lo - 1), IntKind.u64.wrap (hi + 1), IntKind.u64.wrap (lo + 4), IntKind.u64.wrap (hi - 7)] : List Int), U x := by
  intro x hx
  simp only [List.mem_cons, List.not_mem_nil, or_false] at hx
  rcases hx with rfl | rfl | rfl | rfl | rfl | rfl
  · exact h0
  · exact h1
  · exact U_wrap _
  · exact U_wrap _
  · exact U_wrap _
  · exact U_wrap _

end Go.Proofs.YtaicnnkcdpdhaabDoor
