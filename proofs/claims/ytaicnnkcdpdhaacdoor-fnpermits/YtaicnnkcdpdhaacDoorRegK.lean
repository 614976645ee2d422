/- The program's iterator over the protected regions: what it hands to the body of a loop. -/
import Derived.Test.YtaicnnkcdpdhaacDoorRegI
import Derived.RangeFuncNested
import Derived.RangeFuncBound
import Derived.RangeFuncCalls
import Derived.RangeFuncLeaves
import Derived.RangeFuncBox
import Derived.Shelf.Abstract
import Derived.Shelf.RegionOpen
import Derived.WalkKit
import Derived.OwnWalkIn
import Derived.TacticsInMore
import Derived.LoopNIn
import Derived.LoopIn
namespace Go.Proofs.YtaicnnkcdpdhaacDoor
open Go.RowKit Go.Shelf
set_option linter.unusedVariables false

attribute [local go_sem] Oper.semAt_some

theorem grown_bel {w w' : World} (hb : Below w.heap.size w w') (row : Option Nat) : w.grownBy w' row := ⟨hb.os, hb.tape, hb.output, hb.size, fun k hk _ => hb.block k hk⟩

def encR (x : Nat × Int × Int × Int) : Array Value := #[.int .i64 (x.1 : Int), .agg #[.int .u64 x.2.1, .int .u64 x.2.2.1, .int .u64 x.2.2.2]]

set_option maxRecDepth 100000 in
set_option maxHeartbeats 2000000 in
theorem regions1_in (n : Nat) (lp Bs n₀ b off cap : Nat) (l : List Int) (hl : ∀ j, U (l.getD j 0)) (J Jx : List (Nat × Int × Int × Int) → World → Prop) (hb : b < n₀) (hBs : Bs < n₀) (hg : 0 < n₀)
    (W : World) (hn : n₀ ≤ W.heap.size) (hT : Tab W) (hc : W.cell? ⟨Bs, 0, none⟩ = some (.slice (some ⟨b, off, none⟩) 22 cap)) (hs : ∀ j, j < 22 → W.cell? ⟨b, off + j, none⟩ = some (.int .u64 (l.getD j 0)))
    (hJ : AbidesFrom W.heap.size J)
    (hY : ∀ pre x W1, J pre W1 → pre.length < 4 → YieldAt Fence.wide (n - 1) Tryd.prog lp (encR x) W1 fun e W' => (e = .returned (.bool true) ∧ J (pre ++ [x]) W' ∧ Below n₀ W1 W') ∨ (e = .returned (.bool false) ∧ Jx (pre ++ [x]) W'))
    (h0 : J [] W) :
    CallsIn Fence.wide n Tryd.prog 43 #[.func (.yield lp) #[] #[], .pointer (some ⟨Bs, 0, none⟩)] W fun e W' => (∃ v, e = .returned v) ∧ ((∃ ys, ys = gotR l 4 ∧ J ys W') ∨ (∃ pre, pre <+: gotR l 4 ∧ Jx pre W')) := by
  have HC : Hid (W.cell? ⟨Bs, 0, none⟩ = some (.slice (some ⟨b, off, none⟩) 22 cap)) := hc
  have HS : Hid (∀ j, j < 22 → W.cell? ⟨b, off + j, none⟩ = some (.int .u64 (l.getD j 0))) := hs
  have HT : Hid (Tab W) := hT
  have HY : Hid (∀ pre x W1, J pre W1 → pre.length < 4 → YieldAt Fence.wide (n - 1) Tryd.prog lp (encR x) W1 fun e W' => (e = .returned (.bool true) ∧ J (pre ++ [x]) W' ∧ Below n₀ W1 W') ∨ (e = .returned (.bool false) ∧ Jx (pre ++ [x]) W')) := hY
  have HJ : Hid (AbidesFrom W.heap.size J) := hJ
  have HL : Hid (∀ j, U (l.getD j 0)) := hl
  clear hc hs hT hY hJ hl
  refine callsIn_of_wp Tryd.func43 rfl trivial ?_ rfl
  simp only [Tryd.ntmps43, List.size_toArray, List.length_cons, List.length_nil, Nat.reduceAdd, Nat.reduceSub, Array.replicate_succ, Array.replicate_zero, List.push_toArray, List.append_toArray, List.nil_append, List.cons_append]
  gi_wp2
  gi_loopw [7] (fun i wr => ∃ k : Nat, k ≤ 4 ∧ i = .int .i64 k ∧ J (gotR l k) wr ∧ Below n₀ W wr) (fun i _ => 4 - (intOf i).toNat)
  case atStart => exact ⟨0, by omega, rfl, h0, Below.refl _ _⟩
  case round =>
    obtain ⟨k, hk, rfl, hJs, hbw⟩ := hrel
    have HB : Hid (Below n₀ W wr) := hbw
    have HJs : Hid (J (gotR l k) wr) := hJs
    have hcw : wr.cell? ⟨Bs, 0, none⟩ = some (.slice (some ⟨b, off, none⟩) 22 cap) := (hbw.cell (p := ⟨Bs, 0, none⟩) hBs).trans HC.out
    have hsz : n₀ ≤ wr.heap.size := Nat.le_trans hn hbw.size
    clear hbw hJs
    by_cases hlt : k < 4
    · have HSP : Hid (Calls Tryd.prog 44 #[.slice (some ⟨b, off, none⟩) 22 cap, .int .i64 k] wr fun e w' => e = .returned (.tuple #[.int .u64 (spanV l k).1, .int .u64 (spanV l k).2]) ∧ Below wr.heap.size wr w') :=
        span_any b off cap l k hlt wr (HT.out.from HB.out hg) HL.out ((HB.out.cell (p := ⟨b, off + 16, none⟩) hb).trans (HS.out 16 (by omega))) ((HB.out.cell (p := ⟨b, off + (17 + k), none⟩) hb).trans (HS.out (17 + k) (by omega))) ((HB.out.cell (p := ⟨b, off + (16 + k), none⟩) hb).trans (HS.out (16 + k) (by omega)))
      by_cases hle : (spanV l k).2 ≤ (spanV l k).1
      · have HN : Hid (gotR l (k + 1) = gotR l k) := gotR_none hle
        have hge : decide ((spanV l k).1 ≥ (spanV l k).2) = true := by simpa using hle
        gi_wp2_with fail
        refine ⟨trivial, (fun h => by cases h), (callsIn_wide.2 HSP.out).mono ?_⟩
        rintro e w1 ⟨rfl, hb1⟩
        clear HSP
        have HJ1 : Hid (J (gotR l (k + 1)) w1) := by
          have := HJ.out _ wr w1 none HJs.out (grown_bel hb1 none) (fun r e => by cases e)
          rw [HN.out]; exact this
        have HB1 : Hid (Below n₀ W w1) := HB.out.trans (hb1.mono hsz)
        gi_wp2_with fail
        go_roundw
        case rel => exact ⟨k + 1, by omega, by simp, HJ1.out, HB1.out⟩
        case measure => simp [intOf]; omega
      · have hge : decide ((spanV l k).1 ≥ (spanV l k).2) = false := by simpa using hle
        have HN : Hid (gotR l (k + 1) = gotR l k ++ [(k, (spanV l k).1, IntKind.u64.wrap ((spanV l k).2 - 1), fld (l.getD 16 0) (8 * k) 8)]) := gotR_some hle
        have HPB : Hid (∀ w, Calls Tryd.prog 45 #[.int .u64 (l.getD 16 0), .int .i64 k] w fun e w' => e = .returned (.int .u64 (fld (l.getD 16 0) (8 * k) 8)) ∧ w' = w.drew) := fun w => pmpByte_any _ k (by omega) (HL.out 16).1 (HL.out 16).2 w
        have HC16 : Hid (∀ w1, Below wr.heap.size wr w1 → w1.cell? ⟨b, off + 16, none⟩ = some (.int .u64 (l.getD 16 0)) ∧ w1.cell? ⟨Bs, 0, none⟩ = some (.slice (some ⟨b, off, none⟩) 22 cap)) := fun w1 h1 =>
          ⟨(h1.cell (p := ⟨b, off + 16, none⟩) (Nat.lt_of_lt_of_le hb hsz)).trans ((HB.out.cell (p := ⟨b, off + 16, none⟩) hb).trans (HS.out 16 (by omega))), (h1.cell (p := ⟨Bs, 0, none⟩) (Nat.lt_of_lt_of_le hBs hsz)).trans hcw⟩
        have HLN : Hid ((gotR l k).length < 4) := by have := gotR_len l k; show (gotR l k).length < 4; omega
        have HPR : Hid (gotR l (k + 1) <+: gotR l 4) := by have := gotR_pre l (4 - (k + 1)) (k + 1); rw [show k + 1 + (4 - (k + 1)) = 4 from by omega] at this; exact this
        generalize fld (l.getD 16 0) (8 * k) 8 = by8 at *
        generalize l.getD 16 0 = c16 at *
        obtain ⟨s1, hs1⟩ : ∃ s1, (spanV l k).1 = s1 := ⟨_, rfl⟩
        obtain ⟨s2, hs2⟩ : ∃ s2, (spanV l k).2 = s2 := ⟨_, rfl⟩
        rw [hs1, hs2] at HSP HN hge
        clear hs1 hs2 hle
        gi_wp2_with fail
        refine ⟨trivial, (fun h => by cases h), (callsIn_wide.2 HSP.out).mono ?_⟩
        rintro e w1 ⟨rfl, hb1⟩
        clear HSP
        obtain ⟨hc1, hc2⟩ := HC16.out w1 hb1
        have HJ1 : Hid (J (gotR l k) w1) := HJ.out _ wr w1 none HJs.out (grown_bel hb1 none) (fun r e => by cases e)
        have HB1 : Hid (Below n₀ W w1) := HB.out.trans (hb1.mono hsz)
        have hsz1 : Hid (n₀ ≤ w1.heap.size) := Nat.le_trans hsz hb1.size
        clear hb1
        gi_wp2_with fail
        refine ⟨trivial, (fun h => by cases h), (callsIn_wide.2 (HPB.out _)).mono ?_⟩
        rintro e w2 ⟨rfl, hw2⟩
        subst hw2
        gi_wp2_with fail
        obtain ⟨x3, hx3⟩ : ∃ x3, IntKind.u64.wrap (s2 - 1) = x3 := ⟨_, rfl⟩
        have HN2 : Hid (gotR l (k + 1) = gotR l k ++ [(k, s1, x3, by8)]) := by have := HN.out; rw [hx3] at this; exact this
        rw [hx3]
        clear hx3 HN
        have HBA : Hid (Below w1.heap.size w1 ((w1.alloc (.cells #[.int .u64 s1, .int .u64 x3, .int .u64 by8] 38)).drew)) := ((Below.refl _ _).alloc (Nat.le_refl _) _).drew
        obtain ⟨fn, tmps, assign, body, hy, hR⟩ := HY.out (gotR l k) (k, s1, x3, by8) _ (HJ.out _ w1 _ none HJ1.out (grown_bel HBA.out none) (fun r e => by cases e)) HLN.out
        simp only [encR] at hy
        rw [hy]
        gi_wp2_with fail
        refine ⟨(fun h => by cases h), hR.mono ?_⟩
        rintro e W3 (⟨rfl, hJ3, hk3⟩ | ⟨rfl, hJx3⟩)
        · have HJ3 : Hid (J (gotR l (k + 1)) W3) := by rw [HN2.out]; exact hJ3
          have HB3 : Hid (Below n₀ W W3) := (HB1.out.trans (HBA.out.mono hsz1.out)).trans hk3
          clear hJ3 hk3
          gi_wp2_with fail
          go_roundw
          case rel => exact ⟨k + 1, by omega, by simp, HJ3.out, HB3.out⟩
          case measure => simp [intOf]; omega
        · have HJ3 : Hid (Jx (gotR l (k + 1)) W3) := by rw [HN2.out]; exact hJx3
          clear hJx3
          gi_wp2_with fail
          refine bodyPost_ret (results_none rfl _ _ _) rfl ?_
          exact ⟨⟨_, rfl⟩, .inr ⟨_, HPR.out, HJ3.out⟩⟩
    · obtain rfl : k = 4 := by omega
      gi_wp2_with fail
      go_end0
      exact ⟨⟨_, rfl⟩, .inl ⟨_, rfl, HJs.out⟩⟩

set_option maxHeartbeats 1000000 in
theorem regions_in (n : Nat) (a : Option Addr) (m cap : Nat) (w : World) :
    CallsIn Fence.wide n Tryd.prog 34 #[.slice a m cap] w fun e w' => e = .returned (.func (.func 43) #[] #[.pointer (some ⟨w.heap.size, 0, none⟩)]) ∧ w' = w.alloc (.cells #[.slice a m cap] 24) := by
  refine callsIn_of_wp Tryd.func34 rfl trivial ?_ rfl
  simp only [Tryd.ntmps34, List.size_toArray, List.length_cons, List.length_nil, Nat.reduceAdd, Nat.reduceSub, Array.replicate_succ, Array.replicate_zero, List.push_toArray, List.append_toArray, List.nil_append, List.cons_append]
  gi_wp2
  go_ret
  exact ⟨rfl, rfl⟩

theorem regions_stops (n : Nat) (Bs n₀ b off cap : Nat) (l : List Int) (hl : ∀ j, U (l.getD j 0)) (hb : b < n₀) (hBs : Bs < n₀) (hg : 0 < n₀) (w : World) (hn : n₀ ≤ w.heap.size) (hT : Tab w)
    (hc : w.cell? ⟨Bs, 0, none⟩ = some (.slice (some ⟨b, off, none⟩) 22 cap)) (hs : ∀ j, j < 22 → w.cell? ⟨b, off + j, none⟩ = some (.int .u64 (l.getD j 0))) :
    SeqStopsK Fence.wide n Tryd.prog 43 #[.pointer (some ⟨Bs, 0, none⟩)] encR (Below n₀) (fun ys => ys = gotR l 4) (fun pre => pre <+: gotR l 4) 4 w := fun lp J Jx W hW hJ hJx hY h0 =>
  regions1_in n lp Bs n₀ b off cap l hl J Jx hb hBs hg W (Nat.le_trans hn hW.size) (hT.from hW (Nat.lt_of_lt_of_le hg hn)) ((hW.cell (p := ⟨Bs, 0, none⟩) (Nat.lt_of_lt_of_le hBs hn)).trans hc)
    (fun j hj => (hW.cell (p := ⟨b, off + j, none⟩) (Nat.lt_of_lt_of_le hb hn)).trans (hs j hj)) hJ hY h0

theorem row_kept {A B : World} {row : Option Nat} {g : Nat} {cs : Array Value} {t : TypeId} {f : Nat × Nat} (h : A.heap[g]? = some (.cells cs t f)) (hg : A.grownBy B row) (hr : ∀ r, row = some r → ∃ o : Obj, A.heap[r]? = some o ∧ o.isCells = false) : B.heap[g]? = some (.cells cs t f) := by
  refine (hg.block g (Array.getElem?_eq_some_iff.1 h).1 fun e => ?_).trans h
  obtain ⟨o, ho, hc⟩ := hr g e.symm
  rw [h] at ho
  cases ho
  cases hc

theorem boxed_below {W W' : World} {n B : Nat} {t : TypeId} {v : Value} (h : Boxed W B t v) (hb : Below n W W') (hn : B < n) : Boxed W' B t v := (hb.block B hn).trans h

end Go.Proofs.YtaicnnkcdpdhaacDoor
