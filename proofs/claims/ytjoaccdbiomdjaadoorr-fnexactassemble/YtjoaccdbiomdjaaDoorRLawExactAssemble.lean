/- The walk of laws.FnExactAssemble: both assemble a text alike. -/
import Derived.Test.YtjoaccdbiomdjaaDoorRAsmI
namespace Go.Proofs.YtjoaccdbiomdjaaDoorR
open Go.RowKit
set_option linter.unusedVariables false

noncomputable def asmAll (L : List UInt8) : List Int × Int := if L.length ≤ 20000 then asm [] L 0 [] else ([], 0)

theorem asmAll_len (L : List UInt8) : (asmAll L).1.length ≤ 20000 := by
  unfold asmAll
  split
  · have := asm_len L [] 0 []
    simp at this
    omega
  · simp

theorem specAsm_all (s : ByteArray) (hs : s.size ≤ 1048576) (w : World) :
    Calls Tryd.prog 13 #[.string s] w fun e w' => ∃ v, e = .returned (.tuple #[v, .int .i64 (asmAll s.data.toList).2]) ∧ Lst 41 w w' v (asmAll s.data.toList).1.length ((asmAll s.data.toList).1.map (Value.int .u64)) := by
  have hl : s.data.toList.length = s.size := by rw [Array.length_toList]; rfl
  by_cases h : s.size ≤ 20000
  · have e : asmAll s.data.toList = asm [] s.data.toList 0 [] := by unfold asmAll; rw [if_pos (by omega)]
    rw [e]
    exact specAsm_any s h w
  · have e : asmAll s.data.toList = ([], 0) := by unfold asmAll; rw [if_neg (by omega)]
    rw [e]
    have hg : ((20000 : Int) < (s.size : Int)) := by omega
    have HL0 := lst_empty 41 w
    clear e
    go_enter Tryd.func13, Tryd.ntmps13
    go_wp2_with fail
    go_ret2
    exact ⟨_, rfl, HL0⟩

theorem implAsm_all (s : ByteArray) (hs : s.size ≤ 1048576) (w : World) (hT : Tp w) :
    Calls Tryd.prog 14 #[.string s] w fun e w' => ∃ v, e = .returned (.tuple #[v, .int .i64 (asmAll s.data.toList).2]) ∧ Lst 41 w w' v (asmAll s.data.toList).1.length ((asmAll s.data.toList).1.map (Value.int .u64)) := by
  have hl : s.data.toList.length = s.size := by rw [Array.length_toList]; rfl
  by_cases h : s.size ≤ 20000
  · have e : asmAll s.data.toList = asm [] s.data.toList 0 [] := by unfold asmAll; rw [if_pos (by omega)]
    rw [e]
    exact implAsm_any s h w hT
  · have e : asmAll s.data.toList = ([], 0) := by unfold asmAll; rw [if_neg (by omega)]
    rw [e]
    have hg : ((20000 : Int) < (s.size : Int)) := by omega
    have HL0 : Hid (Lst 41 w w (.slice none 0 0) 0 []) := nil_lst _ (Below.refl _ _)
    clear e
    go_enter Tryd.func14, Tryd.ntmps14
    go_wp2_with fail
    go_ret2
    exact ⟨_, rfl, HL0.out⟩

namespace fnExactAssemble

set_option maxHeartbeats 1600000 in
theorem walk (s : ByteArray) (hs : s.size ≤ 9223372036854775807) (w : World) (hT : Tp w) :
    Calls Tryd.prog 5 #[.string s] w fun e w' => e = .returned (.bool true) ∧ Below w.heap.size w w' := by
  by_cases hbig : s.size ≤ 1048576
  · have hg : ¬ ((1048576 : Int) < (s.size : Int)) := by omega
    have HTp : Hid (Tp w) := hT
    have HN0 := asmAll_len s.data.toList
    have HS0 := specAsm_all s hbig
    have HI0 := implAsm_all s hbig
    obtain ⟨⟨ws, q⟩, hR⟩ : ∃ R, R = asmAll s.data.toList := ⟨_, rfl⟩
    rw [← hR] at HS0 HI0 HN0
    simp only at HS0 HI0 HN0
    obtain ⟨n, hn⟩ : ∃ n, n = ws.length := ⟨_, rfl⟩
    rw [← hn] at HS0 HI0 HN0
    have HN : Hid (ws.length = n) := hn.symm
    have HS : Hid _ := HS0
    have HI : Hid _ := HI0
    have tq : (q != q) = false := by simp
    clear HS0 HI0 hR hT hn
    go_enter Tryd.func5, Tryd.ntmps5
    go_wp2_with fail
    refine (HS.out _).mono ?_
    rintro e w1 ⟨v0, rfl, hL1⟩
    obtain ⟨a0, c0, rfl⟩ := hL1.slice
    have L1 : Hid (Lst 41 w w1 (.slice a0 n c0) n (ws.map (Value.int .u64))) := hL1
    clear hL1
    go_wp2_with fail
    refine (HI.out _ (HTp.out.below L1.out.2)).mono ?_
    rintro e w2 ⟨v1, rfl, hL2⟩
    obtain ⟨a1, c1, rfl⟩ := hL2.slice
    have L2 : Hid (Lst 41 w1 w2 (.slice a1 n c1) n (ws.map (Value.int .u64))) := hL2
    have L12 : Hid (Lst 41 w w2 (.slice a0 n c0) n (ws.map (Value.int .u64))) := Lst.below L1.out hL2.2
    have LT : Hid (∀ k, (Value.slice a0 n c0).ownBlock = some k → k < w1.heap.size) := own_block_lt L1.out.1
    have GE : Hid (∀ k, (Value.slice a1 n c1).ownBlock = some k → w1.heap.size ≤ k) := by
      intro k hk
      rcases L2.out.1.2 with ⟨e1, _⟩ | ⟨g, cap, cur, e1, hgg, _⟩
      · rw [e1] at hk; cases hk
      · rw [e1] at hk
        have h9 : g = k := Option.some.inj hk
        omega
    have W01 : Hid (w.heap.size ≤ w1.heap.size) := L1.out.2.size
    clear hL2 L1
    go_wp2_with fail
    refine (eqUint64S_any a1 a0 n n c1 c0 ws ws _ HN.out HN.out (by omega) (by omega) (own_sl' L2.out.1) (own_sl' L12.out.1)).mono ?_
    rintro e w3 ⟨rfl, hb3⟩
    have L3 : Hid (Lst 41 w1 w3 (.slice a1 n c1) n (ws.map (Value.int .u64))) := Lst.below L2.out hb3
    have L13 : Hid (Lst 41 w w3 (.slice a0 n c0) n (ws.map (Value.int .u64))) := Lst.below L12.out hb3
    clear hb3 L2 L12
    rw [show decide (ws = ws) = true from by simp]
    go_wp2_with fail
    refine (markUint64S_any a1 n c1 _ 1 ws _ (by omega) (by omega) (by omega) L3.out.1).mono ?_
    rintro e w4 ⟨rfl, og4, gr4⟩
    have O4 : Hid (w4.ownsRow w1.heap.size 41 1 (.slice a1 n c1) n ((marksW 1 n).map (Value.int .u64))) := og4
    have O14 : Hid (w4.ownsRow w.heap.size 41 1 (.slice a0 n c0) n (ws.map (Value.int .u64))) := kept_of L13.out.1 gr4 (fun k hk e => by have h1 := LT.out k hk; have h2 := GE.out k e; omega)
    have B4 : Hid (Below w.heap.size w w4) := L13.out.2.grown gr4 L13.out.2.size (by intro k hk; have := GE.out k hk; have := W01.out; omega)
    clear og4 gr4 L3 L13
    go_wp2_with fail
    refine (heldUint64S_any a1 n c1 1 _ (by omega) (by omega) (by omega) (own_sl' O4.out)).mono ?_
    rintro e w5 ⟨rfl, hw5⟩
    have hw5' := hw5.symm
    subst hw5'
    go_wp2_with fail
    refine (HI.out _ (HTp.out.below B4.out)).mono ?_
    rintro e w6 ⟨v2, rfl, hL6⟩
    obtain ⟨a2, c2, rfl⟩ := hL6.slice
    have L6 : Hid (Lst 41 _ w6 (.slice a2 n c2) n (ws.map (Value.int .u64))) := hL6
    have O6 : Hid (w6.ownsRow w1.heap.size 41 1 (.slice a1 n c1) n ((marksW 1 n).map (Value.int .u64))) := ownsRow_below O4.out hL6.2
    have O16 : Hid (w6.ownsRow w.heap.size 41 1 (.slice a0 n c0) n (ws.map (Value.int .u64))) := ownsRow_below O14.out hL6.2
    have B6 : Hid (Below w.heap.size w w6) := below_trans B4.out hL6.2
    clear hL6 O4 O14 B4
    go_wp2_with fail
    refine (eqUint64S_any a2 a0 n n c2 c0 ws ws _ HN.out HN.out (by omega) (by omega) (own_sl' L6.out.1) (own_sl' O16.out)).mono ?_
    rintro e w7 ⟨rfl, hb7⟩
    have O7 : Hid (w7.ownsRow w1.heap.size 41 1 (.slice a1 n c1) n ((marksW 1 n).map (Value.int .u64))) := ownsRow_below O6.out hb7
    have B7 : Hid (Below w.heap.size w w7) := below_trans B6.out hb7
    clear hb7 O6 O16 L6 B6
    rw [show decide (ws = ws) = true from by simp]
    go_wp2_with fail
    refine (heldUint64S_any a1 n c1 1 _ (by omega) (by omega) (by omega) (own_sl' O7.out)).mono ?_
    rintro e w8 ⟨rfl, hw8⟩
    have hw8' := hw8.symm
    subst hw8'
    go_wp2_with fail
    go_ret
    exact ⟨rfl, B7.out⟩
  · have hg : ((1048576 : Int) < (s.size : Int)) := by omega
    go_enter Tryd.func5, Tryd.ntmps5
    go_wp2_with fail
    go_ret
    exact ⟨rfl, Below.refl _ _⟩

end fnExactAssemble

end Go.Proofs.YtjoaccdbiomdjaaDoorR
