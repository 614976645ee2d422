/- The walk of laws.FnExactImage: both make the same memory out of words. -/
import Derived.Test.YtjoaccdbiomdjaaImgC
namespace Go.Proofs.Ytjoaccdbiomdjaa
open Go.RowKit
set_option linter.unusedVariables false

theorem imgL_len (ws : List Int) (size : Int) : ((imgL ws size).getD []).length ≤ 65536 := by
  cases h : imgL ws size with
  | none => simp
  | some zs =>
    unfold imgL at h
    split at h
    · rename_i ho
      have ho2 := of_decide_eq_true ho
      have := imgPut_len ws 0 _ _ h
      simp at this ⊢
      omega
    · cases h

theorem lst_own_lt {e : TypeId} {w0 wr : World} {v : Value} {n : Nat} {xs : List Value} (h : Lst e w0 wr v n xs) (k : Nat) (hk : v.ownBlock = some k) : w0.heap.size ≤ k ∧ k < wr.heap.size := by
  rcases h.1.2 with ⟨e1, _⟩ | ⟨g, cap, cur, e1, hg, hh, _⟩
  · rw [e1] at hk; cases hk
  · rw [e1] at hk
    have h9 : g = k := Option.some.inj hk
    subst h9
    refine ⟨hg, ?_⟩
    by_cases hl : g < wr.heap.size
    · exact hl
    · rw [Array.getElem?_eq_none (by omega)] at hh; cases hh

namespace fnExactImage

set_option maxHeartbeats 3200000 in
theorem walk (a0 : Option Addr) (len0 cap0 : Nat) (z0 : List Int) (a1 : Int) (w : World) (w0 : IsRow .u64 w a0 len0 cap0 z0) (w1 : (Lit.int .i64 a1).wf = true) :
    Calls Try.prog 3 #[.slice a0 len0 cap0, .int .i64 a1] w fun e w' => e = .returned (.bool true) ∧ Below w.heap.size w w' := by
  obtain ⟨ws, hz, hs, hw, hm⟩ := w0.sl
  have HWB : Hid (∀ x ∈ ws, 0 ≤ x ∧ x ≤ 18446744073709551615) := by
    intro x hx
    have h := hw x hx
    have hmin : IntKind.u64.min = 0 := rfl
    have hmax : IntKind.u64.max = 18446744073709551615 := rfl
    simp only [Lit.wf, Bool.and_eq_true, decide_eq_true_eq] at h
    omega
  clear w0 hw
  unfold maxLen at hm
  by_cases hbig : 1048576 < len0
  · have hb : (1048576 : Int) < (len0 : Int) := by omega
    go_enter Try.func3, Try.ntmps3
    go_wp2_with fail
    go_ret
    exact ⟨rfl, Below.refl _ _⟩
  · have hn : len0 ≤ 1048576 := by omega
    have hb : ¬ (1048576 : Int) < (len0 : Int) := by omega
    have HSP : Hid (∀ (g : Option Addr) (c : Nat) (W : World), Sl .u64 W g ws → Calls Try.prog 4 #[.slice g len0 c, .int .i64 a1] W (ImgPost ws a1 W)) := fun g c W hW => specImage_any g len0 c ws a1 W hz hn hW HWB.out w1
    have HIM : Hid (∀ (g : Option Addr) (c : Nat) (W : World), Sl .u64 W g ws → Calls Try.prog 6 #[.slice g len0 c, .int .i64 a1] W (ImgPost ws a1 W)) := fun g c W hW => implImage_any g len0 c ws a1 W hz hn hW HWB.out w1
    have hl0 := imgL_len ws a1
    unfold ImgPost at HSP HIM
    obtain ⟨zs, hzs⟩ : ∃ zs, zs = (imgL ws a1).getD [] := ⟨_, rfl⟩
    obtain ⟨t, ht⟩ : ∃ t, t = (imgL ws a1).isSome := ⟨_, rfl⟩
    rw [← hzs, ← ht] at HSP HIM
    rw [← hzs] at hl0
    obtain ⟨n, hnn⟩ : ∃ n, n = zs.length := ⟨_, rfl⟩
    rw [← hnn] at HSP HIM hl0
    have HNN : Hid (zs.length = n) := hnn.symm
    have HZ : Hid (ws.length = len0) := hz
    have HS : Hid (Sl .u64 w a0 ws) := hs
    have tt : (t != t) = false := by simp
    clear hzs ht hnn HWB w1 hz hs hbig hm
    go_enter Try.func3, Try.ntmps3
    go_wp2_with fail
    refine (toUint64S_any a0 len0 cap0 ws w HZ.out hn HS.out).mono ?_
    rintro e w1 ⟨rfl, ho1, hb1⟩
    have O1 : Hid (Sl .u64 w1 (some ⟨w.heap.size, 0, none⟩) ws) := own_sl ho1
    have B1 : Hid (Below w.heap.size w w1) := hb1
    clear ho1 hb1
    go_wp2_with fail
    refine (HSP.out _ _ _ O1.out).mono ?_
    rintro e w2 ⟨v0, rfl, hL2⟩
    obtain ⟨p0, c0, rfl⟩ := hL2.slice
    have L2 : Hid (Lst 5 w1 w2 (.slice p0 n c0) n (zs.map (Value.int .u8))) := hL2
    have B2 : Hid (Below w.heap.size w w2) := below_trans B1.out hL2.2
    have K0 : Hid (∀ k, (Value.slice p0 n c0).ownBlock = some k → w1.heap.size ≤ k ∧ k < w2.heap.size) := lst_own_lt hL2
    have Z1 : Hid (w.heap.size ≤ w1.heap.size) := B1.out.size
    have Z2 : Hid (w1.heap.size ≤ w2.heap.size) := hL2.2.size
    clear hL2 O1 B1
    go_wp2_with fail
    refine (toUint64S_any a0 len0 cap0 ws _ HZ.out hn (HS.out.below B2.out)).mono ?_
    rintro e w3 ⟨rfl, ho3, hb3⟩
    have X3 : Hid (w3.ownsRow w2.heap.size 33 1 (.slice (some ⟨w2.heap.size, 0, none⟩) len0 len0) len0 (ws.map (Value.int .u64))) := ho3
    have L3 : Hid (w3.ownsRow w1.heap.size 5 1 (.slice p0 n c0) n (zs.map (Value.int .u8))) := ownsRow_below L2.out.1 hb3
    have B3 : Hid (Below w.heap.size w w3) := below_trans B2.out hb3
    have Z3 : Hid (w2.heap.size < w3.heap.size) := own_lt ho3
    clear ho3 hb3 L2 B2
    go_wp2_with fail
    refine (HIM.out _ _ _ (own_sl X3.out)).mono ?_
    rintro e w4 ⟨v1, rfl, hL4⟩
    obtain ⟨p1, c1, rfl⟩ := hL4.slice
    have G4 : Hid (w4.ownsRow w3.heap.size 5 1 (.slice p1 n c1) n (zs.map (Value.int .u8))) := hL4.1
    have K1 : Hid (∀ k, (Value.slice p1 n c1).ownBlock = some k → w3.heap.size ≤ k ∧ k < w4.heap.size) := lst_own_lt hL4
    have L4 : Hid (w4.ownsRow w1.heap.size 5 1 (.slice p0 n c0) n (zs.map (Value.int .u8))) := ownsRow_below L3.out hL4.2
    have X4 : Hid (w4.ownsRow w2.heap.size 33 1 (.slice (some ⟨w2.heap.size, 0, none⟩) len0 len0) len0 (ws.map (Value.int .u64))) := ownsRow_below X3.out hL4.2
    have B4 : Hid (Below w.heap.size w w4) := below_trans B3.out hL4.2
    clear hL4 L3 X3 B3
    go_wp2_with fail
    refine (eqByteS_any p1 p0 n n c1 c0 zs zs _ HNN.out HNN.out (by omega) (by omega) (own_sl' G4.out) (own_sl' L4.out)).mono ?_
    rintro e w5 ⟨rfl, hb5⟩
    have G5 : Hid (w5.ownsRow w3.heap.size 5 1 (.slice p1 n c1) n (zs.map (Value.int .u8))) := ownsRow_below G4.out hb5
    have L5 : Hid (w5.ownsRow w1.heap.size 5 1 (.slice p0 n c0) n (zs.map (Value.int .u8))) := ownsRow_below L4.out hb5
    have X5 : Hid (w5.ownsRow w2.heap.size 33 1 (.slice (some ⟨w2.heap.size, 0, none⟩) len0 len0) len0 (ws.map (Value.int .u64))) := ownsRow_below X4.out hb5
    have B5 : Hid (Below w.heap.size w w5) := below_trans B4.out hb5
    clear hb5 G4 L4 X4 B4
    rw [show decide (zs = zs) = true from by simp]
    go_wp2_with fail
    refine (toUint64S_any a0 len0 cap0 ws _ HZ.out hn (HS.out.below B5.out)).mono ?_
    rintro e w6 ⟨rfl, ho6, hb6⟩
    have Y6 : Hid (Sl .u64 w6 (some ⟨w5.heap.size, 0, none⟩) ws) := own_sl ho6
    have G6 : Hid (w6.ownsRow w3.heap.size 5 1 (.slice p1 n c1) n (zs.map (Value.int .u8))) := ownsRow_below G5.out hb6
    have L6 : Hid (w6.ownsRow w1.heap.size 5 1 (.slice p0 n c0) n (zs.map (Value.int .u8))) := ownsRow_below L5.out hb6
    have X6 : Hid (w6.ownsRow w2.heap.size 33 1 (.slice (some ⟨w2.heap.size, 0, none⟩) len0 len0) len0 (ws.map (Value.int .u64))) := ownsRow_below X5.out hb6
    have B6 : Hid (Below w.heap.size w w6) := below_trans B5.out hb6
    clear ho6 hb6 G5 L5 X5 B5
    go_wp2_with fail
    refine (eqUint64S_any _ _ len0 len0 _ _ ws ws _ HZ.out HZ.out hn hn (own_sl X6.out) Y6.out).mono ?_
    rintro e w7 ⟨rfl, hb7⟩
    have G7 : Hid (w7.ownsRow w3.heap.size 5 1 (.slice p1 n c1) n (zs.map (Value.int .u8))) := ownsRow_below G6.out hb7
    have L7 : Hid (w7.ownsRow w1.heap.size 5 1 (.slice p0 n c0) n (zs.map (Value.int .u8))) := ownsRow_below L6.out hb7
    have X7 : Hid (w7.ownsRow w2.heap.size 33 1 (.slice (some ⟨w2.heap.size, 0, none⟩) len0 len0) len0 (ws.map (Value.int .u64))) := ownsRow_below X6.out hb7
    have B7 : Hid (Below w.heap.size w w7) := below_trans B6.out hb7
    clear hb7 G6 L6 X6 B6 Y6
    rw [show decide (ws = ws) = true from by simp]
    go_wp2_with fail
    refine (markUint64S_any _ len0 len0 _ 1 ws _ hn (by omega) (by omega) X7.out).mono ?_
    rintro e w8 ⟨rfl, _, hg8⟩
    have HX2 : Hid (∀ k, (Value.slice (some ⟨w2.heap.size, 0, none⟩) len0 len0).ownBlock = some k → k = w2.heap.size) := fun k hk => (Option.some.inj hk).symm
    have G8 : Hid (w8.ownsRow w3.heap.size 5 1 (.slice p1 n c1) n (zs.map (Value.int .u8))) := kept_of G7.out hg8 (fun k hk e => by have h1 := K1.out k hk; have h2 := HX2.out k e; have h3 := Z3.out; omega)
    have L8 : Hid (w8.ownsRow w1.heap.size 5 1 (.slice p0 n c0) n (zs.map (Value.int .u8))) := kept_of L7.out hg8 (fun k hk e => by have h1 := K0.out k hk; have h2 := HX2.out k e; omega)
    have B8 : Hid (Below w.heap.size w w8) := B7.out.grown hg8 B7.out.size (by intro k hk; have h2 := HX2.out k hk; have h3 := Z1.out; have h4 := Z2.out; omega)
    clear hg8 G7 L7 X7 B7
    have hk9 : ¬ ((1 : Int) + (len0 : Int) < 0) := by omega
    go_wp2_with fail
    refine (eqByteS_any p1 p0 n n c1 c0 zs zs _ HNN.out HNN.out (by omega) (by omega) (own_sl' G8.out) (own_sl' L8.out)).mono ?_
    rintro e w9 ⟨rfl, hb9⟩
    have G9 : Hid (w9.ownsRow w3.heap.size 5 1 (.slice p1 n c1) n (zs.map (Value.int .u8))) := ownsRow_below G8.out hb9
    have L9 : Hid (w9.ownsRow w1.heap.size 5 1 (.slice p0 n c0) n (zs.map (Value.int .u8))) := ownsRow_below L8.out hb9
    have B9 : Hid (Below w.heap.size w w9) := below_trans B8.out hb9
    clear hb9 G8 L8 B8
    rw [show decide (zs = zs) = true from by simp]
    go_wp2_with fail
    refine (markByteS_any p1 n c1 _ 1 zs _ (by omega) (by omega) (by omega) G9.out).mono ?_
    rintro e w10 ⟨rfl, og10, hg10⟩
    have G10 : Hid (w10.ownsRow w3.heap.size 5 1 (.slice p1 n c1) n ((marks 1 n).map (Value.int .u8))) := og10
    have L10 : Hid (w10.ownsRow w1.heap.size 5 1 (.slice p0 n c0) n (zs.map (Value.int .u8))) := kept_of L9.out hg10 (fun k hk e => by have h1 := K0.out k hk; have h2 := K1.out k e; have h3 := Z3.out; omega)
    have B10 : Hid (Below w.heap.size w w10) := B9.out.grown hg10 B9.out.size (by intro k hk; have h2 := K1.out k hk; have h3 := Z1.out; have h4 := Z2.out; have h5 := Z3.out; omega)
    clear og10 hg10 G9 L9 B9
    go_wp2_with fail
    refine (heldByteS_any p1 n c1 1 _ (by omega) (by omega) (by omega) (own_sl' G10.out)).mono ?_
    rintro e wq ⟨rfl, hwq⟩
    have hwq' := hwq.symm
    subst hwq'
    go_wp2_with fail
    refine (toUint64S_any a0 len0 cap0 ws _ HZ.out hn (HS.out.below B10.out)).mono ?_
    rintro e w11 ⟨rfl, ho11, hb11⟩
    have Y11 : Hid (Sl .u64 w11 (some ⟨w10.heap.size, 0, none⟩) ws) := own_sl ho11
    have G11 : Hid (w11.ownsRow w3.heap.size 5 1 (.slice p1 n c1) n ((marks 1 n).map (Value.int .u8))) := ownsRow_below G10.out hb11
    have L11 : Hid (w11.ownsRow w1.heap.size 5 1 (.slice p0 n c0) n (zs.map (Value.int .u8))) := ownsRow_below L10.out hb11
    have B11 : Hid (Below w.heap.size w w11) := below_trans B10.out hb11
    clear ho11 hb11 G10 L10 B10
    go_wp2_with fail
    refine (HIM.out _ _ _ Y11.out).mono ?_
    rintro e w12 ⟨v2, rfl, hL12⟩
    obtain ⟨p2, c2, rfl⟩ := hL12.slice
    have H12 : Hid (w12.ownsRow w11.heap.size 5 1 (.slice p2 n c2) n (zs.map (Value.int .u8))) := hL12.1
    have G12 : Hid (w12.ownsRow w3.heap.size 5 1 (.slice p1 n c1) n ((marks 1 n).map (Value.int .u8))) := ownsRow_below G11.out hL12.2
    have L12 : Hid (w12.ownsRow w1.heap.size 5 1 (.slice p0 n c0) n (zs.map (Value.int .u8))) := ownsRow_below L11.out hL12.2
    have B12 : Hid (Below w.heap.size w w12) := below_trans B11.out hL12.2
    clear hL12 G11 L11 B11 Y11
    go_wp2_with fail
    refine (eqByteS_any p2 p0 n n c2 c0 zs zs _ HNN.out HNN.out (by omega) (by omega) (own_sl' H12.out) (own_sl' L12.out)).mono ?_
    rintro e w13 ⟨rfl, hb13⟩
    have G13 : Hid (w13.ownsRow w3.heap.size 5 1 (.slice p1 n c1) n ((marks 1 n).map (Value.int .u8))) := ownsRow_below G12.out hb13
    have B13 : Hid (Below w.heap.size w w13) := below_trans B12.out hb13
    clear hb13 G12 L12 B12 H12
    rw [show decide (zs = zs) = true from by simp]
    go_wp2_with fail
    refine (heldByteS_any p1 n c1 1 _ (by omega) (by omega) (by omega) (own_sl' G13.out)).mono ?_
    rintro e wz ⟨rfl, hwz⟩
    have hwz' := hwz.symm
    subst hwz'
    go_wp2_with fail
    go_ret
    exact ⟨rfl, B13.out⟩

end fnExactImage

end Go.Proofs.Ytjoaccdbiomdjaa
