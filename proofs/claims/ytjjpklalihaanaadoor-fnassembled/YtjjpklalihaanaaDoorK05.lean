/- Own lemmas. -/
import Derived.Test.YtjjpklalihaanaaDoorK04
namespace Go.Proofs.YtjjpklalihaanaaDoor
open Go.RowKit
set_option linter.unusedVariables false
set_option linter.unusedSimpArgs false

theorem orV (a y : Int) (k n : Nat) (c : Int) (hc : c = 2 ^ k) (h0 : 0 ≤ a) (h1 : a < 18446744073709551616) (hy : 0 ≤ y) (hy2 : y < 2 ^ n) (hkn : k + n ≤ 64) (h : a / 2 ^ k % 2 ^ n = 0) : bits .or .u64 a (y * c) = a + y * c := by
  subst hc
  exact or64 a y k n h0 h1 hy hy2 hkn h

theorem orW (a y : Int) (k n : Nat) (c : Int) (hc : c = 2 ^ k) (h0 : 0 ≤ a) (h1 : a < 18446744073709551616) (hy : 0 ≤ y) (hy2 : y < 2 ^ n) (hkn : k + n ≤ 64) (h : a / 2 ^ k % 2 ^ n = 0) : bits .or .u64 a (IntKind.u64.wrap (y * c)) = a + y * c := by
  have e : IntKind.u64.wrap (y * c) = y * c := by
    subst hc
    have hp : (0 : Int) < 2 ^ k := Int.pow_pos (by omega)
    have h2 : y * 2 ^ k < 2 ^ n * 2 ^ k := Int.mul_lt_mul_of_pos_right hy2 hp
    rw [← Int.pow_add] at h2
    have h3 := pow_le (n + k) 64 (by omega)
    have e64 : (2 : Int) ^ 64 = 18446744073709551616 := by decide
    have h4 : 0 ≤ y * 2 ^ k := Int.mul_nonneg hy (by omega)
    exact wrapUe _ h4 (by omega)
  rw [e]
  exact orV a y k n c hc h0 h1 hy hy2 hkn h

set_option maxHeartbeats 1000000 in
theorem layI_r (x : Int) (h0 : 0 ≤ x) (h1 : x < 4294967296) (o z m : Int) (k : Int) (e1 : o = x % 128) (e2 : z = x / 4096 % 8) (e3 : m = x / 33554432) : layI .r o z m ⟨k, rdV .r x, aV .r x, bV .r x, immV .r x⟩ = x := by
  have b0 : bitsI .r o z m = o + z * 4096 + m * 2 ^ Fm.at .r := bitsI_eq .r o z m (by omega) (by omega) (by omega) (by omega) (by omega) (by simp [Fm.at]; omega) (by simp [Fm.at])
  simp only [Fm.at] at b0
  have rr : fld (u64 (rdV .r x)) 0 5 = x / 128 % 32 := by
    have e : rdV .r x = x / 128 % 32 := by simp [rdV, Fm.hasRd, fld]
    rw [e, u64_small _ (by omega) (by omega)]; simp [fld]
  have ra : fld (u64 (aV .r x)) 0 5 = x / 32768 % 32 := by
    have e : aV .r x = x / 32768 % 32 := by simp [aV, Fm.hasA, fld]
    rw [e, u64_small _ (by omega) (by omega)]; simp [fld]
  have rb : fld (u64 (bV .r x)) 0 5 = x / 1048576 % 32 := by
    have e : bV .r x = x / 1048576 % 32 := by simp [bV, Fm.hasB, fld]
    rw [e, u64_small _ (by omega) (by omega)]; simp [fld]
  have bz : 0 ≤ z ∧ z < 8 := by omega
  have bo : 0 ≤ o ∧ o < 128 := by omega
  have bm : 0 ≤ m ∧ m < 128 := by omega
  have He1 : Hid (o = x % 128) := e1
  have He2 : Hid (z = x / 4096 % 8) := e2
  have He3 : Hid (m = x / 33554432) := e3
  clear e1 e2 e3
  obtain ⟨vr, vrE0, vr0, vr1⟩ : ∃ v : Int, v = x / 128 % 32 ∧ 0 ≤ v ∧ v < 32 := ⟨_, rfl, by omega, by omega⟩
  rw [← vrE0] at rr
  have vrE : Hid (vr = x / 128 % 32) := vrE0
  clear vrE0
  obtain ⟨va, vaE0, va0, va1⟩ : ∃ v : Int, v = x / 32768 % 32 ∧ 0 ≤ v ∧ v < 32 := ⟨_, rfl, by omega, by omega⟩
  rw [← vaE0] at ra
  have vaE : Hid (va = x / 32768 % 32) := vaE0
  clear vaE0
  obtain ⟨vb, vbE0, vb0, vb1⟩ : ∃ v : Int, v = x / 1048576 % 32 ∧ 0 ≤ v ∧ v < 32 := ⟨_, rfl, by omega, by omega⟩
  rw [← vbE0] at rb
  have vbE : Hid (vb = x / 1048576 % 32) := vbE0
  clear vbE0
  simp only [layI, layI3, layI2, layI1, layP, Fm.pcs, Fm.hasRd, Fm.hasA, Fm.hasB, List.foldl_cons, List.foldl_nil, if_true, Bool.false_eq_true, if_false]
  rw [b0,
    rr,
    orW _ vr 7 5 128 (by decide) (by omega) (by omega) (by omega) (by omega) (by omega) (by omega),
    ra,
    orW _ va 15 5 32768 (by decide) (by omega) (by omega) (by omega) (by omega) (by omega) (by omega),
    rb,
    orW _ vb 20 5 1048576 (by decide) (by omega) (by omega) (by omega) (by omega) (by omega) (by omega)]
  have vrF := vrE.out
  have vaF := vaE.out
  have vbF := vbE.out
  have e1' := He1.out
  have e2' := He2.out
  have e3' := He3.out
  clear vrE vaE vbE He1 He2 He3
  have g7 : x / 1 = x / 1 % 128 + 128 * (x / 128) := by omega
  have g12 : x / 128 = x / 128 % 32 + 32 * (x / 4096) := by omega
  have g15 : x / 4096 = x / 4096 % 8 + 8 * (x / 32768) := by omega
  have g20 : x / 32768 = x / 32768 % 32 + 32 * (x / 1048576) := by omega
  have g25 : x / 1048576 = x / 1048576 % 32 + 32 * (x / 33554432) := by omega
  omega

set_option maxHeartbeats 1000000 in
theorem layS_r (x : Int) (h0 : 0 ≤ x) (h1 : x < 4294967296) (o z m : Int) (k : Int) (e1 : o = x % 128) (e2 : z = x / 4096 % 8) (e3 : m = x / 33554432) : layS .r o z m ⟨k, rdV .r x, aV .r x, bV .r x, immV .r x⟩ = x := by
  have rr : rdV .r x = x / 128 % 32 := by simp [rdV, Fm.hasRd, fld]
  have ra : aV .r x = x / 32768 % 32 := by simp [aV, Fm.hasA, fld]
  have rb : bV .r x = x / 1048576 % 32 := by simp [bV, Fm.hasB, fld]
  have bz : -1 ≤ z ∧ z < 8 := by omega
  have bz0 : 0 ≤ z := by omega
  have bo : 0 ≤ o ∧ o < 128 := by omega
  have bm : 0 ≤ m ∧ m < 128 := by omega
  have He1 : Hid (o = x % 128) := e1
  have He2 : Hid (z = x / 4096 % 8) := e2
  have He3 : Hid (m = x / 33554432) := e3
  clear e1 e2 e3
  simp only [layS]
  obtain ⟨vr, vrE0, vr0, vr1⟩ : ∃ v : Int, v = x / 128 % 32 ∧ 0 ≤ v ∧ v < 32 := ⟨_, rfl, by omega, by omega⟩
  rw [← vrE0] at rr
  have vrE : Hid (vr = x / 128 % 32) := vrE0
  clear vrE0
  obtain ⟨va, vaE0, va0, va1⟩ : ∃ v : Int, v = x / 32768 % 32 ∧ 0 ≤ v ∧ v < 32 := ⟨_, rfl, by omega, by omega⟩
  rw [← vaE0] at ra
  have vaE : Hid (va = x / 32768 % 32) := vaE0
  clear vaE0
  obtain ⟨vb, vbE0, vb0, vb1⟩ : ∃ v : Int, v = x / 1048576 % 32 ∧ 0 ≤ v ∧ v < 32 := ⟨_, rfl, by omega, by omega⟩
  rw [← vbE0] at rb
  have vbE : Hid (vb = x / 1048576 % 32) := vbE0
  clear vbE0
  have b0 : base1 o ⟨k, rdV .r x, aV .r x, bV .r x, immV .r x⟩ = o + vr * 128 + va * 32768 + vb * 1048576 := by
    simp only [base1, rr, ra, rb]
    rw [orV _ vr 7 5 128 (by decide) (by omega) (by omega) (by omega) (by omega) (by omega) (by omega), orV _ va 15 5 32768 (by decide) (by omega) (by omega) (by omega) (by omega) (by omega) (by omega), orV _ vb 20 5 1048576 (by decide) (by omega) (by omega) (by omega) (by omega) (by omega) (by omega)]
  have b1 : baseS o z ⟨k, rdV .r x, aV .r x, bV .r x, immV .r x⟩ = o + vr * 128 + va * 32768 + vb * 1048576 + z * 4096 := by
    unfold baseS
    split
    · rw [b0, orV _ z 12 3 4096 (by decide) (by omega) (by omega) (by omega) (by omega) (by omega) (by omega)]
    · rw [b0]; omega
  rw [b1,
    orV _ m 25 7 33554432 (by decide) (by omega) (by omega) (by omega) (by omega) (by omega) (by omega)]
  have vrF := vrE.out
  have vaF := vaE.out
  have vbF := vbE.out
  have e1' := He1.out
  have e2' := He2.out
  have e3' := He3.out
  clear vrE vaE vbE He1 He2 He3
  have g7 : x / 1 = x / 1 % 128 + 128 * (x / 128) := by omega
  have g12 : x / 128 = x / 128 % 32 + 32 * (x / 4096) := by omega
  have g15 : x / 4096 = x / 4096 % 8 + 8 * (x / 32768) := by omega
  have g20 : x / 32768 = x / 32768 % 32 + 32 * (x / 1048576) := by omega
  have g25 : x / 1048576 = x / 1048576 % 32 + 32 * (x / 33554432) := by omega
  omega

set_option maxHeartbeats 1000000 in
theorem layI_i (x : Int) (h0 : 0 ≤ x) (h1 : x < 4294967296) (o z m : Int) (k : Int) (e1 : o = x % 128) (e2 : z = x / 4096 % 8) (e3 : m = 0) : layI .i o z m ⟨k, rdV .i x, aV .i x, bV .i x, immV .i x⟩ = x := by
  have b0 : bitsI .i o z m = o + z * 4096 + m * 2 ^ Fm.at .i := bitsI_eq .i o z m (by omega) (by omega) (by omega) (by omega) (by omega) (by simp [Fm.at]; omega) (by simp [Fm.at]; omega)
  simp only [Fm.at] at b0
  have rr : fld (u64 (rdV .i x)) 0 5 = x / 128 % 32 := by
    have e : rdV .i x = x / 128 % 32 := by simp [rdV, Fm.hasRd, fld]
    rw [e, u64_small _ (by omega) (by omega)]; simp [fld]
  have ra : fld (u64 (aV .i x)) 0 5 = x / 32768 % 32 := by
    have e : aV .i x = x / 32768 % 32 := by simp [aV, Fm.hasA, fld]
    rw [e, u64_small _ (by omega) (by omega)]; simp [fld]
  have bz : 0 ≤ z ∧ z < 8 := by omega
  obtain ⟨y0, y0E0, y00, y01⟩ : ∃ v : Int, v = x / 1048576 % 4096 ∧ 0 ≤ v ∧ v < 4096 := ⟨_, rfl, by omega, by omega⟩
  have hS : x / 1048576 = y0 * 1 := by omega
  obtain ⟨q, hq, hM0⟩ := wid12 (x / 1048576) (by omega) (by omega)
  have hM : u64 (immV .i x) = y0 * 1 + q * 4096 := by rw [← hS]; exact hM0
  clear hM0
  have y0E : Hid (y0 = x / 1048576 % 4096) := y0E0
  clear hS y0E0
  have bo : 0 ≤ o ∧ o < 128 := by omega
  have bm : 0 ≤ m ∧ m < 1 := by omega
  have He1 : Hid (o = x % 128) := e1
  have He2 : Hid (z = x / 4096 % 8) := e2
  have He3 : Hid (m = 0) := e3
  clear e1 e2 e3
  have p0 : fld (u64 (immV .i x)) 0 12 = y0 := by rw [hM]; simp only [fld]; omega
  clear hM hq
  obtain ⟨vr, vrE0, vr0, vr1⟩ : ∃ v : Int, v = x / 128 % 32 ∧ 0 ≤ v ∧ v < 32 := ⟨_, rfl, by omega, by omega⟩
  rw [← vrE0] at rr
  have vrE : Hid (vr = x / 128 % 32) := vrE0
  clear vrE0
  obtain ⟨va, vaE0, va0, va1⟩ : ∃ v : Int, v = x / 32768 % 32 ∧ 0 ≤ v ∧ v < 32 := ⟨_, rfl, by omega, by omega⟩
  rw [← vaE0] at ra
  have vaE : Hid (va = x / 32768 % 32) := vaE0
  clear vaE0
  simp only [layI, layI3, layI2, layI1, layP, Fm.pcs, Fm.hasRd, Fm.hasA, Fm.hasB, List.foldl_cons, List.foldl_nil, if_true, Bool.false_eq_true, if_false]
  rw [b0,
    rr,
    orW _ vr 7 5 128 (by decide) (by omega) (by omega) (by omega) (by omega) (by omega) (by omega),
    ra,
    orW _ va 15 5 32768 (by decide) (by omega) (by omega) (by omega) (by omega) (by omega) (by omega),
    p0,
    orW _ y0 20 12 (2 ^ 20) rfl (by omega) (by omega) (by omega) (by omega) (by omega) (by omega)]
  have vrF := vrE.out
  have vaF := vaE.out
  have y0F := y0E.out
  have e1' := He1.out
  have e2' := He2.out
  have e3' := He3.out
  clear vrE vaE y0E He1 He2 He3
  have g7 : x / 1 = x / 1 % 128 + 128 * (x / 128) := by omega
  have g12 : x / 128 = x / 128 % 32 + 32 * (x / 4096) := by omega
  have g15 : x / 4096 = x / 4096 % 8 + 8 * (x / 32768) := by omega
  have g20 : x / 32768 = x / 32768 % 32 + 32 * (x / 1048576) := by omega
  omega

set_option maxHeartbeats 1000000 in
theorem layS_i (x : Int) (h0 : 0 ≤ x) (h1 : x < 4294967296) (o z m : Int) (k : Int) (e1 : o = x % 128) (e2 : z = x / 4096 % 8) (e3 : m = 0) : layS .i o z m ⟨k, rdV .i x, aV .i x, bV .i x, immV .i x⟩ = x := by
  have rr : rdV .i x = x / 128 % 32 := by simp [rdV, Fm.hasRd, fld]
  have ra : aV .i x = x / 32768 % 32 := by simp [aV, Fm.hasA, fld]
  have rb : bV .i x = 0 := by simp [bV, Fm.hasB]
  have bz : -1 ≤ z ∧ z < 8 := by omega
  have bz0 : 0 ≤ z := by omega
  obtain ⟨y0, y0E0, y00, y01⟩ : ∃ v : Int, v = x / 1048576 % 4096 ∧ 0 ≤ v ∧ v < 4096 := ⟨_, rfl, by omega, by omega⟩
  have hS : x / 1048576 = y0 * 1 := by omega
  obtain ⟨q, hq, hM0⟩ := wid12 (x / 1048576) (by omega) (by omega)
  have hM : u64 (immV .i x) = y0 * 1 + q * 4096 := by rw [← hS]; exact hM0
  clear hM0
  have y0E : Hid (y0 = x / 1048576 % 4096) := y0E0
  clear hS y0E0
  have bo : 0 ≤ o ∧ o < 128 := by omega
  have bm : 0 ≤ m ∧ m < 1 := by omega
  have He1 : Hid (o = x % 128) := e1
  have He2 : Hid (z = x / 4096 % 8) := e2
  have He3 : Hid (m = 0) := e3
  clear e1 e2 e3
  have p0 : u64 (immV .i x) % 4096 = y0 := by rw [hM]; omega
  clear hM hq
  simp only [layS]
  rw [p0]
  clear p0
  obtain ⟨vr, vrE0, vr0, vr1⟩ : ∃ v : Int, v = x / 128 % 32 ∧ 0 ≤ v ∧ v < 32 := ⟨_, rfl, by omega, by omega⟩
  rw [← vrE0] at rr
  have vrE : Hid (vr = x / 128 % 32) := vrE0
  clear vrE0
  obtain ⟨va, vaE0, va0, va1⟩ : ∃ v : Int, v = x / 32768 % 32 ∧ 0 ≤ v ∧ v < 32 := ⟨_, rfl, by omega, by omega⟩
  rw [← vaE0] at ra
  have vaE : Hid (va = x / 32768 % 32) := vaE0
  clear vaE0
  have b0 : base1 o ⟨k, rdV .i x, aV .i x, bV .i x, immV .i x⟩ = o + vr * 128 + va * 32768 + 0 * 1048576 := by
    simp only [base1, rr, ra, rb]
    rw [orV _ vr 7 5 128 (by decide) (by omega) (by omega) (by omega) (by omega) (by omega) (by omega), orV _ va 15 5 32768 (by decide) (by omega) (by omega) (by omega) (by omega) (by omega) (by omega), orV _ 0 20 5 1048576 (by decide) (by omega) (by omega) (by omega) (by omega) (by omega) (by omega)]
  have b1 : baseS o z ⟨k, rdV .i x, aV .i x, bV .i x, immV .i x⟩ = o + vr * 128 + va * 32768 + 0 * 1048576 + z * 4096 := by
    unfold baseS
    split
    · rw [b0, orV _ z 12 3 4096 (by decide) (by omega) (by omega) (by omega) (by omega) (by omega) (by omega)]
    · rw [b0]; omega
  rw [b1,
    orV _ y0 20 12 1048576 (by decide) (by omega) (by omega) (by omega) (by omega) (by omega) (by omega)]
  have vrF := vrE.out
  have vaF := vaE.out
  have y0F := y0E.out
  have e1' := He1.out
  have e2' := He2.out
  have e3' := He3.out
  clear vrE vaE y0E He1 He2 He3
  have g7 : x / 1 = x / 1 % 128 + 128 * (x / 128) := by omega
  have g12 : x / 128 = x / 128 % 32 + 32 * (x / 4096) := by omega
  have g15 : x / 4096 = x / 4096 % 8 + 8 * (x / 32768) := by omega
  have g20 : x / 32768 = x / 32768 % 32 + 32 * (x / 1048576) := by omega
  omega

set_option maxHeartbeats 1000000 in
theorem layI_h (x : Int) (h0 : 0 ≤ x) (h1 : x < 4294967296) (o z m : Int) (k : Int) (e1 : o = x % 128) (e2 : z = x / 4096 % 8) (e3 : m = x / 67108864) : layI .h o z m ⟨k, rdV .h x, aV .h x, bV .h x, immV .h x⟩ = x := by
  have b0 : bitsI .h o z m = o + z * 4096 + m * 2 ^ Fm.at .h := bitsI_eq .h o z m (by omega) (by omega) (by omega) (by omega) (by omega) (by simp [Fm.at]; omega) (by simp [Fm.at])
  simp only [Fm.at] at b0
  have rr : fld (u64 (rdV .h x)) 0 5 = x / 128 % 32 := by
    have e : rdV .h x = x / 128 % 32 := by simp [rdV, Fm.hasRd, fld]
    rw [e, u64_small _ (by omega) (by omega)]; simp [fld]
  have ra : fld (u64 (aV .h x)) 0 5 = x / 32768 % 32 := by
    have e : aV .h x = x / 32768 % 32 := by simp [aV, Fm.hasA, fld]
    rw [e, u64_small _ (by omega) (by omega)]; simp [fld]
  have bz : 0 ≤ z ∧ z < 8 := by omega
  obtain ⟨y0, y0E0, y00, y01⟩ : ∃ v : Int, v = x / 1048576 % 64 ∧ 0 ≤ v ∧ v < 64 := ⟨_, rfl, by omega, by omega⟩
  have hS : x / 1048576 % 64 = y0 * 1 := by omega
  have hM : u64 (immV .h x) = y0 * 1 := by rw [← hS]; exact wid64 (x / 1048576 % 64) (by omega) (by omega)
  have y0E : Hid (y0 = x / 1048576 % 64) := y0E0
  clear hS y0E0
  have bo : 0 ≤ o ∧ o < 128 := by omega
  have bm : 0 ≤ m ∧ m < 64 := by omega
  have He1 : Hid (o = x % 128) := e1
  have He2 : Hid (z = x / 4096 % 8) := e2
  have He3 : Hid (m = x / 67108864) := e3
  clear e1 e2 e3
  have p0 : fld (u64 (immV .h x)) 0 6 = y0 := by rw [hM]; simp only [fld]; omega
  clear hM
  obtain ⟨vr, vrE0, vr0, vr1⟩ : ∃ v : Int, v = x / 128 % 32 ∧ 0 ≤ v ∧ v < 32 := ⟨_, rfl, by omega, by omega⟩
  rw [← vrE0] at rr
  have vrE : Hid (vr = x / 128 % 32) := vrE0
  clear vrE0
  obtain ⟨va, vaE0, va0, va1⟩ : ∃ v : Int, v = x / 32768 % 32 ∧ 0 ≤ v ∧ v < 32 := ⟨_, rfl, by omega, by omega⟩
  rw [← vaE0] at ra
  have vaE : Hid (va = x / 32768 % 32) := vaE0
  clear vaE0
  simp only [layI, layI3, layI2, layI1, layP, Fm.pcs, Fm.hasRd, Fm.hasA, Fm.hasB, List.foldl_cons, List.foldl_nil, if_true, Bool.false_eq_true, if_false]
  rw [b0,
    rr,
    orW _ vr 7 5 128 (by decide) (by omega) (by omega) (by omega) (by omega) (by omega) (by omega),
    ra,
    orW _ va 15 5 32768 (by decide) (by omega) (by omega) (by omega) (by omega) (by omega) (by omega),
    p0,
    orW _ y0 20 6 (2 ^ 20) rfl (by omega) (by omega) (by omega) (by omega) (by omega) (by omega)]
  have vrF := vrE.out
  have vaF := vaE.out
  have y0F := y0E.out
  have e1' := He1.out
  have e2' := He2.out
  have e3' := He3.out
  clear vrE vaE y0E He1 He2 He3
  have g7 : x / 1 = x / 1 % 128 + 128 * (x / 128) := by omega
  have g12 : x / 128 = x / 128 % 32 + 32 * (x / 4096) := by omega
  have g15 : x / 4096 = x / 4096 % 8 + 8 * (x / 32768) := by omega
  have g20 : x / 32768 = x / 32768 % 32 + 32 * (x / 1048576) := by omega
  have g26 : x / 1048576 = x / 1048576 % 64 + 64 * (x / 67108864) := by omega
  omega

set_option maxHeartbeats 1000000 in
theorem layS_h (x : Int) (h0 : 0 ≤ x) (h1 : x < 4294967296) (o z m : Int) (k : Int) (e1 : o = x % 128) (e2 : z = x / 4096 % 8) (e3 : m = x / 67108864) : layS .h o z m ⟨k, rdV .h x, aV .h x, bV .h x, immV .h x⟩ = x := by
  have rr : rdV .h x = x / 128 % 32 := by simp [rdV, Fm.hasRd, fld]
  have ra : aV .h x = x / 32768 % 32 := by simp [aV, Fm.hasA, fld]
  have rb : bV .h x = 0 := by simp [bV, Fm.hasB]
  have bz : -1 ≤ z ∧ z < 8 := by omega
  have bz0 : 0 ≤ z := by omega
  obtain ⟨y0, y0E0, y00, y01⟩ : ∃ v : Int, v = x / 1048576 % 64 ∧ 0 ≤ v ∧ v < 64 := ⟨_, rfl, by omega, by omega⟩
  have hS : x / 1048576 % 64 = y0 * 1 := by omega
  have hM : u64 (immV .h x) = y0 * 1 := by rw [← hS]; exact wid64 (x / 1048576 % 64) (by omega) (by omega)
  have y0E : Hid (y0 = x / 1048576 % 64) := y0E0
  clear hS y0E0
  have bo : 0 ≤ o ∧ o < 128 := by omega
  have bm : 0 ≤ m ∧ m < 64 := by omega
  have He1 : Hid (o = x % 128) := e1
  have He2 : Hid (z = x / 4096 % 8) := e2
  have He3 : Hid (m = x / 67108864) := e3
  clear e1 e2 e3
  have p0 : u64 (immV .h x) % 64 = y0 := by rw [hM]; omega
  clear hM
  simp only [layS]
  rw [p0]
  clear p0
  obtain ⟨vr, vrE0, vr0, vr1⟩ : ∃ v : Int, v = x / 128 % 32 ∧ 0 ≤ v ∧ v < 32 := ⟨_, rfl, by omega, by omega⟩
  rw [← vrE0] at rr
  have vrE : Hid (vr = x / 128 % 32) := vrE0
  clear vrE0
  obtain ⟨va, vaE0, va0, va1⟩ : ∃ v : Int, v = x / 32768 % 32 ∧ 0 ≤ v ∧ v < 32 := ⟨_, rfl, by omega, by omega⟩
  rw [← vaE0] at ra
  have vaE : Hid (va = x / 32768 % 32) := vaE0
  clear vaE0
  have b0 : base1 o ⟨k, rdV .h x, aV .h x, bV .h x, immV .h x⟩ = o + vr * 128 + va * 32768 + 0 * 1048576 := by
    simp only [base1, rr, ra, rb]
    rw [orV _ vr 7 5 128 (by decide) (by omega) (by omega) (by omega) (by omega) (by omega) (by omega), orV _ va 15 5 32768 (by decide) (by omega) (by omega) (by omega) (by omega) (by omega) (by omega), orV _ 0 20 5 1048576 (by decide) (by omega) (by omega) (by omega) (by omega) (by omega) (by omega)]
  have b1 : baseS o z ⟨k, rdV .h x, aV .h x, bV .h x, immV .h x⟩ = o + vr * 128 + va * 32768 + 0 * 1048576 + z * 4096 := by
    unfold baseS
    split
    · rw [b0, orV _ z 12 3 4096 (by decide) (by omega) (by omega) (by omega) (by omega) (by omega) (by omega)]
    · rw [b0]; omega
  rw [b1,
    orV _ y0 20 6 1048576 (by decide) (by omega) (by omega) (by omega) (by omega) (by omega) (by omega),
    orV _ m 26 6 67108864 (by decide) (by omega) (by omega) (by omega) (by omega) (by omega) (by omega)]
  have vrF := vrE.out
  have vaF := vaE.out
  have y0F := y0E.out
  have e1' := He1.out
  have e2' := He2.out
  have e3' := He3.out
  clear vrE vaE y0E He1 He2 He3
  have g7 : x / 1 = x / 1 % 128 + 128 * (x / 128) := by omega
  have g12 : x / 128 = x / 128 % 32 + 32 * (x / 4096) := by omega
  have g15 : x / 4096 = x / 4096 % 8 + 8 * (x / 32768) := by omega
  have g20 : x / 32768 = x / 32768 % 32 + 32 * (x / 1048576) := by omega
  have g26 : x / 1048576 = x / 1048576 % 64 + 64 * (x / 67108864) := by omega
  omega

set_option maxHeartbeats 1000000 in
theorem layI_w (x : Int) (h0 : 0 ≤ x) (h1 : x < 4294967296) (o z m : Int) (k : Int) (e1 : o = x % 128) (e2 : z = x / 4096 % 8) (e3 : m = x / 33554432) : layI .w o z m ⟨k, rdV .w x, aV .w x, bV .w x, immV .w x⟩ = x := by
  have b0 : bitsI .w o z m = o + z * 4096 + m * 2 ^ Fm.at .w := bitsI_eq .w o z m (by omega) (by omega) (by omega) (by omega) (by omega) (by simp [Fm.at]; omega) (by simp [Fm.at])
  simp only [Fm.at] at b0
  have rr : fld (u64 (rdV .w x)) 0 5 = x / 128 % 32 := by
    have e : rdV .w x = x / 128 % 32 := by simp [rdV, Fm.hasRd, fld]
    rw [e, u64_small _ (by omega) (by omega)]; simp [fld]
  have ra : fld (u64 (aV .w x)) 0 5 = x / 32768 % 32 := by
    have e : aV .w x = x / 32768 % 32 := by simp [aV, Fm.hasA, fld]
    rw [e, u64_small _ (by omega) (by omega)]; simp [fld]
  have bz : 0 ≤ z ∧ z < 8 := by omega
  obtain ⟨y0, y0E0, y00, y01⟩ : ∃ v : Int, v = x / 1048576 % 32 ∧ 0 ≤ v ∧ v < 32 := ⟨_, rfl, by omega, by omega⟩
  have hS : x / 1048576 % 32 = y0 * 1 := by omega
  have hM : u64 (immV .w x) = y0 * 1 := by rw [← hS]; exact wid64 (x / 1048576 % 32) (by omega) (by omega)
  have y0E : Hid (y0 = x / 1048576 % 32) := y0E0
  clear hS y0E0
  have bo : 0 ≤ o ∧ o < 128 := by omega
  have bm : 0 ≤ m ∧ m < 128 := by omega
  have He1 : Hid (o = x % 128) := e1
  have He2 : Hid (z = x / 4096 % 8) := e2
  have He3 : Hid (m = x / 33554432) := e3
  clear e1 e2 e3
  have p0 : fld (u64 (immV .w x)) 0 5 = y0 := by rw [hM]; simp only [fld]; omega
  clear hM
  obtain ⟨vr, vrE0, vr0, vr1⟩ : ∃ v : Int, v = x / 128 % 32 ∧ 0 ≤ v ∧ v < 32 := ⟨_, rfl, by omega, by omega⟩
  rw [← vrE0] at rr
  have vrE : Hid (vr = x / 128 % 32) := vrE0
  clear vrE0
  obtain ⟨va, vaE0, va0, va1⟩ : ∃ v : Int, v = x / 32768 % 32 ∧ 0 ≤ v ∧ v < 32 := ⟨_, rfl, by omega, by omega⟩
  rw [← vaE0] at ra
  have vaE : Hid (va = x / 32768 % 32) := vaE0
  clear vaE0
  simp only [layI, layI3, layI2, layI1, layP, Fm.pcs, Fm.hasRd, Fm.hasA, Fm.hasB, List.foldl_cons, List.foldl_nil, if_true, Bool.false_eq_true, if_false]
  rw [b0,
    rr,
    orW _ vr 7 5 128 (by decide) (by omega) (by omega) (by omega) (by omega) (by omega) (by omega),
    ra,
    orW _ va 15 5 32768 (by decide) (by omega) (by omega) (by omega) (by omega) (by omega) (by omega),
    p0,
    orW _ y0 20 5 (2 ^ 20) rfl (by omega) (by omega) (by omega) (by omega) (by omega) (by omega)]
  have vrF := vrE.out
  have vaF := vaE.out
  have y0F := y0E.out
  have e1' := He1.out
  have e2' := He2.out
  have e3' := He3.out
  clear vrE vaE y0E He1 He2 He3
  have g7 : x / 1 = x / 1 % 128 + 128 * (x / 128) := by omega
  have g12 : x / 128 = x / 128 % 32 + 32 * (x / 4096) := by omega
  have g15 : x / 4096 = x / 4096 % 8 + 8 * (x / 32768) := by omega
  have g20 : x / 32768 = x / 32768 % 32 + 32 * (x / 1048576) := by omega
  have g25 : x / 1048576 = x / 1048576 % 32 + 32 * (x / 33554432) := by omega
  omega

set_option maxHeartbeats 1000000 in
theorem layS_w (x : Int) (h0 : 0 ≤ x) (h1 : x < 4294967296) (o z m : Int) (k : Int) (e1 : o = x % 128) (e2 : z = x / 4096 % 8) (e3 : m = x / 33554432) : layS .w o z m ⟨k, rdV .w x, aV .w x, bV .w x, immV .w x⟩ = x := by
  have rr : rdV .w x = x / 128 % 32 := by simp [rdV, Fm.hasRd, fld]
  have ra : aV .w x = x / 32768 % 32 := by simp [aV, Fm.hasA, fld]
  have rb : bV .w x = 0 := by simp [bV, Fm.hasB]
  have bz : -1 ≤ z ∧ z < 8 := by omega
  have bz0 : 0 ≤ z := by omega
  obtain ⟨y0, y0E0, y00, y01⟩ : ∃ v : Int, v = x / 1048576 % 32 ∧ 0 ≤ v ∧ v < 32 := ⟨_, rfl, by omega, by omega⟩
  have hS : x / 1048576 % 32 = y0 * 1 := by omega
  have hM : u64 (immV .w x) = y0 * 1 := by rw [← hS]; exact wid64 (x / 1048576 % 32) (by omega) (by omega)
  have y0E : Hid (y0 = x / 1048576 % 32) := y0E0
  clear hS y0E0
  have bo : 0 ≤ o ∧ o < 128 := by omega
  have bm : 0 ≤ m ∧ m < 128 := by omega
  have He1 : Hid (o = x % 128) := e1
  have He2 : Hid (z = x / 4096 % 8) := e2
  have He3 : Hid (m = x / 33554432) := e3
  clear e1 e2 e3
  have p0 : u64 (immV .w x) % 32 = y0 := by rw [hM]; omega
  clear hM
  simp only [layS]
  rw [p0]
  clear p0
  obtain ⟨vr, vrE0, vr0, vr1⟩ : ∃ v : Int, v = x / 128 % 32 ∧ 0 ≤ v ∧ v < 32 := ⟨_, rfl, by omega, by omega⟩
  rw [← vrE0] at rr
  have vrE : Hid (vr = x / 128 % 32) := vrE0
  clear vrE0
  obtain ⟨va, vaE0, va0, va1⟩ : ∃ v : Int, v = x / 32768 % 32 ∧ 0 ≤ v ∧ v < 32 := ⟨_, rfl, by omega, by omega⟩
  rw [← vaE0] at ra
  have vaE : Hid (va = x / 32768 % 32) := vaE0
  clear vaE0
  have b0 : base1 o ⟨k, rdV .w x, aV .w x, bV .w x, immV .w x⟩ = o + vr * 128 + va * 32768 + 0 * 1048576 := by
    simp only [base1, rr, ra, rb]
    rw [orV _ vr 7 5 128 (by decide) (by omega) (by omega) (by omega) (by omega) (by omega) (by omega), orV _ va 15 5 32768 (by decide) (by omega) (by omega) (by omega) (by omega) (by omega) (by omega), orV _ 0 20 5 1048576 (by decide) (by omega) (by omega) (by omega) (by omega) (by omega) (by omega)]
  have b1 : baseS o z ⟨k, rdV .w x, aV .w x, bV .w x, immV .w x⟩ = o + vr * 128 + va * 32768 + 0 * 1048576 + z * 4096 := by
    unfold baseS
    split
    · rw [b0, orV _ z 12 3 4096 (by decide) (by omega) (by omega) (by omega) (by omega) (by omega) (by omega)]
    · rw [b0]; omega
  rw [b1,
    orV _ y0 20 5 1048576 (by decide) (by omega) (by omega) (by omega) (by omega) (by omega) (by omega),
    orV _ m 25 7 33554432 (by decide) (by omega) (by omega) (by omega) (by omega) (by omega) (by omega)]
  have vrF := vrE.out
  have vaF := vaE.out
  have y0F := y0E.out
  have e1' := He1.out
  have e2' := He2.out
  have e3' := He3.out
  clear vrE vaE y0E He1 He2 He3
  have g7 : x / 1 = x / 1 % 128 + 128 * (x / 128) := by omega
  have g12 : x / 128 = x / 128 % 32 + 32 * (x / 4096) := by omega
  have g15 : x / 4096 = x / 4096 % 8 + 8 * (x / 32768) := by omega
  have g20 : x / 32768 = x / 32768 % 32 + 32 * (x / 1048576) := by omega
  have g25 : x / 1048576 = x / 1048576 % 32 + 32 * (x / 33554432) := by omega
  omega

set_option maxHeartbeats 1000000 in
theorem layI_s (x : Int) (h0 : 0 ≤ x) (h1 : x < 4294967296) (o z m : Int) (k : Int) (e1 : o = x % 128) (e2 : z = x / 4096 % 8) (e3 : m = 0) : layI .s o z m ⟨k, rdV .s x, aV .s x, bV .s x, immV .s x⟩ = x := by
  have b0 : bitsI .s o z m = o + z * 4096 + m * 2 ^ Fm.at .s := bitsI_eq .s o z m (by omega) (by omega) (by omega) (by omega) (by omega) (by simp [Fm.at]; omega) (by simp [Fm.at]; omega)
  simp only [Fm.at] at b0
  have ra : fld (u64 (aV .s x)) 0 5 = x / 32768 % 32 := by
    have e : aV .s x = x / 32768 % 32 := by simp [aV, Fm.hasA, fld]
    rw [e, u64_small _ (by omega) (by omega)]; simp [fld]
  have rb : fld (u64 (bV .s x)) 0 5 = x / 1048576 % 32 := by
    have e : bV .s x = x / 1048576 % 32 := by simp [bV, Fm.hasB, fld]
    rw [e, u64_small _ (by omega) (by omega)]; simp [fld]
  have bz : 0 ≤ z ∧ z < 8 := by omega
  obtain ⟨y0, y0E0, y00, y01⟩ : ∃ v : Int, v = x / 33554432 % 128 ∧ 0 ≤ v ∧ v < 128 := ⟨_, rfl, by omega, by omega⟩
  obtain ⟨y1, y1E0, y10, y11⟩ : ∃ v : Int, v = x / 128 % 32 ∧ 0 ≤ v ∧ v < 32 := ⟨_, rfl, by omega, by omega⟩
  have hS : x / 33554432 * 32 + x / 128 % 32 = y0 * 32 + y1 * 1 := by omega
  obtain ⟨q, hq, hM0⟩ := wid12 (x / 33554432 * 32 + x / 128 % 32) (by omega) (by omega)
  have hM : u64 (immV .s x) = y0 * 32 + y1 * 1 + q * 4096 := by rw [← hS]; exact hM0
  clear hM0
  have y0E : Hid (y0 = x / 33554432 % 128) := y0E0
  have y1E : Hid (y1 = x / 128 % 32) := y1E0
  clear hS y0E0 y1E0
  have bo : 0 ≤ o ∧ o < 128 := by omega
  have bm : 0 ≤ m ∧ m < 1 := by omega
  have He1 : Hid (o = x % 128) := e1
  have He2 : Hid (z = x / 4096 % 8) := e2
  have He3 : Hid (m = 0) := e3
  clear e1 e2 e3
  have p0 : fld (u64 (immV .s x)) 5 7 = y0 := by rw [hM]; simp only [fld]; omega
  have p1 : fld (u64 (immV .s x)) 0 5 = y1 := by rw [hM]; simp only [fld]; omega
  clear hM hq
  obtain ⟨va, vaE0, va0, va1⟩ : ∃ v : Int, v = x / 32768 % 32 ∧ 0 ≤ v ∧ v < 32 := ⟨_, rfl, by omega, by omega⟩
  rw [← vaE0] at ra
  have vaE : Hid (va = x / 32768 % 32) := vaE0
  clear vaE0
  obtain ⟨vb, vbE0, vb0, vb1⟩ : ∃ v : Int, v = x / 1048576 % 32 ∧ 0 ≤ v ∧ v < 32 := ⟨_, rfl, by omega, by omega⟩
  rw [← vbE0] at rb
  have vbE : Hid (vb = x / 1048576 % 32) := vbE0
  clear vbE0
  simp only [layI, layI3, layI2, layI1, layP, Fm.pcs, Fm.hasRd, Fm.hasA, Fm.hasB, List.foldl_cons, List.foldl_nil, if_true, Bool.false_eq_true, if_false]
  rw [b0,
    ra,
    orW _ va 15 5 32768 (by decide) (by omega) (by omega) (by omega) (by omega) (by omega) (by omega),
    rb,
    orW _ vb 20 5 1048576 (by decide) (by omega) (by omega) (by omega) (by omega) (by omega) (by omega),
    p0,
    orW _ y0 25 7 (2 ^ 25) rfl (by omega) (by omega) (by omega) (by omega) (by omega) (by omega),
    p1,
    orW _ y1 7 5 (2 ^ 7) rfl (by omega) (by omega) (by omega) (by omega) (by omega) (by omega)]
  have vaF := vaE.out
  have vbF := vbE.out
  have y0F := y0E.out
  have y1F := y1E.out
  have e1' := He1.out
  have e2' := He2.out
  have e3' := He3.out
  clear vaE vbE y0E y1E He1 He2 He3
  have g7 : x / 1 = x / 1 % 128 + 128 * (x / 128) := by omega
  have g12 : x / 128 = x / 128 % 32 + 32 * (x / 4096) := by omega
  have g15 : x / 4096 = x / 4096 % 8 + 8 * (x / 32768) := by omega
  have g20 : x / 32768 = x / 32768 % 32 + 32 * (x / 1048576) := by omega
  have g25 : x / 1048576 = x / 1048576 % 32 + 32 * (x / 33554432) := by omega
  omega

set_option maxHeartbeats 1000000 in
theorem layS_s (x : Int) (h0 : 0 ≤ x) (h1 : x < 4294967296) (o z m : Int) (k : Int) (e1 : o = x % 128) (e2 : z = x / 4096 % 8) (e3 : m = 0) : layS .s o z m ⟨k, rdV .s x, aV .s x, bV .s x, immV .s x⟩ = x := by
  have rr : rdV .s x = 0 := by simp [rdV, Fm.hasRd]
  have ra : aV .s x = x / 32768 % 32 := by simp [aV, Fm.hasA, fld]
  have rb : bV .s x = x / 1048576 % 32 := by simp [bV, Fm.hasB, fld]
  have bz : -1 ≤ z ∧ z < 8 := by omega
  have bz0 : 0 ≤ z := by omega
  obtain ⟨y0, y0E0, y00, y01⟩ : ∃ v : Int, v = x / 128 % 32 ∧ 0 ≤ v ∧ v < 32 := ⟨_, rfl, by omega, by omega⟩
  obtain ⟨y1, y1E0, y10, y11⟩ : ∃ v : Int, v = x / 33554432 % 128 ∧ 0 ≤ v ∧ v < 128 := ⟨_, rfl, by omega, by omega⟩
  have hS : x / 33554432 * 32 + x / 128 % 32 = y0 * 1 + y1 * 32 := by omega
  obtain ⟨q, hq, hM0⟩ := wid12 (x / 33554432 * 32 + x / 128 % 32) (by omega) (by omega)
  have hM : u64 (immV .s x) = y0 * 1 + y1 * 32 + q * 4096 := by rw [← hS]; exact hM0
  clear hM0
  have y0E : Hid (y0 = x / 128 % 32) := y0E0
  have y1E : Hid (y1 = x / 33554432 % 128) := y1E0
  clear hS y0E0 y1E0
  have bo : 0 ≤ o ∧ o < 128 := by omega
  have bm : 0 ≤ m ∧ m < 1 := by omega
  have He1 : Hid (o = x % 128) := e1
  have He2 : Hid (z = x / 4096 % 8) := e2
  have He3 : Hid (m = 0) := e3
  clear e1 e2 e3
  have p0 : u64 (immV .s x) % 32 = y0 := by rw [hM]; omega
  have p1 : u64 (immV .s x) / 32 % 128 = y1 := by rw [hM]; omega
  clear hM hq
  simp only [layS]
  rw [p0, p1]
  clear p0 p1
  obtain ⟨va, vaE0, va0, va1⟩ : ∃ v : Int, v = x / 32768 % 32 ∧ 0 ≤ v ∧ v < 32 := ⟨_, rfl, by omega, by omega⟩
  rw [← vaE0] at ra
  have vaE : Hid (va = x / 32768 % 32) := vaE0
  clear vaE0
  obtain ⟨vb, vbE0, vb0, vb1⟩ : ∃ v : Int, v = x / 1048576 % 32 ∧ 0 ≤ v ∧ v < 32 := ⟨_, rfl, by omega, by omega⟩
  rw [← vbE0] at rb
  have vbE : Hid (vb = x / 1048576 % 32) := vbE0
  clear vbE0
  have b0 : base1 o ⟨k, rdV .s x, aV .s x, bV .s x, immV .s x⟩ = o + 0 * 128 + va * 32768 + vb * 1048576 := by
    simp only [base1, rr, ra, rb]
    rw [orV _ 0 7 5 128 (by decide) (by omega) (by omega) (by omega) (by omega) (by omega) (by omega), orV _ va 15 5 32768 (by decide) (by omega) (by omega) (by omega) (by omega) (by omega) (by omega), orV _ vb 20 5 1048576 (by decide) (by omega) (by omega) (by omega) (by omega) (by omega) (by omega)]
  have b1 : baseS o z ⟨k, rdV .s x, aV .s x, bV .s x, immV .s x⟩ = o + 0 * 128 + va * 32768 + vb * 1048576 + z * 4096 := by
    unfold baseS
    split
    · rw [b0, orV _ z 12 3 4096 (by decide) (by omega) (by omega) (by omega) (by omega) (by omega) (by omega)]
    · rw [b0]; omega
  rw [b1,
    orV _ y0 7 5 128 (by decide) (by omega) (by omega) (by omega) (by omega) (by omega) (by omega),
    orV _ y1 25 7 33554432 (by decide) (by omega) (by omega) (by omega) (by omega) (by omega) (by omega)]
  have vaF := vaE.out
  have vbF := vbE.out
  have y0F := y0E.out
  have y1F := y1E.out
  have e1' := He1.out
  have e2' := He2.out
  have e3' := He3.out
  clear vaE vbE y0E y1E He1 He2 He3
  have g7 : x / 1 = x / 1 % 128 + 128 * (x / 128) := by omega
  have g12 : x / 128 = x / 128 % 32 + 32 * (x / 4096) := by omega
  have g15 : x / 4096 = x / 4096 % 8 + 8 * (x / 32768) := by omega
  have g20 : x / 32768 = x / 32768 % 32 + 32 * (x / 1048576) := by omega
  have g25 : x / 1048576 = x / 1048576 % 32 + 32 * (x / 33554432) := by omega
  omega

set_option maxHeartbeats 1000000 in
theorem layI_b (x : Int) (h0 : 0 ≤ x) (h1 : x < 4294967296) (o z m : Int) (k : Int) (e1 : o = x % 128) (e2 : z = x / 4096 % 8) (e3 : m = 0) : layI .b o z m ⟨k, rdV .b x, aV .b x, bV .b x, immV .b x⟩ = x := by
  have b0 : bitsI .b o z m = o + z * 4096 + m * 2 ^ Fm.at .b := bitsI_eq .b o z m (by omega) (by omega) (by omega) (by omega) (by omega) (by simp [Fm.at]; omega) (by simp [Fm.at]; omega)
  simp only [Fm.at] at b0
  have ra : fld (u64 (aV .b x)) 0 5 = x / 32768 % 32 := by
    have e : aV .b x = x / 32768 % 32 := by simp [aV, Fm.hasA, fld]
    rw [e, u64_small _ (by omega) (by omega)]; simp [fld]
  have rb : fld (u64 (bV .b x)) 0 5 = x / 1048576 % 32 := by
    have e : bV .b x = x / 1048576 % 32 := by simp [bV, Fm.hasB, fld]
    rw [e, u64_small _ (by omega) (by omega)]; simp [fld]
  have bz : 0 ≤ z ∧ z < 8 := by omega
  obtain ⟨y0, y0E0, y00, y01⟩ : ∃ v : Int, v = x / 2147483648 % 2 ∧ 0 ≤ v ∧ v < 2 := ⟨_, rfl, by omega, by omega⟩
  obtain ⟨y1, y1E0, y10, y11⟩ : ∃ v : Int, v = x / 128 % 2 ∧ 0 ≤ v ∧ v < 2 := ⟨_, rfl, by omega, by omega⟩
  obtain ⟨y2, y2E0, y20, y21⟩ : ∃ v : Int, v = x / 33554432 % 64 ∧ 0 ≤ v ∧ v < 64 := ⟨_, rfl, by omega, by omega⟩
  obtain ⟨y3, y3E0, y30, y31⟩ : ∃ v : Int, v = x / 256 % 16 ∧ 0 ≤ v ∧ v < 16 := ⟨_, rfl, by omega, by omega⟩
  have hS : x / 2147483648 * 4096 + x / 128 % 2 * 2048 + x / 33554432 % 64 * 32 + x / 256 % 16 * 2 = y0 * 4096 + y1 * 2048 + y2 * 32 + y3 * 2 := by omega
  obtain ⟨q, hq, hM0⟩ := wid13 (x / 2147483648 * 4096 + x / 128 % 2 * 2048 + x / 33554432 % 64 * 32 + x / 256 % 16 * 2) (by omega) (by omega)
  have hM : u64 (immV .b x) = y0 * 4096 + y1 * 2048 + y2 * 32 + y3 * 2 + q * 8192 := by rw [← hS]; exact hM0
  clear hM0
  have y0E : Hid (y0 = x / 2147483648 % 2) := y0E0
  have y1E : Hid (y1 = x / 128 % 2) := y1E0
  have y2E : Hid (y2 = x / 33554432 % 64) := y2E0
  have y3E : Hid (y3 = x / 256 % 16) := y3E0
  clear hS y0E0 y1E0 y2E0 y3E0
  have bo : 0 ≤ o ∧ o < 128 := by omega
  have bm : 0 ≤ m ∧ m < 1 := by omega
  have He1 : Hid (o = x % 128) := e1
  have He2 : Hid (z = x / 4096 % 8) := e2
  have He3 : Hid (m = 0) := e3
  clear e1 e2 e3
  have p0 : fld (u64 (immV .b x)) 12 1 = y0 := by rw [hM]; simp only [fld]; omega
  have p1 : fld (u64 (immV .b x)) 11 1 = y1 := by rw [hM]; simp only [fld]; omega
  have p2 : fld (u64 (immV .b x)) 5 6 = y2 := by rw [hM]; simp only [fld]; omega
  have p3 : fld (u64 (immV .b x)) 1 4 = y3 := by rw [hM]; simp only [fld]; omega
  clear hM hq
  obtain ⟨va, vaE0, va0, va1⟩ : ∃ v : Int, v = x / 32768 % 32 ∧ 0 ≤ v ∧ v < 32 := ⟨_, rfl, by omega, by omega⟩
  rw [← vaE0] at ra
  have vaE : Hid (va = x / 32768 % 32) := vaE0
  clear vaE0
  obtain ⟨vb, vbE0, vb0, vb1⟩ : ∃ v : Int, v = x / 1048576 % 32 ∧ 0 ≤ v ∧ v < 32 := ⟨_, rfl, by omega, by omega⟩
  rw [← vbE0] at rb
  have vbE : Hid (vb = x / 1048576 % 32) := vbE0
  clear vbE0
  simp only [layI, layI3, layI2, layI1, layP, Fm.pcs, Fm.hasRd, Fm.hasA, Fm.hasB, List.foldl_cons, List.foldl_nil, if_true, Bool.false_eq_true, if_false]
  rw [b0,
    ra,
    orW _ va 15 5 32768 (by decide) (by omega) (by omega) (by omega) (by omega) (by omega) (by omega),
    rb,
    orW _ vb 20 5 1048576 (by decide) (by omega) (by omega) (by omega) (by omega) (by omega) (by omega),
    p0,
    orW _ y0 31 1 (2 ^ 31) rfl (by omega) (by omega) (by omega) (by omega) (by omega) (by omega),
    p1,
    orW _ y1 7 1 (2 ^ 7) rfl (by omega) (by omega) (by omega) (by omega) (by omega) (by omega),
    p2,
    orW _ y2 25 6 (2 ^ 25) rfl (by omega) (by omega) (by omega) (by omega) (by omega) (by omega),
    p3,
    orW _ y3 8 4 (2 ^ 8) rfl (by omega) (by omega) (by omega) (by omega) (by omega) (by omega)]
  have vaF := vaE.out
  have vbF := vbE.out
  have y0F := y0E.out
  have y1F := y1E.out
  have y2F := y2E.out
  have y3F := y3E.out
  have e1' := He1.out
  have e2' := He2.out
  have e3' := He3.out
  clear vaE vbE y0E y1E y2E y3E He1 He2 He3
  have g7 : x / 1 = x / 1 % 128 + 128 * (x / 128) := by omega
  have g8 : x / 128 = x / 128 % 2 + 2 * (x / 256) := by omega
  have g12 : x / 256 = x / 256 % 16 + 16 * (x / 4096) := by omega
  have g15 : x / 4096 = x / 4096 % 8 + 8 * (x / 32768) := by omega
  have g20 : x / 32768 = x / 32768 % 32 + 32 * (x / 1048576) := by omega
  have g25 : x / 1048576 = x / 1048576 % 32 + 32 * (x / 33554432) := by omega
  have g31 : x / 33554432 = x / 33554432 % 64 + 64 * (x / 2147483648) := by omega
  omega

set_option maxHeartbeats 1000000 in
theorem layS_b (x : Int) (h0 : 0 ≤ x) (h1 : x < 4294967296) (o z m : Int) (k : Int) (e1 : o = x % 128) (e2 : z = x / 4096 % 8) (e3 : m = 0) : layS .b o z m ⟨k, rdV .b x, aV .b x, bV .b x, immV .b x⟩ = x := by
  have rr : rdV .b x = 0 := by simp [rdV, Fm.hasRd]
  have ra : aV .b x = x / 32768 % 32 := by simp [aV, Fm.hasA, fld]
  have rb : bV .b x = x / 1048576 % 32 := by simp [bV, Fm.hasB, fld]
  have bz : -1 ≤ z ∧ z < 8 := by omega
  have bz0 : 0 ≤ z := by omega
  obtain ⟨y0, y0E0, y00, y01⟩ : ∃ v : Int, v = x / 128 % 2 ∧ 0 ≤ v ∧ v < 2 := ⟨_, rfl, by omega, by omega⟩
  obtain ⟨y1, y1E0, y10, y11⟩ : ∃ v : Int, v = x / 256 % 16 ∧ 0 ≤ v ∧ v < 16 := ⟨_, rfl, by omega, by omega⟩
  obtain ⟨y2, y2E0, y20, y21⟩ : ∃ v : Int, v = x / 33554432 % 64 ∧ 0 ≤ v ∧ v < 64 := ⟨_, rfl, by omega, by omega⟩
  obtain ⟨y3, y3E0, y30, y31⟩ : ∃ v : Int, v = x / 2147483648 % 2 ∧ 0 ≤ v ∧ v < 2 := ⟨_, rfl, by omega, by omega⟩
  have hS : x / 2147483648 * 4096 + x / 128 % 2 * 2048 + x / 33554432 % 64 * 32 + x / 256 % 16 * 2 = y0 * 2048 + y1 * 2 + y2 * 32 + y3 * 4096 := by omega
  obtain ⟨q, hq, hM0⟩ := wid13 (x / 2147483648 * 4096 + x / 128 % 2 * 2048 + x / 33554432 % 64 * 32 + x / 256 % 16 * 2) (by omega) (by omega)
  have hM : u64 (immV .b x) = y0 * 2048 + y1 * 2 + y2 * 32 + y3 * 4096 + q * 8192 := by rw [← hS]; exact hM0
  clear hM0
  have y0E : Hid (y0 = x / 128 % 2) := y0E0
  have y1E : Hid (y1 = x / 256 % 16) := y1E0
  have y2E : Hid (y2 = x / 33554432 % 64) := y2E0
  have y3E : Hid (y3 = x / 2147483648 % 2) := y3E0
  clear hS y0E0 y1E0 y2E0 y3E0
  have bo : 0 ≤ o ∧ o < 128 := by omega
  have bm : 0 ≤ m ∧ m < 1 := by omega
  have He1 : Hid (o = x % 128) := e1
  have He2 : Hid (z = x / 4096 % 8) := e2
  have He3 : Hid (m = 0) := e3
  clear e1 e2 e3
  have p0 : u64 (immV .b x) / 2048 % 2 = y0 := by rw [hM]; omega
  have p1 : u64 (immV .b x) / 2 % 16 = y1 := by rw [hM]; omega
  have p2 : u64 (immV .b x) / 32 % 64 = y2 := by rw [hM]; omega
  have p3 : u64 (immV .b x) / 4096 % 2 = y3 := by rw [hM]; omega
  clear hM hq
  simp only [layS]
  rw [p0, p1, p2, p3]
  clear p0 p1 p2 p3
  obtain ⟨va, vaE0, va0, va1⟩ : ∃ v : Int, v = x / 32768 % 32 ∧ 0 ≤ v ∧ v < 32 := ⟨_, rfl, by omega, by omega⟩
  rw [← vaE0] at ra
  have vaE : Hid (va = x / 32768 % 32) := vaE0
  clear vaE0
  obtain ⟨vb, vbE0, vb0, vb1⟩ : ∃ v : Int, v = x / 1048576 % 32 ∧ 0 ≤ v ∧ v < 32 := ⟨_, rfl, by omega, by omega⟩
  rw [← vbE0] at rb
  have vbE : Hid (vb = x / 1048576 % 32) := vbE0
  clear vbE0
  have b0 : base1 o ⟨k, rdV .b x, aV .b x, bV .b x, immV .b x⟩ = o + 0 * 128 + va * 32768 + vb * 1048576 := by
    simp only [base1, rr, ra, rb]
    rw [orV _ 0 7 5 128 (by decide) (by omega) (by omega) (by omega) (by omega) (by omega) (by omega), orV _ va 15 5 32768 (by decide) (by omega) (by omega) (by omega) (by omega) (by omega) (by omega), orV _ vb 20 5 1048576 (by decide) (by omega) (by omega) (by omega) (by omega) (by omega) (by omega)]
  have b1 : baseS o z ⟨k, rdV .b x, aV .b x, bV .b x, immV .b x⟩ = o + 0 * 128 + va * 32768 + vb * 1048576 + z * 4096 := by
    unfold baseS
    split
    · rw [b0, orV _ z 12 3 4096 (by decide) (by omega) (by omega) (by omega) (by omega) (by omega) (by omega)]
    · rw [b0]; omega
  rw [b1,
    orV _ y0 7 1 128 (by decide) (by omega) (by omega) (by omega) (by omega) (by omega) (by omega),
    orV _ y1 8 4 256 (by decide) (by omega) (by omega) (by omega) (by omega) (by omega) (by omega),
    orV _ y2 25 6 33554432 (by decide) (by omega) (by omega) (by omega) (by omega) (by omega) (by omega),
    orV _ y3 31 1 2147483648 (by decide) (by omega) (by omega) (by omega) (by omega) (by omega) (by omega)]
  have vaF := vaE.out
  have vbF := vbE.out
  have y0F := y0E.out
  have y1F := y1E.out
  have y2F := y2E.out
  have y3F := y3E.out
  have e1' := He1.out
  have e2' := He2.out
  have e3' := He3.out
  clear vaE vbE y0E y1E y2E y3E He1 He2 He3
  have g7 : x / 1 = x / 1 % 128 + 128 * (x / 128) := by omega
  have g8 : x / 128 = x / 128 % 2 + 2 * (x / 256) := by omega
  have g12 : x / 256 = x / 256 % 16 + 16 * (x / 4096) := by omega
  have g15 : x / 4096 = x / 4096 % 8 + 8 * (x / 32768) := by omega
  have g20 : x / 32768 = x / 32768 % 32 + 32 * (x / 1048576) := by omega
  have g25 : x / 1048576 = x / 1048576 % 32 + 32 * (x / 33554432) := by omega
  have g31 : x / 33554432 = x / 33554432 % 64 + 64 * (x / 2147483648) := by omega
  omega

set_option maxHeartbeats 1000000 in
theorem layI_u (x : Int) (h0 : 0 ≤ x) (h1 : x < 4294967296) (o z m : Int) (k : Int) (e1 : o = x % 128) (e2 : z = 0) (e3 : m = 0) : layI .u o z m ⟨k, rdV .u x, aV .u x, bV .u x, immV .u x⟩ = x := by
  have b0 : bitsI .u o z m = o + z * 4096 + m * 2 ^ Fm.at .u := bitsI_eq .u o z m (by omega) (by omega) (by omega) (by omega) (by omega) (by simp [Fm.at]; omega) (by simp [Fm.at]; omega)
  simp only [Fm.at] at b0
  have rr : fld (u64 (rdV .u x)) 0 5 = x / 128 % 32 := by
    have e : rdV .u x = x / 128 % 32 := by simp [rdV, Fm.hasRd, fld]
    rw [e, u64_small _ (by omega) (by omega)]; simp [fld]
  have bz : z = 0 := e2
  obtain ⟨y0, y0E0, y00, y01⟩ : ∃ v : Int, v = x / 4096 % 1048576 ∧ 0 ≤ v ∧ v < 1048576 := ⟨_, rfl, by omega, by omega⟩
  have hS : x / 4096 * 4096 = y0 * 4096 := by omega
  obtain ⟨q, hq, hM0⟩ := wid32 (x / 4096 * 4096) (by omega) (by omega)
  have hM : u64 (immV .u x) = y0 * 4096 + q * 4294967296 := by rw [← hS]; exact hM0
  clear hM0
  have y0E : Hid (y0 = x / 4096 % 1048576) := y0E0
  clear hS y0E0
  have bo : 0 ≤ o ∧ o < 128 := by omega
  have bm : 0 ≤ m ∧ m < 1 := by omega
  have He1 : Hid (o = x % 128) := e1
  have He2 : Hid (z = 0) := e2
  have He3 : Hid (m = 0) := e3
  clear e1 e2 e3
  have p0 : fld (u64 (immV .u x)) 12 20 = y0 := by rw [hM]; simp only [fld]; omega
  clear hM hq
  obtain ⟨vr, vrE0, vr0, vr1⟩ : ∃ v : Int, v = x / 128 % 32 ∧ 0 ≤ v ∧ v < 32 := ⟨_, rfl, by omega, by omega⟩
  rw [← vrE0] at rr
  have vrE : Hid (vr = x / 128 % 32) := vrE0
  clear vrE0
  simp only [layI, layI3, layI2, layI1, layP, Fm.pcs, Fm.hasRd, Fm.hasA, Fm.hasB, List.foldl_cons, List.foldl_nil, if_true, Bool.false_eq_true, if_false]
  rw [b0,
    rr,
    orW _ vr 7 5 128 (by decide) (by omega) (by omega) (by omega) (by omega) (by omega) (by omega),
    p0,
    orW _ y0 12 20 (2 ^ 12) rfl (by omega) (by omega) (by omega) (by omega) (by omega) (by omega)]
  have vrF := vrE.out
  have y0F := y0E.out
  have e1' := He1.out
  have e2' := He2.out
  have e3' := He3.out
  clear vrE y0E He1 He2 He3
  have g7 : x / 1 = x / 1 % 128 + 128 * (x / 128) := by omega
  have g12 : x / 128 = x / 128 % 32 + 32 * (x / 4096) := by omega
  omega

set_option maxHeartbeats 1000000 in
theorem layS_u (x : Int) (h0 : 0 ≤ x) (h1 : x < 4294967296) (o z m : Int) (k : Int) (e1 : o = x % 128) (e2 : z = -1) (e3 : m = 0) : layS .u o z m ⟨k, rdV .u x, aV .u x, bV .u x, immV .u x⟩ = x := by
  have rr : rdV .u x = x / 128 % 32 := by simp [rdV, Fm.hasRd, fld]
  have ra : aV .u x = 0 := by simp [aV, Fm.hasA]
  have rb : bV .u x = 0 := by simp [bV, Fm.hasB]
  have bz : -1 ≤ z ∧ z < 8 := by omega
  obtain ⟨y0, y0E0, y00, y01⟩ : ∃ v : Int, v = x / 4096 % 1048576 ∧ 0 ≤ v ∧ v < 1048576 := ⟨_, rfl, by omega, by omega⟩
  have hS : x / 4096 * 4096 = y0 * 4096 := by omega
  obtain ⟨q, hq, hM0⟩ := wid32 (x / 4096 * 4096) (by omega) (by omega)
  have hM : u64 (immV .u x) = y0 * 4096 + q * 4294967296 := by rw [← hS]; exact hM0
  clear hM0
  have y0E : Hid (y0 = x / 4096 % 1048576) := y0E0
  clear hS y0E0
  have bo : 0 ≤ o ∧ o < 128 := by omega
  have bm : 0 ≤ m ∧ m < 1 := by omega
  have He1 : Hid (o = x % 128) := e1
  have He2 : Hid (z = -1) := e2
  have He3 : Hid (m = 0) := e3
  clear e1 e2 e3
  have p0 : u64 (immV .u x) / 4096 % 1048576 = y0 := by rw [hM]; omega
  clear hM hq
  simp only [layS]
  rw [p0]
  clear p0
  obtain ⟨vr, vrE0, vr0, vr1⟩ : ∃ v : Int, v = x / 128 % 32 ∧ 0 ≤ v ∧ v < 32 := ⟨_, rfl, by omega, by omega⟩
  rw [← vrE0] at rr
  have vrE : Hid (vr = x / 128 % 32) := vrE0
  clear vrE0
  have b0 : base1 o ⟨k, rdV .u x, aV .u x, bV .u x, immV .u x⟩ = o + vr * 128 + 0 * 32768 + 0 * 1048576 := by
    simp only [base1, rr, ra, rb]
    rw [orV _ vr 7 5 128 (by decide) (by omega) (by omega) (by omega) (by omega) (by omega) (by omega), orV _ 0 15 5 32768 (by decide) (by omega) (by omega) (by omega) (by omega) (by omega) (by omega), orV _ 0 20 5 1048576 (by decide) (by omega) (by omega) (by omega) (by omega) (by omega) (by omega)]
  have b1 : baseS o z ⟨k, rdV .u x, aV .u x, bV .u x, immV .u x⟩ = o + vr * 128 + 0 * 32768 + 0 * 1048576 := by rw [baseS, if_neg (by have := He2.out; omega), b0]
  rw [b1,
    orV _ y0 12 20 4096 (by decide) (by omega) (by omega) (by omega) (by omega) (by omega) (by omega)]
  have vrF := vrE.out
  have y0F := y0E.out
  have e1' := He1.out
  have e2' := He2.out
  have e3' := He3.out
  clear vrE y0E He1 He2 He3
  have g7 : x / 1 = x / 1 % 128 + 128 * (x / 128) := by omega
  have g12 : x / 128 = x / 128 % 32 + 32 * (x / 4096) := by omega
  omega

set_option maxHeartbeats 1000000 in
theorem layI_j (x : Int) (h0 : 0 ≤ x) (h1 : x < 4294967296) (o z m : Int) (k : Int) (e1 : o = x % 128) (e2 : z = 0) (e3 : m = 0) : layI .j o z m ⟨k, rdV .j x, aV .j x, bV .j x, immV .j x⟩ = x := by
  have b0 : bitsI .j o z m = o + z * 4096 + m * 2 ^ Fm.at .j := bitsI_eq .j o z m (by omega) (by omega) (by omega) (by omega) (by omega) (by simp [Fm.at]; omega) (by simp [Fm.at]; omega)
  simp only [Fm.at] at b0
  have rr : fld (u64 (rdV .j x)) 0 5 = x / 128 % 32 := by
    have e : rdV .j x = x / 128 % 32 := by simp [rdV, Fm.hasRd, fld]
    rw [e, u64_small _ (by omega) (by omega)]; simp [fld]
  have bz : z = 0 := e2
  obtain ⟨y0, y0E0, y00, y01⟩ : ∃ v : Int, v = x / 2147483648 % 2 ∧ 0 ≤ v ∧ v < 2 := ⟨_, rfl, by omega, by omega⟩
  obtain ⟨y1, y1E0, y10, y11⟩ : ∃ v : Int, v = x / 4096 % 256 ∧ 0 ≤ v ∧ v < 256 := ⟨_, rfl, by omega, by omega⟩
  obtain ⟨y2, y2E0, y20, y21⟩ : ∃ v : Int, v = x / 1048576 % 2 ∧ 0 ≤ v ∧ v < 2 := ⟨_, rfl, by omega, by omega⟩
  obtain ⟨y3, y3E0, y30, y31⟩ : ∃ v : Int, v = x / 2097152 % 1024 ∧ 0 ≤ v ∧ v < 1024 := ⟨_, rfl, by omega, by omega⟩
  have hS : x / 2147483648 * 1048576 + x / 4096 % 256 * 4096 + x / 1048576 % 2 * 2048 + x / 2097152 % 1024 * 2 = y0 * 1048576 + y1 * 4096 + y2 * 2048 + y3 * 2 := by omega
  obtain ⟨q, hq, hM0⟩ := wid21 (x / 2147483648 * 1048576 + x / 4096 % 256 * 4096 + x / 1048576 % 2 * 2048 + x / 2097152 % 1024 * 2) (by omega) (by omega)
  have hM : u64 (immV .j x) = y0 * 1048576 + y1 * 4096 + y2 * 2048 + y3 * 2 + q * 2097152 := by rw [← hS]; exact hM0
  clear hM0
  have y0E : Hid (y0 = x / 2147483648 % 2) := y0E0
  have y1E : Hid (y1 = x / 4096 % 256) := y1E0
  have y2E : Hid (y2 = x / 1048576 % 2) := y2E0
  have y3E : Hid (y3 = x / 2097152 % 1024) := y3E0
  clear hS y0E0 y1E0 y2E0 y3E0
  have bo : 0 ≤ o ∧ o < 128 := by omega
  have bm : 0 ≤ m ∧ m < 1 := by omega
  have He1 : Hid (o = x % 128) := e1
  have He2 : Hid (z = 0) := e2
  have He3 : Hid (m = 0) := e3
  clear e1 e2 e3
  have p0 : fld (u64 (immV .j x)) 20 1 = y0 := by rw [hM]; simp only [fld]; omega
  have p1 : fld (u64 (immV .j x)) 12 8 = y1 := by rw [hM]; simp only [fld]; omega
  have p2 : fld (u64 (immV .j x)) 11 1 = y2 := by rw [hM]; simp only [fld]; omega
  have p3 : fld (u64 (immV .j x)) 1 10 = y3 := by rw [hM]; simp only [fld]; omega
  clear hM hq
  obtain ⟨vr, vrE0, vr0, vr1⟩ : ∃ v : Int, v = x / 128 % 32 ∧ 0 ≤ v ∧ v < 32 := ⟨_, rfl, by omega, by omega⟩
  rw [← vrE0] at rr
  have vrE : Hid (vr = x / 128 % 32) := vrE0
  clear vrE0
  simp only [layI, layI3, layI2, layI1, layP, Fm.pcs, Fm.hasRd, Fm.hasA, Fm.hasB, List.foldl_cons, List.foldl_nil, if_true, Bool.false_eq_true, if_false]
  rw [b0,
    rr,
    orW _ vr 7 5 128 (by decide) (by omega) (by omega) (by omega) (by omega) (by omega) (by omega),
    p0,
    orW _ y0 31 1 (2 ^ 31) rfl (by omega) (by omega) (by omega) (by omega) (by omega) (by omega),
    p1,
    orW _ y1 12 8 (2 ^ 12) rfl (by omega) (by omega) (by omega) (by omega) (by omega) (by omega),
    p2,
    orW _ y2 20 1 (2 ^ 20) rfl (by omega) (by omega) (by omega) (by omega) (by omega) (by omega),
    p3,
    orW _ y3 21 10 (2 ^ 21) rfl (by omega) (by omega) (by omega) (by omega) (by omega) (by omega)]
  have vrF := vrE.out
  have y0F := y0E.out
  have y1F := y1E.out
  have y2F := y2E.out
  have y3F := y3E.out
  have e1' := He1.out
  have e2' := He2.out
  have e3' := He3.out
  clear vrE y0E y1E y2E y3E He1 He2 He3
  have g7 : x / 1 = x / 1 % 128 + 128 * (x / 128) := by omega
  have g12 : x / 128 = x / 128 % 32 + 32 * (x / 4096) := by omega
  have g20 : x / 4096 = x / 4096 % 256 + 256 * (x / 1048576) := by omega
  have g21 : x / 1048576 = x / 1048576 % 2 + 2 * (x / 2097152) := by omega
  have g31 : x / 2097152 = x / 2097152 % 1024 + 1024 * (x / 2147483648) := by omega
  omega

set_option maxHeartbeats 1000000 in
theorem layS_j (x : Int) (h0 : 0 ≤ x) (h1 : x < 4294967296) (o z m : Int) (k : Int) (e1 : o = x % 128) (e2 : z = -1) (e3 : m = 0) : layS .j o z m ⟨k, rdV .j x, aV .j x, bV .j x, immV .j x⟩ = x := by
  have rr : rdV .j x = x / 128 % 32 := by simp [rdV, Fm.hasRd, fld]
  have ra : aV .j x = 0 := by simp [aV, Fm.hasA]
  have rb : bV .j x = 0 := by simp [bV, Fm.hasB]
  have bz : -1 ≤ z ∧ z < 8 := by omega
  obtain ⟨y0, y0E0, y00, y01⟩ : ∃ v : Int, v = x / 4096 % 256 ∧ 0 ≤ v ∧ v < 256 := ⟨_, rfl, by omega, by omega⟩
  obtain ⟨y1, y1E0, y10, y11⟩ : ∃ v : Int, v = x / 1048576 % 2 ∧ 0 ≤ v ∧ v < 2 := ⟨_, rfl, by omega, by omega⟩
  obtain ⟨y2, y2E0, y20, y21⟩ : ∃ v : Int, v = x / 2097152 % 1024 ∧ 0 ≤ v ∧ v < 1024 := ⟨_, rfl, by omega, by omega⟩
  obtain ⟨y3, y3E0, y30, y31⟩ : ∃ v : Int, v = x / 2147483648 % 2 ∧ 0 ≤ v ∧ v < 2 := ⟨_, rfl, by omega, by omega⟩
  have hS : x / 2147483648 * 1048576 + x / 4096 % 256 * 4096 + x / 1048576 % 2 * 2048 + x / 2097152 % 1024 * 2 = y0 * 4096 + y1 * 2048 + y2 * 2 + y3 * 1048576 := by omega
  obtain ⟨q, hq, hM0⟩ := wid21 (x / 2147483648 * 1048576 + x / 4096 % 256 * 4096 + x / 1048576 % 2 * 2048 + x / 2097152 % 1024 * 2) (by omega) (by omega)
  have hM : u64 (immV .j x) = y0 * 4096 + y1 * 2048 + y2 * 2 + y3 * 1048576 + q * 2097152 := by rw [← hS]; exact hM0
  clear hM0
  have y0E : Hid (y0 = x / 4096 % 256) := y0E0
  have y1E : Hid (y1 = x / 1048576 % 2) := y1E0
  have y2E : Hid (y2 = x / 2097152 % 1024) := y2E0
  have y3E : Hid (y3 = x / 2147483648 % 2) := y3E0
  clear hS y0E0 y1E0 y2E0 y3E0
  have bo : 0 ≤ o ∧ o < 128 := by omega
  have bm : 0 ≤ m ∧ m < 1 := by omega
  have He1 : Hid (o = x % 128) := e1
  have He2 : Hid (z = -1) := e2
  have He3 : Hid (m = 0) := e3
  clear e1 e2 e3
  have p0 : u64 (immV .j x) / 4096 % 256 = y0 := by rw [hM]; omega
  have p1 : u64 (immV .j x) / 2048 % 2 = y1 := by rw [hM]; omega
  have p2 : u64 (immV .j x) / 2 % 1024 = y2 := by rw [hM]; omega
  have p3 : u64 (immV .j x) / 1048576 % 2 = y3 := by rw [hM]; omega
  clear hM hq
  simp only [layS]
  rw [p0, p1, p2, p3]
  clear p0 p1 p2 p3
  obtain ⟨vr, vrE0, vr0, vr1⟩ : ∃ v : Int, v = x / 128 % 32 ∧ 0 ≤ v ∧ v < 32 := ⟨_, rfl, by omega, by omega⟩
  rw [← vrE0] at rr
  have vrE : Hid (vr = x / 128 % 32) := vrE0
  clear vrE0
  have b0 : base1 o ⟨k, rdV .j x, aV .j x, bV .j x, immV .j x⟩ = o + vr * 128 + 0 * 32768 + 0 * 1048576 := by
    simp only [base1, rr, ra, rb]
    rw [orV _ vr 7 5 128 (by decide) (by omega) (by omega) (by omega) (by omega) (by omega) (by omega), orV _ 0 15 5 32768 (by decide) (by omega) (by omega) (by omega) (by omega) (by omega) (by omega), orV _ 0 20 5 1048576 (by decide) (by omega) (by omega) (by omega) (by omega) (by omega) (by omega)]
  have b1 : baseS o z ⟨k, rdV .j x, aV .j x, bV .j x, immV .j x⟩ = o + vr * 128 + 0 * 32768 + 0 * 1048576 := by rw [baseS, if_neg (by have := He2.out; omega), b0]
  rw [b1,
    orV _ y0 12 8 4096 (by decide) (by omega) (by omega) (by omega) (by omega) (by omega) (by omega),
    orV _ y1 20 1 1048576 (by decide) (by omega) (by omega) (by omega) (by omega) (by omega) (by omega),
    orV _ y2 21 10 2097152 (by decide) (by omega) (by omega) (by omega) (by omega) (by omega) (by omega),
    orV _ y3 31 1 2147483648 (by decide) (by omega) (by omega) (by omega) (by omega) (by omega) (by omega)]
  have vrF := vrE.out
  have y0F := y0E.out
  have y1F := y1E.out
  have y2F := y2E.out
  have y3F := y3E.out
  have e1' := He1.out
  have e2' := He2.out
  have e3' := He3.out
  clear vrE y0E y1E y2E y3E He1 He2 He3
  have g7 : x / 1 = x / 1 % 128 + 128 * (x / 128) := by omega
  have g12 : x / 128 = x / 128 % 32 + 32 * (x / 4096) := by omega
  have g20 : x / 4096 = x / 4096 % 256 + 256 * (x / 1048576) := by omega
  have g21 : x / 1048576 = x / 1048576 % 2 + 2 * (x / 2097152) := by omega
  have g31 : x / 2097152 = x / 2097152 % 1024 + 1024 * (x / 2147483648) := by omega
  omega

set_option maxHeartbeats 1000000 in
theorem layI_a (x : Int) (h0 : 0 ≤ x) (h1 : x < 4294967296) (o z m : Int) (k : Int) (e1 : o = x % 128) (e2 : z = x / 4096 % 8) (e3 : m = x / 134217728) : layI .a o z m ⟨k, rdV .a x, aV .a x, bV .a x, immV .a x⟩ = x := by
  have b0 : bitsI .a o z m = o + z * 4096 + m * 2 ^ Fm.at .a := bitsI_eq .a o z m (by omega) (by omega) (by omega) (by omega) (by omega) (by simp [Fm.at]; omega) (by simp [Fm.at])
  simp only [Fm.at] at b0
  have rr : fld (u64 (rdV .a x)) 0 5 = x / 128 % 32 := by
    have e : rdV .a x = x / 128 % 32 := by simp [rdV, Fm.hasRd, fld]
    rw [e, u64_small _ (by omega) (by omega)]; simp [fld]
  have ra : fld (u64 (aV .a x)) 0 5 = x / 32768 % 32 := by
    have e : aV .a x = x / 32768 % 32 := by simp [aV, Fm.hasA, fld]
    rw [e, u64_small _ (by omega) (by omega)]; simp [fld]
  have rb : fld (u64 (bV .a x)) 0 5 = x / 1048576 % 32 := by
    have e : bV .a x = x / 1048576 % 32 := by simp [bV, Fm.hasB, fld]
    rw [e, u64_small _ (by omega) (by omega)]; simp [fld]
  have bz : 0 ≤ z ∧ z < 8 := by omega
  obtain ⟨y0, y0E0, y00, y01⟩ : ∃ v : Int, v = x / 33554432 % 4 ∧ 0 ≤ v ∧ v < 4 := ⟨_, rfl, by omega, by omega⟩
  have hS : x / 33554432 % 4 = y0 * 1 := by omega
  have hM : u64 (immV .a x) = y0 * 1 := by rw [← hS]; exact wid64 (x / 33554432 % 4) (by omega) (by omega)
  have y0E : Hid (y0 = x / 33554432 % 4) := y0E0
  clear hS y0E0
  have bo : 0 ≤ o ∧ o < 128 := by omega
  have bm : 0 ≤ m ∧ m < 32 := by omega
  have He1 : Hid (o = x % 128) := e1
  have He2 : Hid (z = x / 4096 % 8) := e2
  have He3 : Hid (m = x / 134217728) := e3
  clear e1 e2 e3
  have p0 : fld (u64 (immV .a x)) 0 2 = y0 := by rw [hM]; simp only [fld]; omega
  clear hM
  obtain ⟨vr, vrE0, vr0, vr1⟩ : ∃ v : Int, v = x / 128 % 32 ∧ 0 ≤ v ∧ v < 32 := ⟨_, rfl, by omega, by omega⟩
  rw [← vrE0] at rr
  have vrE : Hid (vr = x / 128 % 32) := vrE0
  clear vrE0
  obtain ⟨va, vaE0, va0, va1⟩ : ∃ v : Int, v = x / 32768 % 32 ∧ 0 ≤ v ∧ v < 32 := ⟨_, rfl, by omega, by omega⟩
  rw [← vaE0] at ra
  have vaE : Hid (va = x / 32768 % 32) := vaE0
  clear vaE0
  obtain ⟨vb, vbE0, vb0, vb1⟩ : ∃ v : Int, v = x / 1048576 % 32 ∧ 0 ≤ v ∧ v < 32 := ⟨_, rfl, by omega, by omega⟩
  rw [← vbE0] at rb
  have vbE : Hid (vb = x / 1048576 % 32) := vbE0
  clear vbE0
  simp only [layI, layI3, layI2, layI1, layP, Fm.pcs, Fm.hasRd, Fm.hasA, Fm.hasB, List.foldl_cons, List.foldl_nil, if_true, Bool.false_eq_true, if_false]
  rw [b0,
    rr,
    orW _ vr 7 5 128 (by decide) (by omega) (by omega) (by omega) (by omega) (by omega) (by omega),
    ra,
    orW _ va 15 5 32768 (by decide) (by omega) (by omega) (by omega) (by omega) (by omega) (by omega),
    rb,
    orW _ vb 20 5 1048576 (by decide) (by omega) (by omega) (by omega) (by omega) (by omega) (by omega),
    p0,
    orW _ y0 25 2 (2 ^ 25) rfl (by omega) (by omega) (by omega) (by omega) (by omega) (by omega)]
  have vrF := vrE.out
  have vaF := vaE.out
  have vbF := vbE.out
  have y0F := y0E.out
  have e1' := He1.out
  have e2' := He2.out
  have e3' := He3.out
  clear vrE vaE vbE y0E He1 He2 He3
  have g7 : x / 1 = x / 1 % 128 + 128 * (x / 128) := by omega
  have g12 : x / 128 = x / 128 % 32 + 32 * (x / 4096) := by omega
  have g15 : x / 4096 = x / 4096 % 8 + 8 * (x / 32768) := by omega
  have g20 : x / 32768 = x / 32768 % 32 + 32 * (x / 1048576) := by omega
  have g25 : x / 1048576 = x / 1048576 % 32 + 32 * (x / 33554432) := by omega
  have g27 : x / 33554432 = x / 33554432 % 4 + 4 * (x / 134217728) := by omega
  omega

set_option maxHeartbeats 1000000 in
theorem layS_a (x : Int) (h0 : 0 ≤ x) (h1 : x < 4294967296) (o z m : Int) (k : Int) (e1 : o = x % 128) (e2 : z = x / 4096 % 8) (e3 : m = x / 134217728) : layS .a o z m ⟨k, rdV .a x, aV .a x, bV .a x, immV .a x⟩ = x := by
  have rr : rdV .a x = x / 128 % 32 := by simp [rdV, Fm.hasRd, fld]
  have ra : aV .a x = x / 32768 % 32 := by simp [aV, Fm.hasA, fld]
  have rb : bV .a x = x / 1048576 % 32 := by simp [bV, Fm.hasB, fld]
  have bz : -1 ≤ z ∧ z < 8 := by omega
  have bz0 : 0 ≤ z := by omega
  obtain ⟨y0, y0E0, y00, y01⟩ : ∃ v : Int, v = x / 33554432 % 4 ∧ 0 ≤ v ∧ v < 4 := ⟨_, rfl, by omega, by omega⟩
  have hS : x / 33554432 % 4 = y0 * 1 := by omega
  have hM : u64 (immV .a x) = y0 * 1 := by rw [← hS]; exact wid64 (x / 33554432 % 4) (by omega) (by omega)
  have y0E : Hid (y0 = x / 33554432 % 4) := y0E0
  clear hS y0E0
  have bo : 0 ≤ o ∧ o < 128 := by omega
  have bm : 0 ≤ m ∧ m < 32 := by omega
  have He1 : Hid (o = x % 128) := e1
  have He2 : Hid (z = x / 4096 % 8) := e2
  have He3 : Hid (m = x / 134217728) := e3
  clear e1 e2 e3
  have p0 : u64 (immV .a x) % 4 = y0 := by rw [hM]; omega
  clear hM
  simp only [layS]
  rw [p0]
  clear p0
  obtain ⟨vr, vrE0, vr0, vr1⟩ : ∃ v : Int, v = x / 128 % 32 ∧ 0 ≤ v ∧ v < 32 := ⟨_, rfl, by omega, by omega⟩
  rw [← vrE0] at rr
  have vrE : Hid (vr = x / 128 % 32) := vrE0
  clear vrE0
  obtain ⟨va, vaE0, va0, va1⟩ : ∃ v : Int, v = x / 32768 % 32 ∧ 0 ≤ v ∧ v < 32 := ⟨_, rfl, by omega, by omega⟩
  rw [← vaE0] at ra
  have vaE : Hid (va = x / 32768 % 32) := vaE0
  clear vaE0
  obtain ⟨vb, vbE0, vb0, vb1⟩ : ∃ v : Int, v = x / 1048576 % 32 ∧ 0 ≤ v ∧ v < 32 := ⟨_, rfl, by omega, by omega⟩
  rw [← vbE0] at rb
  have vbE : Hid (vb = x / 1048576 % 32) := vbE0
  clear vbE0
  have b0 : base1 o ⟨k, rdV .a x, aV .a x, bV .a x, immV .a x⟩ = o + vr * 128 + va * 32768 + vb * 1048576 := by
    simp only [base1, rr, ra, rb]
    rw [orV _ vr 7 5 128 (by decide) (by omega) (by omega) (by omega) (by omega) (by omega) (by omega), orV _ va 15 5 32768 (by decide) (by omega) (by omega) (by omega) (by omega) (by omega) (by omega), orV _ vb 20 5 1048576 (by decide) (by omega) (by omega) (by omega) (by omega) (by omega) (by omega)]
  have b1 : baseS o z ⟨k, rdV .a x, aV .a x, bV .a x, immV .a x⟩ = o + vr * 128 + va * 32768 + vb * 1048576 + z * 4096 := by
    unfold baseS
    split
    · rw [b0, orV _ z 12 3 4096 (by decide) (by omega) (by omega) (by omega) (by omega) (by omega) (by omega)]
    · rw [b0]; omega
  rw [b1,
    orV _ y0 25 2 33554432 (by decide) (by omega) (by omega) (by omega) (by omega) (by omega) (by omega),
    orV _ m 27 5 134217728 (by decide) (by omega) (by omega) (by omega) (by omega) (by omega) (by omega)]
  have vrF := vrE.out
  have vaF := vaE.out
  have vbF := vbE.out
  have y0F := y0E.out
  have e1' := He1.out
  have e2' := He2.out
  have e3' := He3.out
  clear vrE vaE vbE y0E He1 He2 He3
  have g7 : x / 1 = x / 1 % 128 + 128 * (x / 128) := by omega
  have g12 : x / 128 = x / 128 % 32 + 32 * (x / 4096) := by omega
  have g15 : x / 4096 = x / 4096 % 8 + 8 * (x / 32768) := by omega
  have g20 : x / 32768 = x / 32768 % 32 + 32 * (x / 1048576) := by omega
  have g25 : x / 1048576 = x / 1048576 % 32 + 32 * (x / 33554432) := by omega
  have g27 : x / 33554432 = x / 33554432 % 4 + 4 * (x / 134217728) := by omega
  omega

set_option maxHeartbeats 1000000 in
theorem layI_c (x : Int) (h0 : 0 ≤ x) (h1 : x < 4294967296) (o z m : Int) (k : Int) (e1 : o = x % 128) (e2 : z = x / 4096 % 8) (e3 : m = 0) : layI .c o z m ⟨k, rdV .c x, aV .c x, bV .c x, immV .c x⟩ = x := by
  have b0 : bitsI .c o z m = o + z * 4096 + m * 2 ^ Fm.at .c := bitsI_eq .c o z m (by omega) (by omega) (by omega) (by omega) (by omega) (by simp [Fm.at]; omega) (by simp [Fm.at]; omega)
  simp only [Fm.at] at b0
  have rr : fld (u64 (rdV .c x)) 0 5 = x / 128 % 32 := by
    have e : rdV .c x = x / 128 % 32 := by simp [rdV, Fm.hasRd, fld]
    rw [e, u64_small _ (by omega) (by omega)]; simp [fld]
  have ra : fld (u64 (aV .c x)) 0 5 = x / 32768 % 32 := by
    have e : aV .c x = x / 32768 % 32 := by simp [aV, Fm.hasA, fld]
    rw [e, u64_small _ (by omega) (by omega)]; simp [fld]
  have bz : 0 ≤ z ∧ z < 8 := by omega
  obtain ⟨y0, y0E0, y00, y01⟩ : ∃ v : Int, v = x / 1048576 % 4096 ∧ 0 ≤ v ∧ v < 4096 := ⟨_, rfl, by omega, by omega⟩
  have hS : x / 1048576 = y0 * 1 := by omega
  have hM : u64 (immV .c x) = y0 * 1 := by rw [← hS]; exact wid64 (x / 1048576) (by omega) (by omega)
  have y0E : Hid (y0 = x / 1048576 % 4096) := y0E0
  clear hS y0E0
  have bo : 0 ≤ o ∧ o < 128 := by omega
  have bm : 0 ≤ m ∧ m < 1 := by omega
  have He1 : Hid (o = x % 128) := e1
  have He2 : Hid (z = x / 4096 % 8) := e2
  have He3 : Hid (m = 0) := e3
  clear e1 e2 e3
  have p0 : fld (u64 (immV .c x)) 0 12 = y0 := by rw [hM]; simp only [fld]; omega
  clear hM
  obtain ⟨vr, vrE0, vr0, vr1⟩ : ∃ v : Int, v = x / 128 % 32 ∧ 0 ≤ v ∧ v < 32 := ⟨_, rfl, by omega, by omega⟩
  rw [← vrE0] at rr
  have vrE : Hid (vr = x / 128 % 32) := vrE0
  clear vrE0
  obtain ⟨va, vaE0, va0, va1⟩ : ∃ v : Int, v = x / 32768 % 32 ∧ 0 ≤ v ∧ v < 32 := ⟨_, rfl, by omega, by omega⟩
  rw [← vaE0] at ra
  have vaE : Hid (va = x / 32768 % 32) := vaE0
  clear vaE0
  simp only [layI, layI3, layI2, layI1, layP, Fm.pcs, Fm.hasRd, Fm.hasA, Fm.hasB, List.foldl_cons, List.foldl_nil, if_true, Bool.false_eq_true, if_false]
  rw [b0,
    rr,
    orW _ vr 7 5 128 (by decide) (by omega) (by omega) (by omega) (by omega) (by omega) (by omega),
    ra,
    orW _ va 15 5 32768 (by decide) (by omega) (by omega) (by omega) (by omega) (by omega) (by omega),
    p0,
    orW _ y0 20 12 (2 ^ 20) rfl (by omega) (by omega) (by omega) (by omega) (by omega) (by omega)]
  have vrF := vrE.out
  have vaF := vaE.out
  have y0F := y0E.out
  have e1' := He1.out
  have e2' := He2.out
  have e3' := He3.out
  clear vrE vaE y0E He1 He2 He3
  have g7 : x / 1 = x / 1 % 128 + 128 * (x / 128) := by omega
  have g12 : x / 128 = x / 128 % 32 + 32 * (x / 4096) := by omega
  have g15 : x / 4096 = x / 4096 % 8 + 8 * (x / 32768) := by omega
  have g20 : x / 32768 = x / 32768 % 32 + 32 * (x / 1048576) := by omega
  omega

set_option maxHeartbeats 1000000 in
theorem layS_c (x : Int) (h0 : 0 ≤ x) (h1 : x < 4294967296) (o z m : Int) (k : Int) (e1 : o = x % 128) (e2 : z = x / 4096 % 8) (e3 : m = 0) : layS .c o z m ⟨k, rdV .c x, aV .c x, bV .c x, immV .c x⟩ = x := by
  have rr : rdV .c x = x / 128 % 32 := by simp [rdV, Fm.hasRd, fld]
  have ra : aV .c x = x / 32768 % 32 := by simp [aV, Fm.hasA, fld]
  have rb : bV .c x = 0 := by simp [bV, Fm.hasB]
  have bz : -1 ≤ z ∧ z < 8 := by omega
  have bz0 : 0 ≤ z := by omega
  obtain ⟨y0, y0E0, y00, y01⟩ : ∃ v : Int, v = x / 1048576 % 4096 ∧ 0 ≤ v ∧ v < 4096 := ⟨_, rfl, by omega, by omega⟩
  have hS : x / 1048576 = y0 * 1 := by omega
  have hM : u64 (immV .c x) = y0 * 1 := by rw [← hS]; exact wid64 (x / 1048576) (by omega) (by omega)
  have y0E : Hid (y0 = x / 1048576 % 4096) := y0E0
  clear hS y0E0
  have bo : 0 ≤ o ∧ o < 128 := by omega
  have bm : 0 ≤ m ∧ m < 1 := by omega
  have He1 : Hid (o = x % 128) := e1
  have He2 : Hid (z = x / 4096 % 8) := e2
  have He3 : Hid (m = 0) := e3
  clear e1 e2 e3
  have p0 : u64 (immV .c x) % 4096 = y0 := by rw [hM]; omega
  clear hM
  simp only [layS]
  rw [p0]
  clear p0
  obtain ⟨vr, vrE0, vr0, vr1⟩ : ∃ v : Int, v = x / 128 % 32 ∧ 0 ≤ v ∧ v < 32 := ⟨_, rfl, by omega, by omega⟩
  rw [← vrE0] at rr
  have vrE : Hid (vr = x / 128 % 32) := vrE0
  clear vrE0
  obtain ⟨va, vaE0, va0, va1⟩ : ∃ v : Int, v = x / 32768 % 32 ∧ 0 ≤ v ∧ v < 32 := ⟨_, rfl, by omega, by omega⟩
  rw [← vaE0] at ra
  have vaE : Hid (va = x / 32768 % 32) := vaE0
  clear vaE0
  have b0 : base1 o ⟨k, rdV .c x, aV .c x, bV .c x, immV .c x⟩ = o + vr * 128 + va * 32768 + 0 * 1048576 := by
    simp only [base1, rr, ra, rb]
    rw [orV _ vr 7 5 128 (by decide) (by omega) (by omega) (by omega) (by omega) (by omega) (by omega), orV _ va 15 5 32768 (by decide) (by omega) (by omega) (by omega) (by omega) (by omega) (by omega), orV _ 0 20 5 1048576 (by decide) (by omega) (by omega) (by omega) (by omega) (by omega) (by omega)]
  have b1 : baseS o z ⟨k, rdV .c x, aV .c x, bV .c x, immV .c x⟩ = o + vr * 128 + va * 32768 + 0 * 1048576 + z * 4096 := by
    unfold baseS
    split
    · rw [b0, orV _ z 12 3 4096 (by decide) (by omega) (by omega) (by omega) (by omega) (by omega) (by omega)]
    · rw [b0]; omega
  rw [b1,
    orV _ y0 20 12 1048576 (by decide) (by omega) (by omega) (by omega) (by omega) (by omega) (by omega)]
  have vrF := vrE.out
  have vaF := vaE.out
  have y0F := y0E.out
  have e1' := He1.out
  have e2' := He2.out
  have e3' := He3.out
  clear vrE vaE y0E He1 He2 He3
  have g7 : x / 1 = x / 1 % 128 + 128 * (x / 128) := by omega
  have g12 : x / 128 = x / 128 % 32 + 32 * (x / 4096) := by omega
  have g15 : x / 4096 = x / 4096 % 8 + 8 * (x / 32768) := by omega
  have g20 : x / 32768 = x / 32768 % 32 + 32 * (x / 1048576) := by omega
  omega

set_option maxHeartbeats 1000000 in
theorem layI_x (x : Int) (h0 : 0 ≤ x) (h1 : x < 4294967296) (o z m : Int) (k : Int) (e1 : o = x % 128) (e2 : z = x / 4096 % 8) (e3 : m = x / 1048576) (e4 : x = m * 1048576 + o) : layI .x o z m ⟨k, rdV .x x, aV .x x, bV .x x, immV .x x⟩ = x := by
  have b0 : bitsI .x o z m = o + z * 4096 + m * 2 ^ Fm.at .x := bitsI_eq .x o z m (by omega) (by omega) (by omega) (by omega) (by omega) (by simp [Fm.at]; omega) (by simp [Fm.at])
  simp only [Fm.at] at b0
  have bz : 0 ≤ z ∧ z < 8 := by omega
  have bo : 0 ≤ o ∧ o < 128 := by omega
  have bm : 0 ≤ m ∧ m < 4096 := by omega
  have He1 : Hid (o = x % 128) := e1
  have He2 : Hid (z = x / 4096 % 8) := e2
  have He3 : Hid (m = x / 1048576) := e3
  have He4 : Hid (x = m * 1048576 + o) := e4
  clear e1 e2 e3 e4
  simp only [layI, layI3, layI2, layI1, layP, Fm.pcs, Fm.hasRd, Fm.hasA, Fm.hasB, List.foldl_nil, Bool.false_eq_true, if_false]
  rw [b0]
  have e1' := He1.out
  have e2' := He2.out
  have e3' := He3.out
  have e4' := He4.out
  clear He1 He2 He3 He4
  have g7 : x / 1 = x / 1 % 128 + 128 * (x / 128) := by omega
  have g12 : x / 128 = x / 128 % 32 + 32 * (x / 4096) := by omega
  have g20 : x / 4096 = x / 4096 % 256 + 256 * (x / 1048576) := by omega
  omega

set_option maxHeartbeats 1000000 in
theorem layS_x (x : Int) (h0 : 0 ≤ x) (h1 : x < 4294967296) (o z m : Int) (k : Int) (e1 : o = x % 128) (e2 : z = x / 4096 % 8) (e3 : m = x / 1048576) (e4 : x = m * 1048576 + o) : layS .x o z m ⟨k, rdV .x x, aV .x x, bV .x x, immV .x x⟩ = x := by
  have rr : rdV .x x = 0 := by simp [rdV, Fm.hasRd]
  have ra : aV .x x = 0 := by simp [aV, Fm.hasA]
  have rb : bV .x x = 0 := by simp [bV, Fm.hasB]
  have bz : -1 ≤ z ∧ z < 8 := by omega
  have bz0 : 0 ≤ z := by omega
  have bo : 0 ≤ o ∧ o < 128 := by omega
  have bm : 0 ≤ m ∧ m < 4096 := by omega
  have He1 : Hid (o = x % 128) := e1
  have He2 : Hid (z = x / 4096 % 8) := e2
  have He3 : Hid (m = x / 1048576) := e3
  have He4 : Hid (x = m * 1048576 + o) := e4
  clear e1 e2 e3 e4
  simp only [layS]
  have b0 : base1 o ⟨k, rdV .x x, aV .x x, bV .x x, immV .x x⟩ = o + 0 * 128 + 0 * 32768 + 0 * 1048576 := by
    simp only [base1, rr, ra, rb]
    rw [orV _ 0 7 5 128 (by decide) (by omega) (by omega) (by omega) (by omega) (by omega) (by omega), orV _ 0 15 5 32768 (by decide) (by omega) (by omega) (by omega) (by omega) (by omega) (by omega), orV _ 0 20 5 1048576 (by decide) (by omega) (by omega) (by omega) (by omega) (by omega) (by omega)]
  have b1 : baseS o z ⟨k, rdV .x x, aV .x x, bV .x x, immV .x x⟩ = o + 0 * 128 + 0 * 32768 + 0 * 1048576 + z * 4096 := by
    unfold baseS
    split
    · rw [b0, orV _ z 12 3 4096 (by decide) (by omega) (by omega) (by omega) (by omega) (by omega) (by omega)]
    · rw [b0]; omega
  rw [b1,
    orV _ m 20 12 1048576 (by decide) (by omega) (by omega) (by omega) (by omega) (by omega) (by omega)]
  have e1' := He1.out
  have e2' := He2.out
  have e3' := He3.out
  have e4' := He4.out
  clear He1 He2 He3 He4
  have g7 : x / 1 = x / 1 % 128 + 128 * (x / 128) := by omega
  have g12 : x / 128 = x / 128 % 32 + 32 * (x / 4096) := by omega
  have g20 : x / 4096 = x / 4096 % 256 + 256 * (x / 1048576) := by omega
  omega

end Go.Proofs.YtjjpklalihaanaaDoor
