/- The walk of laws.FnKeptSlots: it returns true at every code, and writes nothing that was there. By tools/genLawKept.py. -/
import Derived.Test.YtdllhjehokpefaaK10
import Derived.Test.YtdllhjehokpefaaK11
import Derived.Test.YtdllhjehokpefaaK12
import Derived.Test.YtdllhjehokpefaaK14
import Derived.Test.YtdllhjehokpefaaK15
import Derived.Deep.RegionHeld3
namespace Go.Proofs.Ytdllhjehokpefaa.fnKeptSlots
open Go.RowKit
set_option linter.unusedVariables false

/-- A cache in a variable of the law's. -/
structure Vc (W : World) (b : Nat) (a : Option Addr) (n c : Nat) (ss : List Slt) : Prop where
  row : W.heap[b]? = some (.cells #[.slice a n c] 26 (0, 0))
  ss : Ss W a ss

theorem Vc.below {W W' : World} {b : Nat} {a : Option Addr} {n c : Nat} {ss : List Slt} (h : Vc W b a n c ss) (hb : Below W.heap.size W W') : Vc W' b a n c ss := ⟨dstays hb h.row, h.ss.below hb⟩

theorem Vc.new {W : World} {a : Option Addr} {ss : List Slt} (h : Ss W a ss) (n c : Nat) : Vc (W.alloc (.cells #[.slice a n c] 26)) W.heap.size a n c ss := ⟨heap_alloc_new _ _, h.below ((Below.refl _ _).alloc (Nat.le_refl _) _)⟩

theorem Vc.at {W : World} {b : Nat} {a : Option Addr} {n c : Nat} {ss : List Slt} (h : Vc W b a n c ss) : W.cell? ⟨b, 0, none⟩ = some (.slice a n c) := row_at1 h.row

theorem u_bd {x : Int} (h : U x) : 0 ≤ x ∧ x ≤ 18446744073709551615 := by unfold U at h; omega

theorem look_pair (o : Option Int) : ∃ (x : Int) (t : Bool), lookV o = .tuple #[.int .u64 x, .bool t] ∧ x = o.getD 0 ∧ t = o.isSome := ⟨_, _, rfl, rfl, rfl⟩

theorem sw_keep {ss : List Slt} (h : Sw ss) {k p va tt : Int} (ha : U va) (ht : U tt) : Sw (keepS ss k p va tt) := by
  unfold keepS
  split
  · exact h.set _ _ (by unfold U at ha ht; simp only [kSlt]; omega)
  · intro s hs; simp at hs

theorem keepS_len16 (ss : List Slt) (k p va tt : Int) (h : ss.length ≤ 16) : (keepS ss k p va tt).length ≤ 16 := by
  unfold keepS
  split
  · rw [List.length_set]; exact h
  · simp

theorem sw_drop {ss : List Slt} (h : Sw ss) (va : Int) (all : Bool) : Sw (dropS ss va all) := by
  unfold dropS
  split
  · intro s hs
    simp only [List.mem_map] at hs
    obtain ⟨t, ht, rfl⟩ := hs
    unfold dropOne
    split
    · simp [slt0]
    · exact h t ht
  · intro s hs; simp at hs

set_option maxRecDepth 100000 in
set_option maxHeartbeats 6400000 in
theorem walk (a0 : Option Addr) (len0 cap0 : Nat) (z0 : List Int) (w : World) (w0 : IsRow .u8 w a0 len0 cap0 z0) :
    Calls Try.prog 3 #[.slice a0 len0 cap0] w fun e w' => e = .returned (.bool true) ∧ Below w.heap.size w w' := by
  by_cases hbig : 4096 < len0
  · have hb : decide (4096 < len0) = true := by simpa using hbig
    go_enter Try.func3, Try.ntmps3
    go_wp2_with fail
    refine (big_any a0 len0 cap0 _).mono ?_
    rintro e w1 ⟨rfl, hw1⟩
    subst hw1
    rw [hb]
    go_wp2_with fail
    go_ret
    exact ⟨rfl, Below.refl _ _⟩
  · have hb : decide (4096 < len0) = false := by simpa using hbig
    obtain ⟨zs, hcd⟩ := code_of w0 (by omega)
    have HD : Hid (Code w a0 len0 zs) := hcd
    clear hcd w0 hbig
    go_enter Try.func3, Try.ntmps3
    go_wp2_with fail
    refine (big_any a0 len0 cap0 _).mono ?_
    rintro e w1 ⟨rfl, hw1⟩
    have hw1' := hw1.symm
    subst hw1'
    rw [hb]
    clear hb
    go_wp2_with fail
    refine (DrawKeep_c cap0 _ HD.out).mono ?_
    rintro e w2 ⟨a, n, c, ss, k, p, va, tt, rfl, hck, hva, htt, hb2⟩
    obtain ⟨hx, hfew, hss, hsw⟩ := hck.out
    have hn : n ≤ 1048576 := by omega
    have hva2 := u_bd hva.out
    have htt2 := u_bd htt.out
    have VC := dhid (Vc.new hss n c)
    have B2 := dhid (hb2.out.alloc hb2.out.size (.cells #[.slice a n c] 26))
    have HKI := dhid (fun (w' : World) (h : Ss w' a ss) => implKeep_any a n c ss k p va tt w' hva2 htt2 hx hn hsw h)
    have HKS := dhid (fun (w' : World) (h : Ss w' a ss) => specKeep_any a n c ss k p va tt w' hva2 htt2 hx hn hsw h)
    have HLI := dhid (fun (w' : World) (h : Ss w' a ss) => implLookup_any a n c ss k p va w' hva2 hx hn hsw h)
    have HLS := dhid (fun (w' : World) (h : Ss w' a ss) => specLookup_any a n c ss k p va w' hva2 hx hn hsw h)
    have hRl := keepS_len16 ss k p va tt (by omega)
    have hRsw := sw_keep (k := k) (p := p) hsw hva.out htt.out
    obtain ⟨R, hR⟩ : ∃ R, keepS ss k p va tt = R := ⟨_, rfl⟩
    rw [hR] at HKI HKS hRl hRsw
    obtain ⟨rx, rt, hrx, hrx1, hrt1⟩ := look_pair (lookS ss k p va)
    rw [hrx] at HLI HLS
    have HRR := dhid hR
    have HRT := dhid hrt1
    have HSS := dhid hsw
    clear hss hck hR hrx hrx1 hrt1 hsw
    go_wp2_with fail
    refine (HKI.out _ VC.out.ss).mono ?_
    rintro e w3 ⟨aD, cD, rfl, owD, hb3⟩
    have VC3 := dhid (VC.out.below hb3)
    have VD3 := dhid (Vc.new (own_ss owD) R.length cD)
    have VC4 := dhid (VC3.out.below ((Below.refl _ _).alloc (Nat.le_refl _) (.cells #[.slice aD R.length cD] 26)))
    have B3 := dhid (below_trans (below_trans B2.out (hb3.mono (by simp))) ((Below.refl _ _).alloc (Nat.le_refl _) (.cells #[.slice aD R.length cD] 26)))
    clear VC VC3 B2 owD hb3 HKI
    go_wp2_with fail
    obtain ⟨OC, hOC⟩ : ∃ O, O = w2.heap.size := ⟨_, rfl⟩
    obtain ⟨OD, hOD⟩ : ∃ O, O = w3.heap.size := ⟨_, rfl⟩
    obtain ⟨W4, hW4⟩ : ∃ W, W = w3.alloc (.cells #[.slice aD R.length cD] 26) := ⟨_, rfl⟩
    rw [← hOC, ← hW4] at VC4
    rw [← hOD, ← hW4] at VD3
    rw [← hW4] at B3
    rw [← hOC, ← hOD, ← hW4]
    clear hOC hOD hW4
    have PW : Hid (∀ w', Below W4.heap.size W4 w' → w'.cell? ⟨OD, 0, none⟩ = some (.slice aD R.length cD) ∧ w'.cell? ⟨OC, 0, none⟩ = some (.slice a n c) ∧ Below W4.heap.size W4 w') := fun w' h => ⟨(VD3.out.below h).at, (VC4.out.below h).at, h⟩
    have p4 : Below W4.heap.size W4 W4.drew := (Below.refl _ _).drew
    have HKZ : Hid (∀ w', Below W4.heap.size W4 w' → Calls Try.prog 13 #[.agg #[.slice a n c], .int .i64 k, .int .i64 p, .int .u64 va, .int .u64 tt] w' fun e w'' => ∃ (a' : Option Addr) (c' : Nat), e = .returned (.agg #[.slice a' R.length c']) ∧ Hid (Ss w'' a' R) ∧ Below W4.heap.size W4 w'') := fun w' h => (HKS.out w' (VC4.out.below h).ss).mono fun e w'' ⟨a', c', h1, h2, h3⟩ => ⟨a', c', h1, own_ss h2, below_trans h h3⟩
    have HLZ : Hid (∀ (a' : Option Addr) (c' : Nat) w', Below W4.heap.size W4 w' → Ss w' a' R → Calls Try.prog 12 #[.agg #[.slice aD R.length cD], .agg #[.slice a' R.length c']] w' fun e w'' => e = .returned (.bool true) ∧ Below W4.heap.size W4 w'') := fun a' c' w' h hs => (likeSlots_same aD a' _ cD c' R w' rfl (by omega) (VD3.out.below h).ss hs).mono fun e w'' h' => ⟨h'.1, below_trans h h'.2⟩
    go_region_held3 (fun w' => w'.cell? ⟨OD, 0, none⟩ = some (.slice aD R.length cD) ∧ w'.cell? ⟨OC, 0, none⟩ = some (.slice a n c) ∧ Below W4.heap.size W4 w') (first | exact PW.out _ (by assumption)) (first | (go_at_call 13; with_reducible refine (HKZ.out _ (by assumption)).mono ?_; rintro e w8 ⟨aZ, cZ, rfl, sZ, hb8⟩) | (go_at_call 12; with_reducible refine (HLZ.out _ _ _ (by assumption) sZ.out).mono ?_; rintro e w5 ⟨rfl, hb5⟩))
    have VC5 := dhid (VC4.out.below hb5)
    have VD5 := dhid (VD3.out.below hb5)
    have B5 := dhid (below_trans B3.out hb5)
    have qC := VC5.out.at
    have qD := VD5.out.at
    clear PW p4 HKZ HLZ hb8 hb5 sZ VC4 VD3 B3 HKS
    go_wp2_with fail
    refine (HLI.out _ VC5.out.ss).mono ?_
    rintro e w6 ⟨rfl, hb6⟩
    have VC6 := dhid (VC5.out.below hb6)
    have VD6 := dhid (VD5.out.below hb6)
    have B6 := dhid (below_trans B5.out hb6)
    clear qC qD VC5 VD5 B5 hb6
    have qC := VC6.out.at
    have qD := VD6.out.at
    go_wp2_with fail
    refine (HLS.out _ VC6.out.ss).mono ?_
    rintro e w7 ⟨rfl, hb7⟩
    have VD7 := dhid (VD6.out.below hb7)
    have B7 := dhid (below_trans B6.out hb7)
    clear qC qD VC6 VD6 B6 hb7 HLI HLS
    have qD := VD7.out.at
    have tx : (rx != rx) = false := by simp
    have tt1 : (rt == rt) = true := by simp
    cases hok : (cacheB ss && kpB k p)
    · have hR0 : R = [] := by rw [← HRR.out]; exact keepS_no hok
      have hrt0 : rt = false := by rw [HRT.out, lookS_no hok]; rfl
      subst hR0 hrt0
      clear hok
      go_wp2_with fail
      go_ret
      exact ⟨rfl, B7.out⟩
    · simp only [Bool.and_eq_true] at hok
      obtain ⟨hc, hkp⟩ := hok
      have hRc : cacheB R = true := by rw [← HRR.out]; exact keep_ok hc hkp hva2 htt2
      have hRL : R.length = 16 := cacheB_len hRc
      have HLK := dhid (fun (w' : World) (h : Ss w' aD R) => implLookup_any aD 16 cD R k p va w' hva2 hRL (by omega) hRsw h)
      have e1 : lookS R k p va = some (tt / 4096 * 4096 + va % 4096) := by rw [← HRR.out]; exact look_keep hc hkp hva2 htt2
      rw [e1] at HLK
      have HDF := dhid (fun (w' : World) (h : Ss w' aD R) => implDrop_any aD 16 cD R va false w' hva2 hRL (by omega) hRsw h)
      have HDT := dhid (fun (w' : World) (h : Ss w' aD R) => implDrop_any aD 16 cD R va true w' hva2 hRL (by omega) hRsw h)
      have hE := cacheB_len (drop_ok (va := va) (all := false) hRc)
      have hEc := drop_ok (va := va) (all := false) hRc
      have hEl := look_drop (k := k) (p := p) (va := va) hRc
      have hEw := sw_drop hRsw va false
      rw [drop_all hRc] at HDT
      generalize dropS R va false = E at *
      have HLE := dhid (fun (aE : Option Addr) (cE : Nat) (w' : World) (h : Ss w' aE E) => implLookup_any aE 16 cE E k p va w' hva2 hE (by omega) hEw h)
      rw [hEl] at HLE
      have HCD := dhid (fun (w' : World) (h : Ss w' aD R) => implCacheOk_any aD 16 cD R w' hRL (by omega) hRsw h)
      rw [hRc] at HCD
      have HCE := dhid (fun (aE : Option Addr) (cE : Nat) (w' : World) (h : Ss w' aE E) => implCacheOk_any aE 16 cE E w' hE (by omega) hEw h)
      rw [hEc] at HCE
      have hZ : (List.replicate 16 slt0).length = 16 := by simp
      have HNC := dhid implNewCache_any
      generalize List.replicate 16 slt0 = Z at *
      have JO := dhid (join12 (tt / 4096) va (by omega) (by omega) hva2)
      obtain ⟨y, hy⟩ : ∃ y, y = tt / 4096 * 4096 + va % 4096 := ⟨_, rfl⟩
      rw [← hy] at HLK JO
      have ty : (y == bits .or .u64 (IntKind.u64.wrap (tt / 4096 * 4096)) (bits .and .u64 va 4095)) = true := by
        have e : IntKind.u64.wrap (tt / 4096 * 4096) = tt / 4096 * 4096 := by simp [IntKind.wrap, IntKind.signed, IntKind.bits]; omega
        rw [e, JO.out]
        simp
      simp only [lookV, Option.getD_some, Option.isSome_some, Option.getD_none, Option.isSome_none] at HLK HLE
      rw [hE] at HDF
      rw [hZ] at HDT
      rw [hRL] at VD7 qD ⊢
      clear hRL hRc hc hkp e1 hEc hEl hEw hRsw hRl hy
      have d16 : ((16 : Int) == 0) = false := by decide
      go_wp2_with fail
      refine (HLK.out _ VD7.out.ss).mono ?_
      rintro e w8 ⟨rfl, hb8⟩
      have VD8 := dhid (VD7.out.below hb8)
      have B8 := dhid (below_trans B7.out hb8)
      clear qD VD7 B7 hb8 HLK
      have qD := VD8.out.at
      go_wp2_with fail
      refine (HDF.out _ VD8.out.ss).mono ?_
      rintro e w9 ⟨aE, cE, rfl, owE, hb9⟩
      have VD9 := dhid ((VD8.out.below hb9).below ((Below.refl _ _).alloc (Nat.le_refl _) (.cells #[.slice aE 16 cE] 26)))
      have VE9 := dhid (Vc.new (own_ss owE) 16 cE)
      have B9 := dhid (below_trans (below_trans B8.out hb9) ((Below.refl _ _).alloc (Nat.le_refl _) (.cells #[.slice aE 16 cE] 26)))
      clear qD VD8 B8 hb9 owE HDF
      go_wp2_with fail
      obtain ⟨OE, hOE⟩ : ∃ O, O = w9.heap.size := ⟨_, rfl⟩
      obtain ⟨W9, hW9⟩ : ∃ W, W = w9.alloc (.cells #[.slice aE 16 cE] 26) := ⟨_, rfl⟩
      rw [← hW9] at VD9 B9
      rw [← hOE, ← hW9] at VE9
      rw [← hOE, ← hW9]
      clear hOE hW9
      refine (HLE.out _ _ _ VE9.out.ss).mono ?_
      rintro e w10 ⟨rfl, hb10⟩
      have VD10 := dhid (VD9.out.below hb10)
      have VE10 := dhid (VE9.out.below hb10)
      have B10 := dhid (below_trans B9.out hb10)
      clear VD9 VE9 B9 hb10 HLE
      have qD := VD10.out.at
      go_wp2_with fail
      refine (HDT.out _ VD10.out.ss).mono ?_
      rintro e w11 ⟨aF, cF, rfl, owF, hb11⟩
      have VD11 := dhid ((VD10.out.below hb11).below ((Below.refl _ _).alloc (Nat.le_refl _) (.cells #[.slice aF 16 cF] 26)))
      have VE11 := dhid ((VE10.out.below hb11).below ((Below.refl _ _).alloc (Nat.le_refl _) (.cells #[.slice aF 16 cF] 26)))
      have VF11 := dhid (Vc.new (own_ss owF) 16 cF)
      have B11 := dhid (below_trans (below_trans B10.out hb11) ((Below.refl _ _).alloc (Nat.le_refl _) (.cells #[.slice aF 16 cF] 26)))
      clear qD VD10 VE10 B10 hb11 owF HDT
      go_wp2_with fail
      obtain ⟨OF, hOF⟩ : ∃ O, O = w11.heap.size := ⟨_, rfl⟩
      obtain ⟨W, hW⟩ : ∃ W, W = w11.alloc (.cells #[.slice aF 16 cF] 26) := ⟨_, rfl⟩
      rw [← hW] at VD11 VE11 B11
      rw [← hOF, ← hW] at VF11
      rw [← hOF, ← hW]
      clear hOF hW
      have PW : Hid (∀ w', Below W.heap.size W w' → w'.cell? ⟨OF, 0, none⟩ = some (.slice aF 16 cF) ∧ w'.cell? ⟨OD, 0, none⟩ = some (.slice aD 16 cD) ∧ w'.cell? ⟨OE, 0, none⟩ = some (.slice aE 16 cE) ∧ Below W.heap.size W w') := fun w' h => ⟨(VF11.out.below h).at, (VD11.out.below h).at, (VE11.out.below h).at, h⟩
      have p0 : Below W.heap.size W W.drew := (Below.refl _ _).drew
      have G1 : Hid (∀ w', Below W.heap.size W w' → Calls Try.prog 17 #[] w' fun e w'' => ∃ g : Nat, e = .returned (.agg #[.slice (some ⟨g, 0, none⟩) 16 16]) ∧ Hid (Ss w'' (some ⟨g, 0, none⟩) Z) ∧ Below W.heap.size W w'') := fun w' h => (HNC.out w').mono fun e w'' ⟨g, h1, h2, h3⟩ => ⟨g, h1, own_ss h2, below_trans h h3⟩
      have G2 : Hid (∀ (g : Nat) w', Below W.heap.size W w' → Ss w' (some ⟨g, 0, none⟩) Z → Calls Try.prog 12 #[.agg #[.slice aF 16 cF], .agg #[.slice (some ⟨g, 0, none⟩) 16 16]] w' fun e w'' => e = .returned (.bool true) ∧ Below W.heap.size W w'') := fun g w' h hs => (likeSlots_same aF _ 16 cF _ Z w' hZ (by omega) (VF11.out.below h).ss hs).mono fun e w'' h' => ⟨h'.1, below_trans h h'.2⟩
      have G3 : Hid (∀ w', Below W.heap.size W w' → Calls Try.prog 18 #[.agg #[.slice aD 16 cD]] w' fun e w'' => e = .returned (.bool true) ∧ Below W.heap.size W w'') := fun w' h => (HCD.out w' (VD11.out.below h).ss).mono fun e w'' h' => ⟨h'.1, below_trans h h'.2⟩
      have G4 : Hid (∀ w', Below W.heap.size W w' → Calls Try.prog 18 #[.agg #[.slice aE 16 cE]] w' fun e w'' => e = .returned (.bool true) ∧ Below W.heap.size W w'') := fun w' h => (HCE.out _ _ w' (VE11.out.below h).ss).mono fun e w'' h' => ⟨h'.1, below_trans h h'.2⟩
      clear HNC HCD HCE
      go_region_held3 (fun w' => w'.cell? ⟨OF, 0, none⟩ = some (.slice aF 16 cF) ∧ w'.cell? ⟨OD, 0, none⟩ = some (.slice aD 16 cD) ∧ w'.cell? ⟨OE, 0, none⟩ = some (.slice aE 16 cE) ∧ Below W.heap.size W w') (first | exact PW.out _ (by assumption)) (first | (go_at_call 17; with_reducible refine (G1.out _ (by assumption)).mono ?_; rintro e w12 ⟨gN, rfl, sN, hb12⟩) | (go_at_call 12; with_reducible refine (G2.out _ _ (by assumption) sN.out).mono ?_; rintro e w13 ⟨rfl, hb13⟩) | (go_at_call 18; with_reducible refine (G3.out _ (by assumption)).mono ?_; rintro e w14 ⟨rfl, hb14⟩) | (go_at_call 18; with_reducible refine (G4.out _ (by assumption)).mono ?_; rintro e w15 ⟨rfl, hb15⟩))
      have BZ := dhid (below_trans B11.out hb15)
      clear PW p0 G1 G2 G3 G4 hb12 hb13 hb14 hb15
      go_wp2_with fail
      go_ret
      exact ⟨rfl, BZ.out⟩

end Go.Proofs.Ytdllhjehokpefaa.fnKeptSlots
