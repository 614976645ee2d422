/- The walk of laws.FnLed: it returns true at every code, and writes nothing that was there. By tools/genLawLed.py. -/
import Derived.Test.YtldjmphflgecjacDoorWalkO
import Derived.Test.YtldjmphflgecjacDoorEntI
import Derived.Test.YtldjmphflgecjacDoorLedP
import Derived.Test.YtldjmphflgecjacDoorPickC
import Derived.Test.YtldjmphflgecjacDoorStoC
import Derived.Test.YtldjmphflgecjacDoorLawC
namespace Go.Proofs.YtldjmphflgecjacDoor.fnLed
open Go.RowKit
set_option linter.unusedVariables false

theorem own_one (w : World) (base : Nat) (hb : base ≤ w.heap.size) (x : Int) : (w.alloc (.cells #[.int .u8 x] 5)).ownsRow base 5 1 (.slice (some ⟨w.heap.size, 0, none⟩) 1 1) 1 [.int .u8 x] :=
  World.ownsRow_lit w #[.int .u8 x] 1 hb (by unfold maxLen; omega) rfl

theorem cons_wf {x : Int} {zs : List Int} (hx : (Lit.int .u8 x).wf = true) (h : ∀ y ∈ zs, (Lit.int .u8 y).wf = true) : ∀ y ∈ x :: zs, (Lit.int .u8 y).wf = true := by
  intro y hy
  rcases List.mem_cons.1 hy with rfl | hy
  · exact hx
  · exact h y hy

theorem made_u8 {w w' : World} {base : Nat} (h : w'.ownsRow base 5 1 (.slice (some ⟨w.heap.size, 0, none⟩) 4096 4096) 4096 (madeCells (Value.int .u8 0).cells (4096 * 1)).toList) : Hid (w'.ownsRow base 5 1 (.slice (some ⟨w.heap.size, 0, none⟩) 4096 4096) 4096 ((List.replicate 4096 (0 : Int)).map (Value.int .u8))) := by
  have e : (madeCells (Value.int .u8 0).cells (4096 * 1)).toList = (List.replicate 4096 (0 : Int)).map (Value.int .u8) := by
    rw [List.map_replicate, ← toList_madeCells_one]; simp [Value.cells]
  rw [e] at h
  exact h

theorem made_u64 {w w' : World} {base : Nat} (h : w'.ownsRow base 25 1 (.slice (some ⟨w.heap.size, 0, none⟩) 22 22) 22 (madeCells (Value.int .u64 0).cells (22 * 1)).toList) : Hid (w'.ownsRow base 25 1 (.slice (some ⟨w.heap.size, 0, none⟩) 22 22) 22 ((List.replicate 22 (0 : Int)).map (Value.int .u64))) := by
  have e : (madeCells (Value.int .u64 0).cells (22 * 1)).toList = (List.replicate 22 (0 : Int)).map (Value.int .u64) := by
    rw [List.map_replicate, ← toList_madeCells_one]; simp [Value.cells]
  rw [e] at h
  exact h

theorem made_below {w w' : World} (h : w.grownBy w' none) : Below w.heap.size w w' := ⟨h.os, h.tape, h.output, h.size, fun k hk => h.block k hk (by simp)⟩

theorem news_x {w : World} {x : Addr} {zs : List Int} (hs : Sl .u8 w (some x) zs) (o : Obj) (j : Nat) (u : Value) (hu : (zs.map (Value.int .u8))[j]? = some u) : (w.alloc o).cell? (x.add j) = some u := by
  have hj : j < zs.length := by
    have := (List.getElem?_eq_some_iff.1 hu).1
    simpa using this
  obtain ⟨b, off, e, _, _⟩ := hs j hj
  cases e
  exact news_of hs o j u hu

theorem byte_wf {y : Int} (h0 : 0 ≤ y) (h1 : y ≤ 255) : (Lit.int .u8 y).wf = true := by
  simp [Lit.wf, IntKind.min, IntKind.max, IntKind.signed, IntKind.bits]; omega

theorem app_sl {w : World} {base g c n : Nat} {x : Int} {zs : List Int} (h : w.ownsRow base 5 1 (.slice (some ⟨g, 0, none⟩) (1 + n) c) (1 + n) ([.int .u8 x] ++ zs.map (Value.int .u8))) : Sl .u8 w (some ⟨g, 0, none⟩) (x :: zs) := own_sl (zs := x :: zs) h

theorem app_below {w w' : World} {o : Obj} (h : (w.alloc o).grownBy w' (Value.slice (some ⟨w.heap.size, 0, none⟩) 1 1).ownBlock) : Below w.heap.size w w' := by
  refine Below.grown ((Below.refl _ _).alloc (Nat.le_refl _) _) h ?_ ?_
  · simp
  · intro k hk; simp [Value.ownBlock] at hk; omega

set_option maxRecDepth 100000 in
set_option maxHeartbeats 6400000 in
theorem walk_some (x0 : Addr) (len0 cap0 : Nat) (zs : List Int) (w : World) (HD : Hid (Code w (some x0) len0 zs)) (HT : Hid (Tab w)) :
    Calls Tryd.prog 5 #[.slice (some x0) len0 cap0] w fun e w' => e = .returned (.bool true) ∧ Below w.heap.size w w' := by
  have hb : decide (4096 < len0) = false := by have := HD.out.few; simp; omega
  obtain ⟨i0, hi, hz0, hz1, hz2⟩ := info_parts Tryd.info5
  obtain ⟨i1, hi1, hy0, hy1, hy2⟩ := info_parts infoW
  have hb2a : i0.bytes * 4096 ≤ 281474976710656 := by rw [hz2]; omega
  have hb3a : 4096 ≤ maxLen := by unfold maxLen; omega
  have hb2b : i1.bytes * 22 ≤ 281474976710656 := by rw [hy2]; omega
  have hb3b : 22 ≤ maxLen := by unfold maxLen; omega
  have hlen : (zs.map (Value.int .u8)).length = len0 * 1 := by rw [List.length_map, HD.out.len]; omega
  have hm9 : 1 + len0 ≤ maxLen := by have := HD.out.few; unfold maxLen; omega
  have hb9 : (1 + len0) * 1 ≤ 140737488355328 := by have := HD.out.few; omega
  have H1C : Hid (∀ u ∈ zs.map (Value.int .u8), u.oneCell' = true) := ints_oneCell _ _
  go_enter Tryd.func5, Tryd.ntmps5
  go_wp2_with fail
  refine (big_any _ len0 cap0 _).mono ?_
  rintro e w1 ⟨rfl, hw1⟩
  have hw1' := hw1.symm
  subst hw1'
  rw [hb]
  clear hb
  go_wp2_with (first
    | (at_make; refine wpList_make_full _ rfl (.const (.int .i64 4096)) (.const (.int .i64 4096)) 22 rfl w.heap.size 5 i0 (.int .u8 0) 1 Tryd.underlying22 hi hz0 hz1 .i64 .i64 _ _ 4096 rfl rfl rfl rfl hb2a hb3a (Nat.le_refl _) ?_; intro wa owna gra; have OA := made_u8 owna; have Bwa : Hid (Below w.heap.size w wa) := made_below gra; clear owna gra)
    | (at_make; refine wpList_make_full _ rfl (.const (.int .i64 22)) (.const (.int .i64 22)) 24 rfl wa.heap.size 25 i1 (.int .u64 0) 1 Tryd.underlying24 hi1 hy0 hy1 .i64 .i64 _ _ 22 rfl rfl rfl rfl hb2b hb3b (Nat.le_refl _) ?_; intro wb ownb grb; have OB := made_u64 ownb; have Cwb : Hid (Below wa.heap.size wa wb) := made_below grb; clear ownb grb)
    | (refine wpList_put rfl (.tmp 23) (.const (.int .u64 9223372036855300096)) rfl rfl OB.out 15 (by omega) _ rfl rfl ?_; intro wc oc gc)
    | (refine wpList_put rfl (.tmp 25) (.const (.int .u64 31)) rfl rfl oc 16 (by omega) _ rfl rfl ?_; intro wd od gd)
    | (refine wpList_put rfl (.tmp 27) (.const (.int .u64 18014398509481983)) rfl rfl od 17 (by omega) _ rfl rfl ?_; intro we oe ge))
  have OL : Hid (Own we wa.heap.size wa.heap.size 22 ledL) := oe
  have Cwe : Hid (Below wa.heap.size wa we) := Below.grown (Below.grown (Below.grown Cwb.out gc Cwb.out.size (by intro k h; cases h; exact Nat.le_refl _)) gd (by have := Cwb.out.size; have := gc.size; omega) (by intro k h; cases h; exact Nat.le_refl _)) ge (by have := Cwb.out.size; have := gc.size; have := gd.size; omega) (by intro k h; cases h; exact Nat.le_refl _)
  have Bwe : Hid (Below w.heap.size w we) := below_trans Bwa.out Cwe.out
  have RA : Hid (Sl .u8 we (some ⟨w.heap.size, 0, none⟩) (List.replicate 4096 0)) := (own_sl OA.out).below Cwe.out
  have LA : Hid (Sl .u64 we (some ⟨wa.heap.size, 0, none⟩) ledL) := own_sl OL.out
  clear OA OB OL Cwb Cwe oc od oe gc gd ge Bwa
  refine (pick_any _ len0 cap0 zs 256 we HD.out.len (by have := HD.out.few; omega) (HD.out.sl.below Bwe.out) HD.out.bd (by omega) (by omega)).mono ?_
  rintro e wz ⟨bi, rfl, ⟨bi0, bi1⟩, hwz⟩
  have hwz' := hwz.symm
  subst hwz'
  obtain ⟨b, rfl⟩ := Int.eq_ofNat_of_zero_le bi0
  have hE1 := own_one we w.heap.size (by have := Bwe.out.size; omega) 1
  have N1 : Hid (∀ (o : Obj) (j : Nat) (u : Value), (zs.map (Value.int .u8))[j]? = some u → (we.alloc o).cell? (x0.add j) = some u) := fun o j u hu => news_x (HD.out.sl.below Bwe.out) o j u hu
  go_wp2_with (first
    | (at_builtin; refine wpList_append_own _ rfl (.tmp 30) (.tmp 31) 22 rfl _ 5 i0 (.int .u8 0) 1 1 Tryd.underlying22 hi hz0 hz1 hz2 rfl (by decide) _ 1 [.int .u8 1] (by rfl) hE1 x0 len0 cap0 (zs.map (Value.int .u8)) rfl hlen (N1.out _) H1C.out hm9 hb9 (by have := Bwe.out.size; simp; omega) ?_; intro v1 wp1 own1 gr1 nil1; obtain ⟨g1, cp1, hv1, hg1⟩ := own_shape own1 (by omega); rw [hv1] at own1 ⊢; have Q1 := app_sl own1; have Bx1 := app_below gr1; have Bwp1 : Hid (Below w.heap.size w wp1) := below_trans Bwe.out Bx1; have D1 : Hid (Below we.heap.size we wp1) := Bx1; clear nil1 gr1 own1 hv1 hg1 Bx1))
  clear hE1 N1
  refine (pick_any _ (1 + len0) cp1 (1 :: zs) 9 wp1 (by have := HD.out.len; simp; omega) (by have := HD.out.few; omega) Q1 (cons_wf (by decide) HD.out.bd) (by omega) (by omega)).mono ?_
  rintro e wq1 ⟨yi, rfl, ⟨yi0, yi1⟩, hwq1⟩
  have hwr1 := hwq1.symm
  subst hwr1
  clear Q1
  obtain ⟨y, rfl⟩ := Int.eq_ofNat_of_zero_le yi0
  have LA1 : Hid (Sl .u64 wp1 (some ⟨wa.heap.size, 0, none⟩) ledL) := LA.out.below D1.out
  have RA1 : Hid (Sl .u8 wp1 (some ⟨w.heap.size, 0, none⟩) (List.replicate 4096 0)) := RA.out.below D1.out
  clear LA RA D1 Bwe
  have hy9 : y < 9 := by omega
  have hb256 : b < 256 := by omega
  obtain ⟨ee, -⟩ := led_entry y hy9 b hb256
  obtain ⟨fr, hfr⟩ : ∃ fr : Int, (y : Int) * 262144 = fr := ⟨_, rfl⟩
  have f1 : IntKind.u64.wrap (y : Int) = (y : Int) := by rw [IntKind.wrap_u64]; omega
  have f2 : IntKind.u64.wrap ((y : Int) * 262144) = fr := by rw [IntKind.wrap_u64]; omega
  have HEN : Hid (∀ W, Calls Tryd.prog 16 #[.int .u64 fr, .int .i64 (b : Int)] W fun e w' => e = .returned (.int .u64 ((y : Int) * 268435456 + b)) ∧ Below W.heap.size W w') := fun W => by
    have h := implEntry_any fr (b : Int) (by omega) W
    rw [← hfr, ee, hfr] at h
    exact h
  obtain ⟨ev, hev⟩ : ∃ ev : Int, (y : Int) * 268435456 + b = ev := ⟨_, rfl⟩
  rw [hev] at HEN
  have HST : Hid (∀ W, Sl .u8 W (some ⟨w.heap.size, 0, none⟩) (List.replicate 4096 0) → Calls Tryd.prog 17 #[.slice (some ⟨w.heap.size, 0, none⟩) 4096 4096, .int .u64 2147483656, .int .i64 8, .int .u64 ev] W fun e w' => e = .returned (.tuple #[.slice (some ⟨W.heap.size, 0, none⟩) 4096 4096, .bool true]) ∧ w'.ownsRow W.heap.size 5 1 (.slice (some ⟨W.heap.size, 0, none⟩) 4096 4096) 4096 ((put (List.replicate 4096 0) 8 ev 8).map (Value.int .u8)) ∧ Below W.heap.size W w') := fun W hs => by
    have h := implStore_n (some ⟨w.heap.size, 0, none⟩) 4096 4096 8 8 (List.replicate 4096 0) ev W List.length_replicate (by omega) hs (by decide +kernel) (by omega) (by omega)
    exact h
  have HEV : Hid ((y : Int) * 268435456 + b = ev) := hev
  have HFR : Hid ((y : Int) * 262144 = fr) := hfr
  clear ee hev hfr
  go_wp2_with fail
  refine (HEN.out _).mono ?_
  rintro e wf ⟨rfl, hbf⟩
  have RA2 : Hid (Sl .u8 wf (some ⟨w.heap.size, 0, none⟩) (List.replicate 4096 0)) := RA1.out.below hbf
  have LA2 : Hid (Sl .u64 wf (some ⟨wa.heap.size, 0, none⟩) ledL) := LA1.out.below hbf
  have Bwf : Hid (Below w.heap.size w wf) := below_trans Bwp1.out hbf
  clear RA1 LA1 Bwp1 hbf HEN
  go_wp2_with fail
  refine (HST.out _ RA2.out).mono ?_
  rintro e ws ⟨rfl, os, hbs⟩
  have MS : Hid (Sl .u8 ws (some ⟨wf.heap.size, 0, none⟩) (put (List.replicate 4096 0) 8 ev 8)) := own_sl os
  have LS : Hid (Sl .u64 ws (some ⟨wa.heap.size, 0, none⟩) ledL) := LA2.out.below hbs
  have Bws : Hid (Below w.heap.size w ws) := below_trans Bwf.out hbs
  clear RA2 LA2 Bwf hbs os HST
  obtain ⟨ms, hms⟩ : ∃ ms, put (List.replicate 4096 (0 : Int)) 8 ev 8 = ms := ⟨_, rfl⟩
  rw [hms] at MS
  have HMS : Hid (ms = put (List.replicate 4096 0) 8 ((y : Int) * 268435456 + b) 8) := by rw [HEV.out]; exact hms.symm
  have HML : Hid (ms.length = 4096) := by rw [HMS.out]; show (put _ _ _ _).length = 4096; rw [put_len]; exact List.length_replicate
  have HMW : Hid (∀ y ∈ ms, (Lit.int .u8 y).wf = true) := fun z hz => by
    rw [HMS.out] at hz
    obtain ⟨h0, h1⟩ := put_bd (List.replicate 4096 0) (fun q hq => by rw [(List.mem_replicate.mp hq).2]; decide) 8 _ 8 z hz
    exact byte_wf h0 h1
  clear hms
  have hE2 := own_one ws w.heap.size (by have := Bws.out.size; omega) 2
  have N2 : Hid (∀ (o : Obj) (j : Nat) (u : Value), (zs.map (Value.int .u8))[j]? = some u → (ws.alloc o).cell? (x0.add j) = some u) := fun o j u hu => news_x (HD.out.sl.below Bws.out) o j u hu
  go_wp2_with (first
    | (at_builtin; refine wpList_append_own _ rfl (.tmp 45) (.tmp 46) 22 rfl _ 5 i0 (.int .u8 0) 1 1 Tryd.underlying22 hi hz0 hz1 hz2 rfl (by decide) _ 1 [.int .u8 2] (by rfl) hE2 x0 len0 cap0 (zs.map (Value.int .u8)) rfl hlen (N2.out _) H1C.out hm9 hb9 (by have := Bws.out.size; simp; omega) ?_; intro v2 wp2 own2 gr2 nil2; obtain ⟨g2, cp2, hv2, hg2⟩ := own_shape own2 (by omega); rw [hv2] at own2 ⊢; have Q2 := app_sl own2; have Bx2 := app_below gr2; have Bwp2 : Hid (Below w.heap.size w wp2) := below_trans Bws.out Bx2; have D2 : Hid (Below ws.heap.size ws wp2) := Bx2; clear nil2 gr2 own2 hv2 hg2 Bx2))
  clear hE2 N2
  refine (pick_any _ (1 + len0) cp2 (2 :: zs) 1048576 wp2 (by have := HD.out.len; simp; omega) (by have := HD.out.few; omega) Q2 (cons_wf (by decide) HD.out.bd) (by omega) (by omega)).mono ?_
  rintro e wq2 ⟨xi, rfl, ⟨xi0, xi1⟩, hwq2⟩
  have hwr2 := hwq2.symm
  subst hwr2
  clear Q2
  have MS2 : Hid (Sl .u8 wp2 (some ⟨wf.heap.size, 0, none⟩) ms) := MS.out.below D2.out
  have LS2 : Hid (Sl .u64 wp2 (some ⟨wa.heap.size, 0, none⟩) ledL) := LS.out.below D2.out
  clear MS LS D2 Bws
  obtain ⟨va, hva⟩ : ∃ va : Int, 1073741824 + xi = va := ⟨_, rfl⟩
  have v1 : wrap64 (1073741824 + xi) = va := by unfold wrap64; omega
  have v2 : IntKind.u64.wrap va = va := by rw [IntKind.wrap_u64]; omega
  have hE3 := own_one wp2 w.heap.size (by have := Bwp2.out.size; omega) 3
  have N3 : Hid (∀ (o : Obj) (j : Nat) (u : Value), (zs.map (Value.int .u8))[j]? = some u → (wp2.alloc o).cell? (x0.add j) = some u) := fun o j u hu => news_x (HD.out.sl.below Bwp2.out) o j u hu
  go_wp2_with (first
    | (at_builtin; refine wpList_append_own _ rfl (.tmp 51) (.tmp 52) 22 rfl _ 5 i0 (.int .u8 0) 1 1 Tryd.underlying22 hi hz0 hz1 hz2 rfl (by decide) _ 1 [.int .u8 3] (by rfl) hE3 x0 len0 cap0 (zs.map (Value.int .u8)) rfl hlen (N3.out _) H1C.out hm9 hb9 (by have := Bwp2.out.size; simp; omega) ?_; intro v3 wp3 own3 gr3 nil3; obtain ⟨g3, cp3, hv3, hg3⟩ := own_shape own3 (by omega); rw [hv3] at own3 ⊢; have Q3 := app_sl own3; have Bx3 := app_below gr3; have Bwp3 : Hid (Below w.heap.size w wp3) := below_trans Bwp2.out Bx3; have D3 : Hid (Below wp2.heap.size wp2 wp3) := Bx3; clear nil3 gr3 own3 hv3 hg3 Bx3))
  clear hE3 N3
  refine (pick_any _ (1 + len0) cp3 (3 :: zs) 3 wp3 (by have := HD.out.len; simp; omega) (by have := HD.out.few; omega) Q3 (cons_wf (by decide) HD.out.bd) (by omega) (by omega)).mono ?_
  rintro e wq3 ⟨ki, rfl, ⟨ki0, ki1⟩, hwq3⟩
  have hwr3 := hwq3.symm
  subst hwr3
  clear Q3
  have MS3 : Hid (Sl .u8 wp3 (some ⟨wf.heap.size, 0, none⟩) ms) := MS2.out.below D3.out
  have LS3 : Hid (Sl .u64 wp3 (some ⟨wa.heap.size, 0, none⟩) ledL) := LS2.out.below D3.out
  clear MS2 LS2 D3 Bwp2
  obtain ⟨kk, hkk⟩ : ∃ kk : Int, 1 + ki = kk := ⟨_, rfl⟩
  have v3 : wrap64 (1 + ki) = kk := by unfold wrap64; omega
  have hE4 := own_one wp3 w.heap.size (by have := Bwp3.out.size; omega) 4
  have N4 : Hid (∀ (o : Obj) (j : Nat) (u : Value), (zs.map (Value.int .u8))[j]? = some u → (wp3.alloc o).cell? (x0.add j) = some u) := fun o j u hu => news_x (HD.out.sl.below Bwp3.out) o j u hu
  go_wp2_with (first
    | (at_builtin; refine wpList_append_own _ rfl (.tmp 56) (.tmp 57) 22 rfl _ 5 i0 (.int .u8 0) 1 1 Tryd.underlying22 hi hz0 hz1 hz2 rfl (by decide) _ 1 [.int .u8 4] (by rfl) hE4 x0 len0 cap0 (zs.map (Value.int .u8)) rfl hlen (N4.out _) H1C.out hm9 hb9 (by have := Bwp3.out.size; simp; omega) ?_; intro v4 wp4 own4 gr4 nil4; obtain ⟨g4, cp4, hv4, hg4⟩ := own_shape own4 (by omega); rw [hv4] at own4 ⊢; have Q4 := app_sl own4; have Bx4 := app_below gr4; have Bwp4 : Hid (Below w.heap.size w wp4) := below_trans Bwp3.out Bx4; have D4 : Hid (Below wp3.heap.size wp3 wp4) := Bx4; clear nil4 gr4 own4 hv4 hg4 Bx4))
  clear hE4 N4
  refine (pick_any _ (1 + len0) cp4 (4 :: zs) 2 wp4 (by have := HD.out.len; simp; omega) (by have := HD.out.few; omega) Q4 (cons_wf (by decide) HD.out.bd) (by omega) (by omega)).mono ?_
  rintro e wq4 ⟨pi, rfl, ⟨pi0, pi1⟩, hwq4⟩
  have hwr4 := hwq4.symm
  subst hwr4
  clear Q4
  have MS4 : Hid (Sl .u8 wp4 (some ⟨wf.heap.size, 0, none⟩) ms) := MS3.out.below D4.out
  have LS4 : Hid (Sl .u64 wp4 (some ⟨wa.heap.size, 0, none⟩) ledL) := LS3.out.below D4.out
  clear MS3 LS3 D4 Bwp3
  have hp : pi = 0 ∨ pi = 1 := by omega
  have hk : kk = 1 ∨ kk = 2 ∨ kk = 3 := by omega
  have hok : walkOk 4096 22 ledL pi kk = true := by
    unfold walkOk legalB
    rw [ledL_ok]
    rcases hp with rfl | rfl <;> rcases hk with rfl | rfl | rfl <;> decide
  have WAY := led_walk y b hy9 hb256 pi kk xi hp xi0 xi1 ms HMS.out
  rw [hva] at WAY
  have HWI := implWalk_any (some ⟨wf.heap.size, 0, none⟩) 4096 4096 ms (some ⟨wa.heap.size, 0, none⟩) 22 22 ledL pi va kk wp4 HML.out (by omega) MS4.out HMW.out rfl LS4.out ledL_U ⟨by omega, by omega⟩ (HT.out.below Bwp4.out) (good_own _ 4096 (by omega))
  have HWS : ∀ W, Below wp4.heap.size wp4 W → _ := fun W hW => specWalk_any (some ⟨wf.heap.size, 0, none⟩) 4096 4096 ms (some ⟨wa.heap.size, 0, none⟩) 22 22 ledL pi va kk W HML.out (by omega) (MS4.out.below hW) HMW.out rfl (LS4.out.below hW) ⟨by omega, by omega⟩
  unfold walkA walkC at HWI HWS
  simp only [hok, if_true] at HWI HWS
  generalize (walkB ms 4096 22 ledL pi va kk) = S at *
  obtain ⟨A, hA⟩ : ∃ A, (walkV ms 4096 ledL pi va kk).addr = A := ⟨_, rfl⟩
  obtain ⟨C, hC⟩ : ∃ C, (walkV ms 4096 ledL pi va kk).code = C := ⟨_, rfl⟩
  rw [hA, hC] at WAY HWI
  have HWI2 : Hid (Calls Tryd.prog 13 #[.slice (some ⟨wf.heap.size, 0, none⟩) 4096 4096, .slice (some ⟨wa.heap.size, 0, none⟩) 22 22, .int .i64 pi, .int .u64 va, .int .i64 kk] wp4 fun e w' => ∃ (a' : Option Addr) (c : Nat), e = .returned (.tuple #[.int .u64 A, .int .i64 C, .slice a' S.length c]) ∧ w'.ownsRow wp4.heap.size 5 1 (.slice a' S.length c) S.length (S.map (Value.int .u8)) ∧ Below wp4.heap.size wp4 w') := HWI
  have HWS2 : Hid (∀ W, Below wp4.heap.size wp4 W → Calls Tryd.prog 14 #[.slice (some ⟨wf.heap.size, 0, none⟩) 4096 4096, .slice (some ⟨wa.heap.size, 0, none⟩) 22 22, .int .i64 pi, .int .u64 va, .int .i64 kk] W fun e w' => ∃ (a' : Option Addr) (c : Nat), e = .returned (.tuple #[.int .u64 A, .int .i64 C, .slice a' S.length c]) ∧ w'.ownsRow W.heap.size 5 1 (.slice a' S.length c) S.length (S.map (Value.int .u8)) ∧ Below W.heap.size W w') := fun W hW => by
    have := HWS W hW
    rw [hA, hC] at this
    exact this
  have tA : (A != A) = false := by simp
  have tC : (C != C) = false := by simp
  clear HWI HWS hA hC hok MS4 LS4 HMS HML HMW
  go_wp2_with fail
  refine HWI2.out.mono ?_
  rintro e wg ⟨ag, cg, rfl, -, hbg⟩
  have Bwg : Hid (Below w.heap.size w wg) := below_trans Bwp4.out hbg
  have HWS3 := HWS2.out wg hbg
  have HWS4 : Hid (Calls Tryd.prog 14 #[.slice (some ⟨wf.heap.size, 0, none⟩) 4096 4096, .slice (some ⟨wa.heap.size, 0, none⟩) 22 22, .int .i64 pi, .int .u64 va, .int .i64 kk] wg fun e w' => ∃ (a' : Option Addr) (c : Nat), e = .returned (.tuple #[.int .u64 A, .int .i64 C, .slice a' S.length c]) ∧ w'.ownsRow wg.heap.size 5 1 (.slice a' S.length c) S.length (S.map (Value.int .u8)) ∧ Below wg.heap.size wg w') := HWS3
  clear HWS2 HWS3 HWI2 hbg Bwp4
  go_wp2_with fail
  refine HWS4.out.mono ?_
  rintro e wh ⟨ah, ch, rfl, -, hbh⟩
  have Bwh : Hid (Below w.heap.size w wh) := below_trans Bwg.out hbh
  clear HWS4 hbh Bwg
  have hfr12 : IntKind.u64.wrap ((y : Int) * 262144 * 4096) = IntKind.u64.wrap (fr * 4096) := by rw [HFR.out]
  rw [hfr12] at WAY
  rcases WAY with ⟨e1, e2, e3, e4⟩ | ⟨e1, e2⟩
  · subst e1
    have t1 : ((0 : Int) == 0) = true := rfl
    have t2 : (A == bits .or .u64 (IntKind.u64.wrap (fr * 4096)) (bits .and .u64 va 1073741823)) = true := by rw [e2]; simp
    have E4 : Hid (((bits .and .i64 ((b : Int) / 16) 1 == 1) == (pi == 0)) = true) := e4
    clear e2 hva hkk hp hk
    go_wp2_with fail
    go_ret
    exact ⟨by first | rfl | (rw [E4.out]; rfl), Bwh.out⟩
  · have t1 : (C == 0) = false := by simp [e1]
    rcases hk with h | h | h
    · rw [h] at e2 ⊢
      rcases e2 with h2 | h2
      · rw [show pageC 1 = 12 from rfl] at h2
        subst h2
        clear hva hkk hp
        go_wp2_with fail
        go_ret
        exact ⟨rfl, by first | exact Bwh.out | exact Bwh.out.alloc Bwh.out.size _ | exact (Bwh.out.alloc Bwh.out.size _).alloc (by have := Bwh.out.size; simp; omega) _⟩
      · rw [show faultC 1 = 1 from rfl] at h2
        subst h2
        clear hva hkk hp
        go_wp2_with fail
        go_ret
        exact ⟨rfl, by first | exact Bwh.out | exact Bwh.out.alloc Bwh.out.size _ | exact (Bwh.out.alloc Bwh.out.size _).alloc (by have := Bwh.out.size; simp; omega) _⟩
    · rw [h] at e2 ⊢
      rcases e2 with h2 | h2
      · rw [show pageC 2 = 13 from rfl] at h2
        subst h2
        clear hva hkk hp
        go_wp2_with fail
        go_ret
        exact ⟨rfl, by first | exact Bwh.out | exact Bwh.out.alloc Bwh.out.size _ | exact (Bwh.out.alloc Bwh.out.size _).alloc (by have := Bwh.out.size; simp; omega) _⟩
      · rw [show faultC 2 = 5 from rfl] at h2
        subst h2
        clear hva hkk hp
        go_wp2_with fail
        go_ret
        exact ⟨rfl, by first | exact Bwh.out | exact Bwh.out.alloc Bwh.out.size _ | exact (Bwh.out.alloc Bwh.out.size _).alloc (by have := Bwh.out.size; simp; omega) _⟩
    · rw [h] at e2 ⊢
      rcases e2 with h2 | h2
      · rw [show pageC 3 = 15 from rfl] at h2
        subst h2
        clear hva hkk hp
        go_wp2_with fail
        go_ret
        exact ⟨rfl, by first | exact Bwh.out | exact Bwh.out.alloc Bwh.out.size _ | exact (Bwh.out.alloc Bwh.out.size _).alloc (by have := Bwh.out.size; simp; omega) _⟩
      · rw [show faultC 3 = 7 from rfl] at h2
        subst h2
        clear hva hkk hp
        go_wp2_with fail
        go_ret
        exact ⟨rfl, by first | exact Bwh.out | exact Bwh.out.alloc Bwh.out.size _ | exact (Bwh.out.alloc Bwh.out.size _).alloc (by have := Bwh.out.size; simp; omega) _⟩

set_option maxRecDepth 100000 in
set_option maxHeartbeats 6400000 in
theorem walk_nil (w : World) (HD : Hid (Code w none 0 [])) (HT : Hid (Tab w)) :
    Calls Tryd.prog 5 #[.slice none 0 0] w fun e w' => e = .returned (.bool true) ∧ Below w.heap.size w w' := by
  have hb : decide (4096 < 0) = false := by decide
  obtain ⟨i0, hi, hz0, hz1, hz2⟩ := info_parts Tryd.info5
  obtain ⟨i1, hi1, hy0, hy1, hy2⟩ := info_parts infoW
  have hb2a : i0.bytes * 4096 ≤ 281474976710656 := by rw [hz2]; omega
  have hb3a : 4096 ≤ maxLen := by unfold maxLen; omega
  have hb2b : i1.bytes * 22 ≤ 281474976710656 := by rw [hy2]; omega
  have hb3b : 22 ≤ maxLen := by unfold maxLen; omega
  go_enter Tryd.func5, Tryd.ntmps5
  go_wp2_with fail
  refine (big_any none 0 0 _).mono ?_
  rintro e w1 ⟨rfl, hw1⟩
  have hw1' := hw1.symm
  subst hw1'
  rw [hb]
  clear hb
  go_wp2_with (first
    | (at_make; refine wpList_make_full _ rfl (.const (.int .i64 4096)) (.const (.int .i64 4096)) 22 rfl w.heap.size 5 i0 (.int .u8 0) 1 Tryd.underlying22 hi hz0 hz1 .i64 .i64 _ _ 4096 rfl rfl rfl rfl hb2a hb3a (Nat.le_refl _) ?_; intro wa owna gra; have OA := made_u8 owna; have Bwa : Hid (Below w.heap.size w wa) := made_below gra; clear owna gra)
    | (at_make; refine wpList_make_full _ rfl (.const (.int .i64 22)) (.const (.int .i64 22)) 24 rfl wa.heap.size 25 i1 (.int .u64 0) 1 Tryd.underlying24 hi1 hy0 hy1 .i64 .i64 _ _ 22 rfl rfl rfl rfl hb2b hb3b (Nat.le_refl _) ?_; intro wb ownb grb; have OB := made_u64 ownb; have Cwb : Hid (Below wa.heap.size wa wb) := made_below grb; clear ownb grb)
    | (refine wpList_put rfl (.tmp 23) (.const (.int .u64 9223372036855300096)) rfl rfl OB.out 15 (by omega) _ rfl rfl ?_; intro wc oc gc)
    | (refine wpList_put rfl (.tmp 25) (.const (.int .u64 31)) rfl rfl oc 16 (by omega) _ rfl rfl ?_; intro wd od gd)
    | (refine wpList_put rfl (.tmp 27) (.const (.int .u64 18014398509481983)) rfl rfl od 17 (by omega) _ rfl rfl ?_; intro we oe ge))
  have OL : Hid (Own we wa.heap.size wa.heap.size 22 ledL) := oe
  have Cwe : Hid (Below wa.heap.size wa we) := Below.grown (Below.grown (Below.grown Cwb.out gc Cwb.out.size (by intro k h; cases h; exact Nat.le_refl _)) gd (by have := Cwb.out.size; have := gc.size; omega) (by intro k h; cases h; exact Nat.le_refl _)) ge (by have := Cwb.out.size; have := gc.size; have := gd.size; omega) (by intro k h; cases h; exact Nat.le_refl _)
  have Bwe : Hid (Below w.heap.size w we) := below_trans Bwa.out Cwe.out
  have RA : Hid (Sl .u8 we (some ⟨w.heap.size, 0, none⟩) (List.replicate 4096 0)) := (own_sl OA.out).below Cwe.out
  have LA : Hid (Sl .u64 we (some ⟨wa.heap.size, 0, none⟩) ledL) := own_sl OL.out
  clear OA OB OL Cwb Cwe oc od oe gc gd ge Bwa
  refine (pick_any none 0 0 [] 256 we HD.out.len (by have := HD.out.few; omega) (HD.out.sl.below Bwe.out) HD.out.bd (by omega) (by omega)).mono ?_
  rintro e wz ⟨bi, rfl, ⟨bi0, bi1⟩, hwz⟩
  have hwz' := hwz.symm
  subst hwz'
  obtain ⟨b, rfl⟩ := Int.eq_ofNat_of_zero_le bi0
  have own1 := own_one we w.heap.size (by have := Bwe.out.size; omega) 1
  have Q1 : Sl .u8 _ _ [1] := own_sl (zs := [1]) own1
  have Bx1 : Below we.heap.size we (we.alloc (.cells #[.int .u8 1] 5)) := (Below.refl _ _).alloc (Nat.le_refl _) _
  go_wp2_with fail
  obtain ⟨wp1, hwp1⟩ : ∃ wp, we.alloc (.cells #[.int .u8 1] 5) = wp := ⟨_, rfl⟩
  rw [hwp1] at Q1 Bx1 ⊢
  have Bwp1 : Hid (Below w.heap.size w wp1) := below_trans Bwe.out Bx1
  have D1 : Hid (Below we.heap.size we wp1) := Bx1
  clear own1 hwp1 Bx1
  refine (pick_any _ 1 1 [1] 9 wp1 rfl (by omega) Q1 (cons_wf (by decide) (by simp)) (by omega) (by omega)).mono ?_
  rintro e wq1 ⟨yi, rfl, ⟨yi0, yi1⟩, hwq1⟩
  have hwr1 := hwq1.symm
  subst hwr1
  clear Q1
  obtain ⟨y, rfl⟩ := Int.eq_ofNat_of_zero_le yi0
  have LA1 : Hid (Sl .u64 wp1 (some ⟨wa.heap.size, 0, none⟩) ledL) := LA.out.below D1.out
  have RA1 : Hid (Sl .u8 wp1 (some ⟨w.heap.size, 0, none⟩) (List.replicate 4096 0)) := RA.out.below D1.out
  clear LA RA D1 Bwe
  have hy9 : y < 9 := by omega
  have hb256 : b < 256 := by omega
  obtain ⟨ee, -⟩ := led_entry y hy9 b hb256
  obtain ⟨fr, hfr⟩ : ∃ fr : Int, (y : Int) * 262144 = fr := ⟨_, rfl⟩
  have f1 : IntKind.u64.wrap (y : Int) = (y : Int) := by rw [IntKind.wrap_u64]; omega
  have f2 : IntKind.u64.wrap ((y : Int) * 262144) = fr := by rw [IntKind.wrap_u64]; omega
  have HEN : Hid (∀ W, Calls Tryd.prog 16 #[.int .u64 fr, .int .i64 (b : Int)] W fun e w' => e = .returned (.int .u64 ((y : Int) * 268435456 + b)) ∧ Below W.heap.size W w') := fun W => by
    have h := implEntry_any fr (b : Int) (by omega) W
    rw [← hfr, ee, hfr] at h
    exact h
  obtain ⟨ev, hev⟩ : ∃ ev : Int, (y : Int) * 268435456 + b = ev := ⟨_, rfl⟩
  rw [hev] at HEN
  have HST : Hid (∀ W, Sl .u8 W (some ⟨w.heap.size, 0, none⟩) (List.replicate 4096 0) → Calls Tryd.prog 17 #[.slice (some ⟨w.heap.size, 0, none⟩) 4096 4096, .int .u64 2147483656, .int .i64 8, .int .u64 ev] W fun e w' => e = .returned (.tuple #[.slice (some ⟨W.heap.size, 0, none⟩) 4096 4096, .bool true]) ∧ w'.ownsRow W.heap.size 5 1 (.slice (some ⟨W.heap.size, 0, none⟩) 4096 4096) 4096 ((put (List.replicate 4096 0) 8 ev 8).map (Value.int .u8)) ∧ Below W.heap.size W w') := fun W hs => by
    have h := implStore_n (some ⟨w.heap.size, 0, none⟩) 4096 4096 8 8 (List.replicate 4096 0) ev W List.length_replicate (by omega) hs (by decide +kernel) (by omega) (by omega)
    exact h
  have HEV : Hid ((y : Int) * 268435456 + b = ev) := hev
  have HFR : Hid ((y : Int) * 262144 = fr) := hfr
  clear ee hev hfr
  go_wp2_with fail
  refine (HEN.out _).mono ?_
  rintro e wf ⟨rfl, hbf⟩
  have RA2 : Hid (Sl .u8 wf (some ⟨w.heap.size, 0, none⟩) (List.replicate 4096 0)) := RA1.out.below hbf
  have LA2 : Hid (Sl .u64 wf (some ⟨wa.heap.size, 0, none⟩) ledL) := LA1.out.below hbf
  have Bwf : Hid (Below w.heap.size w wf) := below_trans Bwp1.out hbf
  clear RA1 LA1 Bwp1 hbf HEN
  go_wp2_with fail
  refine (HST.out _ RA2.out).mono ?_
  rintro e ws ⟨rfl, os, hbs⟩
  have MS : Hid (Sl .u8 ws (some ⟨wf.heap.size, 0, none⟩) (put (List.replicate 4096 0) 8 ev 8)) := own_sl os
  have LS : Hid (Sl .u64 ws (some ⟨wa.heap.size, 0, none⟩) ledL) := LA2.out.below hbs
  have Bws : Hid (Below w.heap.size w ws) := below_trans Bwf.out hbs
  clear RA2 LA2 Bwf hbs os HST
  obtain ⟨ms, hms⟩ : ∃ ms, put (List.replicate 4096 (0 : Int)) 8 ev 8 = ms := ⟨_, rfl⟩
  rw [hms] at MS
  have HMS : Hid (ms = put (List.replicate 4096 0) 8 ((y : Int) * 268435456 + b) 8) := by rw [HEV.out]; exact hms.symm
  have HML : Hid (ms.length = 4096) := by rw [HMS.out]; show (put _ _ _ _).length = 4096; rw [put_len]; exact List.length_replicate
  have HMW : Hid (∀ y ∈ ms, (Lit.int .u8 y).wf = true) := fun z hz => by
    rw [HMS.out] at hz
    obtain ⟨h0, h1⟩ := put_bd (List.replicate 4096 0) (fun q hq => by rw [(List.mem_replicate.mp hq).2]; decide) 8 _ 8 z hz
    exact byte_wf h0 h1
  clear hms
  have own2 := own_one ws w.heap.size (by have := Bws.out.size; omega) 2
  have Q2 : Sl .u8 _ _ [2] := own_sl (zs := [2]) own2
  have Bx2 : Below ws.heap.size ws (ws.alloc (.cells #[.int .u8 2] 5)) := (Below.refl _ _).alloc (Nat.le_refl _) _
  go_wp2_with fail
  obtain ⟨wp2, hwp2⟩ : ∃ wp, ws.alloc (.cells #[.int .u8 2] 5) = wp := ⟨_, rfl⟩
  rw [hwp2] at Q2 Bx2 ⊢
  have Bwp2 : Hid (Below w.heap.size w wp2) := below_trans Bws.out Bx2
  have D2 : Hid (Below ws.heap.size ws wp2) := Bx2
  clear own2 hwp2 Bx2
  refine (pick_any _ 1 1 [2] 1048576 wp2 rfl (by omega) Q2 (cons_wf (by decide) (by simp)) (by omega) (by omega)).mono ?_
  rintro e wq2 ⟨xi, rfl, ⟨xi0, xi1⟩, hwq2⟩
  have hwr2 := hwq2.symm
  subst hwr2
  clear Q2
  have MS2 : Hid (Sl .u8 wp2 (some ⟨wf.heap.size, 0, none⟩) ms) := MS.out.below D2.out
  have LS2 : Hid (Sl .u64 wp2 (some ⟨wa.heap.size, 0, none⟩) ledL) := LS.out.below D2.out
  clear MS LS D2 Bws
  obtain ⟨va, hva⟩ : ∃ va : Int, 1073741824 + xi = va := ⟨_, rfl⟩
  have v1 : wrap64 (1073741824 + xi) = va := by unfold wrap64; omega
  have v2 : IntKind.u64.wrap va = va := by rw [IntKind.wrap_u64]; omega
  have own3 := own_one wp2 w.heap.size (by have := Bwp2.out.size; omega) 3
  have Q3 : Sl .u8 _ _ [3] := own_sl (zs := [3]) own3
  have Bx3 : Below wp2.heap.size wp2 (wp2.alloc (.cells #[.int .u8 3] 5)) := (Below.refl _ _).alloc (Nat.le_refl _) _
  go_wp2_with fail
  obtain ⟨wp3, hwp3⟩ : ∃ wp, wp2.alloc (.cells #[.int .u8 3] 5) = wp := ⟨_, rfl⟩
  rw [hwp3] at Q3 Bx3 ⊢
  have Bwp3 : Hid (Below w.heap.size w wp3) := below_trans Bwp2.out Bx3
  have D3 : Hid (Below wp2.heap.size wp2 wp3) := Bx3
  clear own3 hwp3 Bx3
  refine (pick_any _ 1 1 [3] 3 wp3 rfl (by omega) Q3 (cons_wf (by decide) (by simp)) (by omega) (by omega)).mono ?_
  rintro e wq3 ⟨ki, rfl, ⟨ki0, ki1⟩, hwq3⟩
  have hwr3 := hwq3.symm
  subst hwr3
  clear Q3
  have MS3 : Hid (Sl .u8 wp3 (some ⟨wf.heap.size, 0, none⟩) ms) := MS2.out.below D3.out
  have LS3 : Hid (Sl .u64 wp3 (some ⟨wa.heap.size, 0, none⟩) ledL) := LS2.out.below D3.out
  clear MS2 LS2 D3 Bwp2
  obtain ⟨kk, hkk⟩ : ∃ kk : Int, 1 + ki = kk := ⟨_, rfl⟩
  have v3 : wrap64 (1 + ki) = kk := by unfold wrap64; omega
  have own4 := own_one wp3 w.heap.size (by have := Bwp3.out.size; omega) 4
  have Q4 : Sl .u8 _ _ [4] := own_sl (zs := [4]) own4
  have Bx4 : Below wp3.heap.size wp3 (wp3.alloc (.cells #[.int .u8 4] 5)) := (Below.refl _ _).alloc (Nat.le_refl _) _
  go_wp2_with fail
  obtain ⟨wp4, hwp4⟩ : ∃ wp, wp3.alloc (.cells #[.int .u8 4] 5) = wp := ⟨_, rfl⟩
  rw [hwp4] at Q4 Bx4 ⊢
  have Bwp4 : Hid (Below w.heap.size w wp4) := below_trans Bwp3.out Bx4
  have D4 : Hid (Below wp3.heap.size wp3 wp4) := Bx4
  clear own4 hwp4 Bx4
  refine (pick_any _ 1 1 [4] 2 wp4 rfl (by omega) Q4 (cons_wf (by decide) (by simp)) (by omega) (by omega)).mono ?_
  rintro e wq4 ⟨pi, rfl, ⟨pi0, pi1⟩, hwq4⟩
  have hwr4 := hwq4.symm
  subst hwr4
  clear Q4
  have MS4 : Hid (Sl .u8 wp4 (some ⟨wf.heap.size, 0, none⟩) ms) := MS3.out.below D4.out
  have LS4 : Hid (Sl .u64 wp4 (some ⟨wa.heap.size, 0, none⟩) ledL) := LS3.out.below D4.out
  clear MS3 LS3 D4 Bwp3
  have hp : pi = 0 ∨ pi = 1 := by omega
  have hk : kk = 1 ∨ kk = 2 ∨ kk = 3 := by omega
  have hok : walkOk 4096 22 ledL pi kk = true := by
    unfold walkOk legalB
    rw [ledL_ok]
    rcases hp with rfl | rfl <;> rcases hk with rfl | rfl | rfl <;> decide
  have WAY := led_walk y b hy9 hb256 pi kk xi hp xi0 xi1 ms HMS.out
  rw [hva] at WAY
  have HWI := implWalk_any (some ⟨wf.heap.size, 0, none⟩) 4096 4096 ms (some ⟨wa.heap.size, 0, none⟩) 22 22 ledL pi va kk wp4 HML.out (by omega) MS4.out HMW.out rfl LS4.out ledL_U ⟨by omega, by omega⟩ (HT.out.below Bwp4.out) (good_own _ 4096 (by omega))
  have HWS : ∀ W, Below wp4.heap.size wp4 W → _ := fun W hW => specWalk_any (some ⟨wf.heap.size, 0, none⟩) 4096 4096 ms (some ⟨wa.heap.size, 0, none⟩) 22 22 ledL pi va kk W HML.out (by omega) (MS4.out.below hW) HMW.out rfl (LS4.out.below hW) ⟨by omega, by omega⟩
  unfold walkA walkC at HWI HWS
  simp only [hok, if_true] at HWI HWS
  generalize (walkB ms 4096 22 ledL pi va kk) = S at *
  obtain ⟨A, hA⟩ : ∃ A, (walkV ms 4096 ledL pi va kk).addr = A := ⟨_, rfl⟩
  obtain ⟨C, hC⟩ : ∃ C, (walkV ms 4096 ledL pi va kk).code = C := ⟨_, rfl⟩
  rw [hA, hC] at WAY HWI
  have HWI2 : Hid (Calls Tryd.prog 13 #[.slice (some ⟨wf.heap.size, 0, none⟩) 4096 4096, .slice (some ⟨wa.heap.size, 0, none⟩) 22 22, .int .i64 pi, .int .u64 va, .int .i64 kk] wp4 fun e w' => ∃ (a' : Option Addr) (c : Nat), e = .returned (.tuple #[.int .u64 A, .int .i64 C, .slice a' S.length c]) ∧ w'.ownsRow wp4.heap.size 5 1 (.slice a' S.length c) S.length (S.map (Value.int .u8)) ∧ Below wp4.heap.size wp4 w') := HWI
  have HWS2 : Hid (∀ W, Below wp4.heap.size wp4 W → Calls Tryd.prog 14 #[.slice (some ⟨wf.heap.size, 0, none⟩) 4096 4096, .slice (some ⟨wa.heap.size, 0, none⟩) 22 22, .int .i64 pi, .int .u64 va, .int .i64 kk] W fun e w' => ∃ (a' : Option Addr) (c : Nat), e = .returned (.tuple #[.int .u64 A, .int .i64 C, .slice a' S.length c]) ∧ w'.ownsRow W.heap.size 5 1 (.slice a' S.length c) S.length (S.map (Value.int .u8)) ∧ Below W.heap.size W w') := fun W hW => by
    have := HWS W hW
    rw [hA, hC] at this
    exact this
  have tA : (A != A) = false := by simp
  have tC : (C != C) = false := by simp
  clear HWI HWS hA hC hok MS4 LS4 HMS HML HMW
  go_wp2_with fail
  refine HWI2.out.mono ?_
  rintro e wg ⟨ag, cg, rfl, -, hbg⟩
  have Bwg : Hid (Below w.heap.size w wg) := below_trans Bwp4.out hbg
  have HWS3 := HWS2.out wg hbg
  have HWS4 : Hid (Calls Tryd.prog 14 #[.slice (some ⟨wf.heap.size, 0, none⟩) 4096 4096, .slice (some ⟨wa.heap.size, 0, none⟩) 22 22, .int .i64 pi, .int .u64 va, .int .i64 kk] wg fun e w' => ∃ (a' : Option Addr) (c : Nat), e = .returned (.tuple #[.int .u64 A, .int .i64 C, .slice a' S.length c]) ∧ w'.ownsRow wg.heap.size 5 1 (.slice a' S.length c) S.length (S.map (Value.int .u8)) ∧ Below wg.heap.size wg w') := HWS3
  clear HWS2 HWS3 HWI2 hbg Bwp4
  go_wp2_with fail
  refine HWS4.out.mono ?_
  rintro e wh ⟨ah, ch, rfl, -, hbh⟩
  have Bwh : Hid (Below w.heap.size w wh) := below_trans Bwg.out hbh
  clear HWS4 hbh Bwg
  have hfr12 : IntKind.u64.wrap ((y : Int) * 262144 * 4096) = IntKind.u64.wrap (fr * 4096) := by rw [HFR.out]
  rw [hfr12] at WAY
  rcases WAY with ⟨e1, e2, e3, e4⟩ | ⟨e1, e2⟩
  · subst e1
    have t1 : ((0 : Int) == 0) = true := rfl
    have t2 : (A == bits .or .u64 (IntKind.u64.wrap (fr * 4096)) (bits .and .u64 va 1073741823)) = true := by rw [e2]; simp
    have E4 : Hid (((bits .and .i64 ((b : Int) / 16) 1 == 1) == (pi == 0)) = true) := e4
    clear e2 hva hkk hp hk
    go_wp2_with fail
    go_ret
    exact ⟨by first | rfl | (rw [E4.out]; rfl), Bwh.out⟩
  · have t1 : (C == 0) = false := by simp [e1]
    rcases hk with h | h | h
    · rw [h] at e2 ⊢
      rcases e2 with h2 | h2
      · rw [show pageC 1 = 12 from rfl] at h2
        subst h2
        clear hva hkk hp
        go_wp2_with fail
        go_ret
        exact ⟨rfl, by first | exact Bwh.out | exact Bwh.out.alloc Bwh.out.size _ | exact (Bwh.out.alloc Bwh.out.size _).alloc (by have := Bwh.out.size; simp; omega) _⟩
      · rw [show faultC 1 = 1 from rfl] at h2
        subst h2
        clear hva hkk hp
        go_wp2_with fail
        go_ret
        exact ⟨rfl, by first | exact Bwh.out | exact Bwh.out.alloc Bwh.out.size _ | exact (Bwh.out.alloc Bwh.out.size _).alloc (by have := Bwh.out.size; simp; omega) _⟩
    · rw [h] at e2 ⊢
      rcases e2 with h2 | h2
      · rw [show pageC 2 = 13 from rfl] at h2
        subst h2
        clear hva hkk hp
        go_wp2_with fail
        go_ret
        exact ⟨rfl, by first | exact Bwh.out | exact Bwh.out.alloc Bwh.out.size _ | exact (Bwh.out.alloc Bwh.out.size _).alloc (by have := Bwh.out.size; simp; omega) _⟩
      · rw [show faultC 2 = 5 from rfl] at h2
        subst h2
        clear hva hkk hp
        go_wp2_with fail
        go_ret
        exact ⟨rfl, by first | exact Bwh.out | exact Bwh.out.alloc Bwh.out.size _ | exact (Bwh.out.alloc Bwh.out.size _).alloc (by have := Bwh.out.size; simp; omega) _⟩
    · rw [h] at e2 ⊢
      rcases e2 with h2 | h2
      · rw [show pageC 3 = 15 from rfl] at h2
        subst h2
        clear hva hkk hp
        go_wp2_with fail
        go_ret
        exact ⟨rfl, by first | exact Bwh.out | exact Bwh.out.alloc Bwh.out.size _ | exact (Bwh.out.alloc Bwh.out.size _).alloc (by have := Bwh.out.size; simp; omega) _⟩
      · rw [show faultC 3 = 7 from rfl] at h2
        subst h2
        clear hva hkk hp
        go_wp2_with fail
        go_ret
        exact ⟨rfl, by first | exact Bwh.out | exact Bwh.out.alloc Bwh.out.size _ | exact (Bwh.out.alloc Bwh.out.size _).alloc (by have := Bwh.out.size; simp; omega) _⟩

theorem walk (a0 : Option Addr) (len0 cap0 : Nat) (z0 : List Int) (w : World) (w0 : IsRow .u8 w a0 len0 cap0 z0) (hT : Tab w) :
    Calls Tryd.prog 5 #[.slice a0 len0 cap0] w fun e w' => e = .returned (.bool true) ∧ Below w.heap.size w w' := by
  by_cases hbig : 4096 < len0
  · have hb : decide (4096 < len0) = true := by simpa using hbig
    go_enter Tryd.func5, Tryd.ntmps5
    go_wp2_with fail
    refine (big_any a0 len0 cap0 _).mono ?_
    rintro e w1 ⟨rfl, hw1⟩
    subst hw1
    rw [hb]
    go_wp2_with fail
    go_ret
    exact ⟨rfl, Below.refl _ _⟩
  · obtain ⟨zs, hcd⟩ := code_of w0 (by omega)
    rcases w0 with ⟨rfl, rfl, rfl, _⟩ | ⟨x, rfl, h1, h2, h3, h4, _⟩
    · have hz : zs = [] := List.eq_nil_of_length_eq_zero hcd.len
      subst hz
      exact walk_nil w hcd hT
    · exact walk_some x len0 cap0 zs w hcd hT

end Go.Proofs.YtldjmphflgecjacDoor.fnLed
