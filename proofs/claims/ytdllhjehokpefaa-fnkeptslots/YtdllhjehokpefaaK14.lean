/- Own lemmas. -/
import Derived.Test.YtdllhjehokpefaaK13
import Derived.WalkKit
import Derived.Deep.RegionHeld3
namespace Go.Proofs.Ytdllhjehokpefaa
open Go.RowKit
set_option linter.unusedVariables false

theorem sZ {α : Type} (x y : α) (l : List α) : (x :: l).set 0 y = y :: l := rfl

theorem run_makeF (w : World) : (Instr.makeMap 66 (some (.int .i64 16))).run Try.prog w = .ok (.map (some w.heap.size)) (w.alloc (.map #[] 0)) := by kernel_rfl

theorem heap_setBlock (w : World) (b : Nat) (o o' : Obj) (h : w.heap[b]? = some o') : (ChangeMaps.setBlock w b o).heap[b]? = some o := by
  have hb : b < w.heap.size := (Array.getElem?_eq_some_iff.1 h).1
  simp [ChangeMaps.setBlock, hb]

theorem grown_setBlock (w : World) (b : Nat) (o : Obj) : w.grownBy (ChangeMaps.setBlock w b o) (some b) :=
  ⟨rfl, rfl, rfl, by simp [ChangeMaps.setBlock], fun k hk hne => by
    have : ¬ b = k := fun e => hne (by rw [e])
    simp [ChangeMaps.setBlock, this]⟩

theorem cells5s {W : World} {g : Nat} {a b c d e : Value} {t : TypeId} (h : W.heap[g]? = some (.cells #[a, b, c, d, e] t (0, 0))) : W.cell? ⟨g, 0, none⟩ = some a ∧ W.cell? ⟨g, 1, none⟩ = some b ∧ W.cell? ⟨g, 2, none⟩ = some c ∧ W.cell? ⟨g, 3, none⟩ = some d ∧ W.cell? ⟨g, 4, none⟩ = some e := by
  refine ⟨?_, ?_, ?_, ?_, ?_⟩ <;> simp [World.cell?, h]

set_option maxRecDepth 100000 in
set_option maxHeartbeats 3200000 in
theorem frames_any (a : Option Addr) (cap : Nat) (ss : List Slt) (w : World) (hz : ss.length = 16) (ho : okTo ss 16 = true) (hs : Ss w a ss) :
    Calls Try.prog 40 #[.agg #[.slice a 16 cap]] w fun e w' => ∃ bm, e = .returned (.map (some bm)) ∧ w'.heap[bm]? = some (.map (fEs (usedTo ss 16)) (usedTo ss 16).length) ∧ Below w.heap.size w w' := by
  have HZ := dhid hz
  have HO := dhid ho
  have HS := dhid hs
  have hmk := run_makeF
  clear hz ho hs
  go_enter Try.func40, Try.ntmps40
  go_wp2_with fail
  obtain ⟨W, hW⟩ : ∃ W, W = (w.alloc (.cells #[.slice a 16 cap] 26)).alloc (.map #[] 0) := ⟨_, rfl⟩
  rw [← hW]
  have BW := dhid (show Below w.heap.size w W by rw [hW]; exact ((Below.refl _ _).alloc (Nat.le_refl _) _).alloc (by simp) _)
  have MW := dhid (show W.heap[w.heap.size + 1]? = some (.map (fEs (usedTo ss 0)) (usedTo ss 0).length) by rw [hW]; have := heap_alloc_new (w.alloc (.cells #[.slice a 16 cap] 26)) (.map #[] 0); rw [World.size_alloc] at this; exact this)
  have zW : W.heap.size = w.heap.size + 1 + 1 := by rw [hW]; simp
  clear hW hmk
  go_loopw [10] (fun i wr => ∃ k : Nat, k ≤ 16 ∧ i = .int .i64 k ∧ Hid (wr.heap[w.heap.size + 1]? = some (.map (fEs (usedTo ss k)) (usedTo ss k).length)) ∧ W.grownBy wr (some (w.heap.size + 1))) (fun i _ => 16 - (intOf i).toNat)
  case atStart => exact ⟨0, by omega, rfl, MW, grown_refl _ _⟩
  case round =>
    obtain ⟨k, hk, rfl, hm, hgr⟩ := hrel
    have hbw : Below w.heap.size w wr := BW.out.grown hgr BW.out.size (by intro k hk; cases hk; omega)
    by_cases hlt : k < 16
    · obtain ⟨s, hss⟩ : ∃ s, ss.getD k slt0 = s := ⟨_, rfl⟩
      obtain ⟨b, off, rfl, hb, c0, c1, c2, c3, c4⟩ := (HS.out.below hbw).at k (by have := HZ.out; omega) s hss
      have NU := usedTo_succ ss k (by have := HZ.out; omega)
      have NEW := dhid (fun (h : (ss.getD k slt0).u = true) => key_new HO.out hlt h)
      rw [hss] at NU NEW
      have HK := dhid (fun w => slotKey_any s w)
      obtain ⟨u, kk, p, g, f⟩ := s
      dsimp only [Slt.v, keyV] at c0 c1 c2 c3 c4 HK NU NEW
      have HGR := dhid hgr
      have zz := hgr.size
      cases u
      · simp only [Bool.false_eq_true, if_false] at NU
        have NN := dhid NU
        clear hgr hbw NEW HK NU hss hb
        go_wp2_with fail
        go_roundw
        case rel => exact ⟨k + 1, by omega, by go_num, by rw [NN.out]; show _ = _; rw [Below.heap_alloc _ _ _ (by omega)]; exact hm.out, grown_trans HGR.out (World.grownBy_alloc _ _ _)⟩
        case measure => simp [intOf]; omega
      · simp only [if_true] at NU
        have NN := dhid NU
        have NW := dhid (NEW.out rfl)
        clear hgr hbw NEW NU hss hb
        go_wp2_with fail
        obtain ⟨W4, hW4⟩ : ∃ W', W' = wr.alloc (.cells #[.bool true, .int .i64 kk, .int .i64 p, .int .u64 g, .int .u64 f] 60) := ⟨_, rfl⟩
        rw [← hW4]
        obtain ⟨O, hO⟩ : ∃ O, O = wr.heap.size := ⟨_, rfl⟩
        have r4 : W4.heap[wr.heap.size]? = some (.cells #[.bool true, .int .i64 kk, .int .i64 p, .int .u64 g, .int .u64 f] 60 (0, 0)) := by rw [hW4]; exact heap_alloc_new _ _
        have m4 : Hid (W4.heap[w.heap.size + 1]? = some (.map (fEs (usedTo ss k)) (usedTo ss k).length)) := by show _ = _; rw [hW4, Below.heap_alloc _ _ _ (by omega)]; exact hm.out
        have G4 : Hid (W.grownBy W4 (some (w.heap.size + 1))) := by rw [hW4]; exact grown_trans HGR.out (World.grownBy_alloc _ _ _)
        have z4 : wr.heap.size < W4.heap.size := by rw [hW4]; simp
        rw [← hO] at r4 z4 ⊢
        have n0 : ¬ O = w.heap.size + 1 := by omega
        clear hW4 hO c0 c1 c2 c3 c4 hm
        have PW : Hid (∀ w', W4.grownBy w' (some (w.heap.size + 1)) → (w'.cell? ⟨O, 0, none⟩ = some (.bool true) ∧ w'.cell? ⟨O, 1, none⟩ = some (.int .i64 kk) ∧ w'.cell? ⟨O, 2, none⟩ = some (.int .i64 p) ∧ w'.cell? ⟨O, 3, none⟩ = some (.int .u64 g) ∧ w'.cell? ⟨O, 4, none⟩ = some (.int .u64 f)) ∧ W4.grownBy w' (some (w.heap.size + 1))) := fun w' hb => ⟨cells5s ((hb.block O z4 (by simp; omega)).trans r4), hb⟩
        have g0 : W4.grownBy W4.drew (some (w.heap.size + 1)) := grown_of_below (Below.refl _ _).drew _
        obtain ⟨L1, hL1⟩ : ∃ L1, L1 = (usedTo ss (k + 1)).length := ⟨_, rfl⟩
        obtain ⟨E1, hE1⟩ : ∃ E1, E1 = fEs (usedTo ss (k + 1)) := ⟨_, rfl⟩
        have LL := dhid hL1
        have EE := dhid hE1
        have UP : Hid (∀ w8, Below W4.heap.size W4 w8 → (Instr.mapUpdate 66 (.map (some (w.heap.size + 1))) (.agg #[.int .i64 kk, .int .i64 p, .int .u64 g]) (.int .u64 f)).run Try.prog w8 = .ok () (ChangeMaps.setBlock w8 (w.heap.size + 1) (.map E1 L1))) := fun w8 hb => by
          rw [hL1, hE1, NN.out]
          exact run_updF w8 (w.heap.size + 1) (usedTo ss k) ⟨true, kk, p, g, f⟩ (dstays hb m4.out) NW.out
        clear hL1 hE1
        obtain ⟨cs0, cs1, cs2, cs3, cs4⟩ := cells5s r4
        go_region_held3 (fun w' => (w'.cell? ⟨O, 0, none⟩ = some (.bool true) ∧ w'.cell? ⟨O, 1, none⟩ = some (.int .i64 kk) ∧ w'.cell? ⟨O, 2, none⟩ = some (.int .i64 p) ∧ w'.cell? ⟨O, 3, none⟩ = some (.int .u64 g) ∧ w'.cell? ⟨O, 4, none⟩ = some (.int .u64 f)) ∧ W4.grownBy w' (some (w.heap.size + 1))) (first | exact PW.out _ (by assumption)) (first | (go_at_call 55; with_reducible refine (HK.out _).mono ?_; rintro e w8 ⟨rfl, hb8⟩; have hb9 := below_trans (Below.refl W4.heap.size W4).drew hb8; have g8 := grown_of_below hb9 (some (w.heap.size + 1)); have hup := UP.out _ hb9; have g9 := grown_trans g8 (grown_setBlock w8 (w.heap.size + 1) (.map E1 L1))))
        obtain ⟨W9, hW9⟩ : ∃ W', W' = ChangeMaps.setBlock w8 (w.heap.size + 1) (.map E1 L1) := ⟨_, rfl⟩
        rw [← hW9] at g9 ⊢
        have M9 := dhid (show W9.heap[w.heap.size + 1]? = some (.map (fEs (usedTo ss (k + 1))) (usedTo ss (k + 1)).length) by rw [hW9, ← LL.out, ← EE.out]; exact heap_setBlock w8 _ _ _ (dstays hb9 m4.out))
        have G9 := dhid (grown_trans G4.out g9)
        clear hW9 g9 hup g8 hb9 hb8 g0 PW UP cs0 cs1 cs2 cs3 cs4 r4 HK
        go_wp2_with fail
        go_roundw
        case rel => exact ⟨k + 1, by omega, by go_num, M9, G9.out⟩
        case measure => simp [intOf]; omega
    · have : k = 16 := by omega
      subst this
      go_wp2_with fail
      go_ret
      exact ⟨_, rfl, hm.out, hbw⟩

set_option maxRecDepth 100000 in
set_option maxHeartbeats 3200000 in
theorem implLookup_any (a : Option Addr) (n cap : Nat) (ss : List Slt) (k p addr : Int) (w : World) (ha : 0 ≤ addr ∧ addr ≤ 18446744073709551615) (hz : ss.length = n) (hn : n ≤ 1048576) (hw : Sw ss) (hs : Ss w a ss) :
    Calls Try.prog 14 #[.agg #[.slice a n cap], .int .i64 k, .int .i64 p, .int .u64 addr] w fun e w' => e = .returned (lookV (lookS ss k p addr)) ∧ Below w.heap.size w w' := by
  have hB : ∀ o, Below w.heap.size w (w.alloc o) := fun o => (Below.refl _ _).alloc (Nat.le_refl _) o
  have HC := dhid (fun o => implCacheOk_any a n cap ss (w.alloc o) hz hn hw (hs.below (hB o)))
  obtain ⟨V, hV⟩ : ∃ V, lookV (lookS ss k p addr) = V := ⟨_, rfl⟩
  rw [hV]
  cases t0 : cacheB ss
  case false =>
    have F := dhid (show V = .tuple #[.int .u64 0, .bool false] by rw [← hV]; unfold lookS; rw [t0]; rfl)
    rw [t0] at HC
    clear t0 hs hw hV
    go_enter Try.func14, Try.ntmps14
    go_wp2_with (first | (go_at_call 18; refine (HC.out _).mono ?_; rintro e w1 ⟨rfl, hb1⟩))
    go_ret2
    exact ⟨by rw [F.out]; rfl, below_trans (hB _) hb1⟩
  have h16 : n = 16 := by simp [cacheB] at t0; omega
  subst h16
  have ho : okTo ss 16 = true := by simp [cacheB] at t0; exact t0.2
  have HF := dhid (fun (w' : World) (hb : Below w.heap.size w w') => frames_any a cap ss w' hz ho (hs.below hb))
  have LK := look_eq t0 k p addr
  rw [t0] at HC
  cases hf : findS (usedTo ss 16) k p (addr / 4096) with
  | none =>
    rw [hf] at LK
    have F := dhid (show V = .tuple #[.int .u64 0, .bool false] by rw [← hV, ← LK]; rfl)
    have hlk := dhid (fun (w' : World) (bm clock : Nat) hb => run_lookF w' bm (usedTo ss 16) k p (addr / 4096) clock hb)
    rw [hf] at hlk
    simp only [keyV, Option.map_none, Option.getD_none, Option.isSome_none] at hlk
    clear t0 hs hw hV LK hf hz ho
    go_enter Try.func14, Try.ntmps14
    go_wp2_with (first | (go_at_call 18; refine (HC.out _).mono ?_; rintro e w1 ⟨rfl, hb1⟩; have B1 := dhid (below_trans (hB _) hb1); have q0 := row_at1 (dstays hb1 (heap_alloc_new _ _)); clear hb1) | (go_at_call 40; refine (HF.out _ B1.out).mono ?_; rintro e w2 ⟨bm, rfl, hm, hb2⟩; have hl := hlk.out _ _ _ hm; have B2 := dhid (below_trans B1.out hb2); clear hm hb2))
    go_ret2
    exact ⟨by rw [F.out]; rfl, B2.out⟩
  | some s =>
    rw [hf] at LK
    have hu := find_some hz ho hf
    have fb : (0 ≤ s.f ∧ s.f ≤ 18446744073709551615) ∧ s.f < 4503599627370496 := by
      have h1 := hu.2.1
      have PB := plS_bd k p (addr / 4096)
      rw [← h1]
      refine ⟨(hw.get _).2, (ok_used ho (by omega) (by rw [h1]; exact hu.2.2.1)).2.2.1⟩
    have F := dhid (show V = .tuple #[.int .u64 (s.f * 4096 + addr % 4096), .bool true] by rw [← hV, ← LK]; rfl)
    have hlk := dhid (fun (w' : World) (bm clock : Nat) hb => run_lookF w' bm (usedTo ss 16) k p (addr / 4096) clock hb)
    rw [hf] at hlk
    simp only [keyV, Option.map_some, Option.getD_some, Option.isSome_some] at hlk
    obtain ⟨su, sk, sp, sg, sf⟩ := s
    dsimp only at fb F hlk
    clear t0 hs hw hV LK hf hz ho hu
    go_enter Try.func14, Try.ntmps14
    go_wp2_with (first | (go_at_call 18; refine (HC.out _).mono ?_; rintro e w1 ⟨rfl, hb1⟩; have B1 := dhid (below_trans (hB _) hb1); have q0 := row_at1 (dstays hb1 (heap_alloc_new _ _)); clear hb1) | (go_at_call 40; refine (HF.out _ B1.out).mono ?_; rintro e w2 ⟨bm, rfl, hm, hb2⟩; have hl := hlk.out _ _ _ hm; have B2 := dhid (below_trans B1.out hb2); clear hm hb2))
    go_ret2
    exact ⟨by rw [F.out]; rfl, B2.out⟩

theorem own_base2 {w : World} {base n c g : Nat} {e : TypeId} {size : Nat} {xs : List Value} (h : w.ownsRow base e size (.slice (some ⟨g, 0, none⟩) n c) n xs) : base ≤ g := (h.lt g rfl).1

theorem keepS_none {ss : List Slt} {k p addr to : Int} (h : (cacheB ss && kpB k p) = false) : keepS ss k p addr to = [] := by
  unfold keepS
  rw [h]
  rfl

theorem own_noneI (w : World) (base : Nat) : w.ownsRow base 60 5 (.slice none 0 0) 0 (flatS []) := World.ownsRow_nil w base 60 5

theorem row_alS {W : World} {g : Nat} {o : Obj} (h : W.heap[g]? = some o) (ob : Obj) : (W.alloc ob).heap[g]? = some o := (Below.heap_alloc _ _ _ (Array.getElem?_eq_some_iff.1 h).1).trans h

theorem cells3 {W : World} {g : Nat} {a b c : Value} {t : TypeId} (h : W.heap[g]? = some (.cells #[a, b, c] t (0, 0))) : W.cell? ⟨g, 0, none⟩ = some a ∧ W.cell? ⟨g, 1, none⟩ = some b ∧ W.cell? ⟨g, 2, none⟩ = some c := by
  refine ⟨?_, ?_, ?_⟩ <;> simp [World.cell?, h]

set_option maxRecDepth 100000 in
set_option maxHeartbeats 3200000 in
theorem implKeep_any (a : Option Addr) (n cap : Nat) (ss : List Slt) (k p addr to : Int) (w : World) (ha : 0 ≤ addr ∧ addr ≤ 18446744073709551615) (ht : 0 ≤ to ∧ to ≤ 18446744073709551615) (hz : ss.length = n) (hn : n ≤ 1048576) (hw : Sw ss) (hs : Ss w a ss) :
    Calls Try.prog 11 #[.agg #[.slice a n cap], .int .i64 k, .int .i64 p, .int .u64 addr, .int .u64 to] w fun e w' => ∃ a' c', e = .returned (.agg #[.slice a' (keepS ss k p addr to).length c']) ∧
      w'.ownsRow w.heap.size 60 5 (.slice a' (keepS ss k p addr to).length c') (keepS ss k p addr to).length (flatS (keepS ss k p addr to)) ∧ Below w.heap.size w w' := by
  have hB2 : ∀ o1 o2, Below w.heap.size w ((w.alloc o1).alloc o2) := fun o1 o2 => ((Below.refl _ _).alloc (Nat.le_refl _) o1).alloc (by simp) o2
  have HC := dhid (fun o1 o2 => implCacheOk_any a n cap ss ((w.alloc o1).alloc o2) hz hn hw (hs.below (hB2 o1 o2)))
  have H1 := dhid (kindOk_s k)
  have H2 := dhid (keptPriv_any p)
  obtain ⟨R, hR⟩ : ∃ R, keepS ss k p addr to = R := ⟨_, rfl⟩
  rw [hR]
  have no : (cacheB ss && kpB k p) = false → R = [] := fun h => by rw [← hR]; exact keepS_none h
  cases t0 : cacheB ss
  case false =>
    have F := no (by rw [t0]; rfl)
    subst F
    rw [t0] at HC
    clear no t0 hs hw hR
    go_enter Try.func11, Try.ntmps11
    go_wp2_with (first | (go_at_call 18; refine (HC.out _ _).mono ?_; rintro e w1 ⟨rfl, hb1⟩; obtain ⟨r0, r1⟩ := rows2 hb1; have q1 := row_at1 r1; have f1 := froz r1 0; have R1 := dhid r1; clear r0 r1))
    exact bodyPost_ret (results_cell_row Try.results11 _ _ _ _ _ _ _ rfl (row_set R1.out 0 (.slice none 0 0)) Try.underlying26 rfl cache_size) rfl ⟨none, 0, rfl, own_noneI _ _, (below_trans (hB2 _ _) hb1).setCell (by dsimp only; omega) _⟩
  cases t1 : decide (1 ≤ k ∧ k ≤ 3)
  case false =>
    have F := no (by rw [kpB, t1, t0]; rfl)
    subst F
    rw [t0] at HC
    rw [t1] at H1
    clear no t0 t1 hs hw hR
    go_enter Try.func11, Try.ntmps11
    go_wp2_with (first | (go_at_call 18; refine (HC.out _ _).mono ?_; rintro e w1 ⟨rfl, hb1⟩; obtain ⟨r0, r1⟩ := rows2 hb1; have q1 := row_at1 r1; have f1 := froz r1 0; have R1 := dhid r1; clear r0 r1) | (go_at_call 31; refine (H1.out _).mono ?_; rintro e w2 ⟨rfl, hw2⟩; subst w2))
    exact bodyPost_ret (results_cell_row Try.results11 _ _ _ _ _ _ _ rfl (row_set R1.out 0 (.slice none 0 0)) Try.underlying26 rfl cache_size) rfl ⟨none, 0, rfl, own_noneI _ _, (below_trans (hB2 _ _) hb1).setCell (by dsimp only; omega) _⟩
  cases t2 : decide (0 ≤ p ∧ p ≤ 1)
  case false =>
    have F := no (by rw [kpB, t1, t0, t2]; rfl)
    subst F
    rw [t0] at HC
    rw [t1] at H1
    rw [t2] at H2
    clear no t0 t1 t2 hs hw hR
    go_enter Try.func11, Try.ntmps11
    go_wp2_with (first | (go_at_call 18; refine (HC.out _ _).mono ?_; rintro e w1 ⟨rfl, hb1⟩; obtain ⟨r0, r1⟩ := rows2 hb1; have q1 := row_at1 r1; have f1 := froz r1 0; have R1 := dhid r1; clear r0 r1) | (go_at_call 31; refine (H1.out _).mono ?_; rintro e w2 ⟨rfl, hw2⟩; subst w2) | (go_at_call 32; refine (H2.out _).mono ?_; rintro e w2 ⟨rfl, hw2⟩; subst w2))
    exact bodyPost_ret (results_cell_row Try.results11 _ _ _ _ _ _ _ rfl (row_set R1.out 0 (.slice none 0 0)) Try.underlying26 rfl cache_size) rfl ⟨none, 0, rfl, own_noneI _ _, (below_trans (hB2 _ _) hb1).setCell (by dsimp only; omega) _⟩
  have k12 : 1 ≤ k ∧ k ≤ 3 := of_decide_eq_true t1
  have p12 : 0 ≤ p ∧ p ≤ 1 := of_decide_eq_true t2
  have h16 : n = 16 := by simp [cacheB] at t0; omega
  subst h16
  have H3 := dhid (fun w => keyPlace_any k p (addr / 4096) k12 p12 (by omega) (by omega) w)
  have PB := plS_bd k p (addr / 4096)
  obtain ⟨q, hq⟩ : ∃ q : Nat, plS k p (addr / 4096) = (q : Int) := ⟨(plS k p (addr / 4096)).toNat, by omega⟩
  rw [hq] at H3 PB
  dsimp only [keyV] at H3
  have hto : IntKind.u64.wrap (to.tdiv 4096) = to / 4096 := by rw [Int.tdiv_eq_ediv_of_nonneg ht.1]; simp [IntKind.wrap, IntKind.signed, IntKind.bits]; omega
  have LK : R = ss.set q ⟨true, k, p, addr / 4096, IntKind.u64.wrap (to.tdiv 4096)⟩ := by
    rw [hto]
    rw [← hR, keepS, t0, kpB, t1, t2, hq, Int.toNat_natCast]
    rfl
  have HL : Hid (R.length = 16) := by show R.length = 16; rw [LK, List.length_set, hz]
  have hlt : q < 16 := by omega
  have HCP := dhid (fun (w' : World) (hb : Below w.heap.size w w') => cloneS_any a 16 cap ss w' hz (by omega) (by omega) (hs.below hb))
  rw [t0] at HC
  rw [t1] at H1
  rw [t2] at H2
  rw [HL.out]
  have LKK := dhid LK
  have HZ := dhid hz
  clear no t0 t1 t2 hq LK k12 p12 hs hw hR hz hto
  go_enter Try.func11, Try.ntmps11
  go_wp2_with (first | (go_at_call 18; refine (HC.out _ _).mono ?_; rintro e w1 ⟨rfl, hb1⟩; obtain ⟨r0, r1⟩ := rows2 hb1; have q0 := fun o => row_at1 (row_alS r0 o); have R1 := dhid r1; have B1 := dhid (below_trans (hB2 _ _) hb1); clear r0 r1 hb1) | (go_at_call 31; refine (H1.out _).mono ?_; rintro e w2 ⟨rfl, hw2⟩; subst w2) | (go_at_call 32; refine (H2.out _).mono ?_; rintro e w2 ⟨rfl, hw2⟩; subst w2) | (go_at_call 33; refine (HCP.out _ (B1.out.alloc B1.out.size _)).mono ?_; rintro e W4 ⟨g, c, rfl, ow4, b4⟩))
  have hsz : w.heap.size + 1 < w1.heap.size := (Array.getElem?_eq_some_iff.1 R1.out).1
  have r4 := dstays b4 (heap_alloc_new _ _)
  have B4 := dhid (below_trans (B1.out.alloc B1.out.size _) b4)
  have r1 := dstays b4 (row_alS R1.out _)
  have z4 := (Array.getElem?_eq_some_iff.1 r4).1
  have hg0 := own_base2 ow4
  rw [World.size_alloc] at hg0
  obtain ⟨O, hO⟩ : ∃ O, O = w1.heap.size := ⟨_, rfl⟩
  rw [← hO] at r4 z4 hg0 ⊢
  have PW : Hid (∀ w', W4.grownBy w' (some g) → (w'.cell? ⟨O, 0, none⟩ = some (.int .i64 k) ∧ w'.cell? ⟨O, 1, none⟩ = some (.int .i64 p) ∧ w'.cell? ⟨O, 2, none⟩ = some (.int .u64 (addr / 4096))) ∧ W4.grownBy w' (some g)) := fun w' hb => ⟨cells3 ((hb.block O z4 (by simp; omega)).trans r4), hb⟩
  have RM : Hid (∀ w', Below W4.heap.size W4 w' → w'.ownsRow (O + 1) 60 5 (.slice (some ⟨g, 0, none⟩) 16 c) 16 (flatS ss)) := fun w' hb => by
    have := ownsRow_below ow4 hb
    rw [World.size_alloc, ← hO] at this
    exact this
  obtain ⟨d0, d1, d2⟩ := cells3 r4
  have RR := dhid r1
  have n1 : ¬ O = g := by omega
  have n2 : ¬ g = O := by omega
  have n3 : ¬ w.heap.size + 1 = g := by omega
  have n4 : ¬ g = w.heap.size + 1 := by omega
  have PG : Hid (∀ w8, Below W4.heap.size W4 w8 → W4.grownBy (((((w8.setCell ⟨g, q * 5, none⟩ (.bool true)).setCell ⟨g, q * 5 + 1, none⟩ (.int .i64 k)).setCell ⟨g, q * 5 + 2, none⟩ (.int .i64 p)).setCell ⟨g, q * 5 + 3, none⟩ (.int .u64 (addr / 4096))).setCell ⟨g, q * 5 + 4, none⟩ (.int .u64 (IntKind.u64.wrap (to.tdiv 4096)))) (some g)) := fun w8 hb => grown_trans (grown_of_below hb _) (own_put5 (RM.out _ hb) q (by have := HZ.out; omega) ⟨true, k, p, addr / 4096, IntKind.u64.wrap (to.tdiv 4096)⟩).2
  have g0 : W4.grownBy W4.drew (some g) := grown_of_below (Below.refl _ _).drew _
  have hO1 : w1.heap.size ≤ O := by omega
  clear hO q0 r4 r1 ow4 b4 HC HCP H1 H2
  go_region_held3 (fun w' => (w'.cell? ⟨O, 0, none⟩ = some (.int .i64 k) ∧ w'.cell? ⟨O, 1, none⟩ = some (.int .i64 p) ∧ w'.cell? ⟨O, 2, none⟩ = some (.int .u64 (addr / 4096))) ∧ W4.grownBy w' (some g)) (first | exact PW.out _ (by assumption)) (first | (go_at_call 34; with_reducible refine (H3.out _).mono ?_; rintro e w8 ⟨rfl, hb7⟩; have hb8 := below_trans (Below.refl W4.heap.size W4).drew hb7; obtain ⟨⟨f0, f1, f2, f3, f4⟩, s2, -, e0, e1, e2, e3, e4⟩ := own_room (RM.out _ hb8) q hlt; have g8 := grown_of_below hb8 (some g); have g9 := PG.out _ hb8))
  have P9 := own_put5 (RM.out _ hb8) q (by have := HZ.out; omega) ⟨true, k, p, addr / 4096, IntKind.u64.wrap (to.tdiv 4096)⟩
  rw [← LKK.out] at P9
  simp only [put5] at P9
  obtain ⟨W9, hW9⟩ : ∃ W, W = ((((w8.setCell ⟨g, q * 5, none⟩ (.bool true)).setCell ⟨g, q * 5 + 1, none⟩ (.int .i64 k)).setCell ⟨g, q * 5 + 2, none⟩ (.int .i64 p)).setCell ⟨g, q * 5 + 3, none⟩ (.int .u64 (addr / 4096))).setCell ⟨g, q * 5 + 4, none⟩ (.int .u64 (IntKind.u64.wrap (to.tdiv 4096))) := ⟨_, rfl⟩
  rw [← hW9] at g9 P9 ⊢
  have ow9 := dhid P9.1
  have rr9 := (g9.block (w.heap.size + 1) (by have := (Array.getElem?_eq_some_iff.1 RR.out).1; omega) (by simp; omega)).trans RR.out
  have B9 := dhid (B4.out.grown g9 B4.out.size (by intro k hk; cases hk; omega))
  have R9 := dhid rr9
  have d9 := row_at1 rr9
  have f9 := froz rr9 0
  clear hW9 P9 rr9 g9 g8 g0 PG PW RM d0 d1 d2 e0 e1 e2 e3 e4 f0 f1 f2 f3 f4 hb8 hb7 H3
  go_wp2_with fail
  have T1 := row_set R9.out 0 (.slice (some ⟨g, 0, none⟩) 16 c)
  have O1 := own_far ow9.out ⟨w.heap.size + 1, 0, none⟩ (.slice (some ⟨g, 0, none⟩) 16 c) (by intro k hk; simp [Value.ownBlock] at hk; dsimp only; omega)
  exact bodyPost_ret (results_cell_row Try.results11 _ _ _ _ _ _ _ rfl T1 Try.underlying26 rfl cache_size) rfl ⟨_, _, rfl, own_low O1 (by omega), B9.out.setCell (by dsimp only; omega) _⟩

theorem wpList_clearS {ops : Array Oper} {rest : List Oper} {o : Oper} {A : Act} {w : World} {Q : Exit → Act → World → Prop} (hgd : o.guard = none) (x : Operand) (ho : o.op = .call { callee := .builtin .clear, args := #[x], argTypes := #[24] })
    {base g n cap : Nat} {ss : List Slt} (hown : w.ownsRow base 60 5 (.slice (some ⟨g, 0, none⟩) n cap) n (flatS ss)) (i m c : Nat) (hm : 0 < m) (him : i + m ≤ n) (hx : A.eval x = .slice (some ⟨g, i * 5, none⟩) m c)
    (h : ∀ w', w'.ownsRow base 60 5 (.slice (some ⟨g, 0, none⟩) n cap) n (flatS (zeroed ss i m)) → w.grownBy w' (some g) → wpList Try.prog ops Q rest (A.put o.dst (.tuple #[])) w') : wpList Try.prog ops Q (o :: rest) A w := by
  refine wpList_plain hgd fun K hK => ?_
  obtain ⟨w', hr, h1, h2⟩ := run_clear_own hown i m c o.type hm him
  unfold Oper.wp execOp
  simp only [ho, resolve, invoke, builtin, Sem.run_bind, Sem.run_pure, Result.andThen_ok, List.map_toArray, List.map_cons, List.map_nil, hx, hr]
  exact hK _ _ (h w' h1 h2)

set_option maxRecDepth 100000 in
set_option maxHeartbeats 3200000 in
theorem implDrop_any (a : Option Addr) (n cap : Nat) (ss : List Slt) (addr : Int) (all : Bool) (w : World) (ha : 0 ≤ addr ∧ addr ≤ 18446744073709551615) (hz : ss.length = n) (hn : n ≤ 1048576) (hw : Sw ss) (hs : Ss w a ss) :
    Calls Try.prog 16 #[.agg #[.slice a n cap], .int .u64 addr, .bool all] w fun e w' => ∃ a' c', e = .returned (.agg #[.slice a' (dropS ss addr all).length c']) ∧
      w'.ownsRow w.heap.size 60 5 (.slice a' (dropS ss addr all).length c') (dropS ss addr all).length (flatS (dropS ss addr all)) ∧ Below w.heap.size w w' := by
  have hB2 : ∀ o1 o2, Below w.heap.size w ((w.alloc o1).alloc o2) := fun o1 o2 => ((Below.refl _ _).alloc (Nat.le_refl _) o1).alloc (by simp) o2
  have HC := dhid (fun o1 o2 => implCacheOk_any a n cap ss ((w.alloc o1).alloc o2) hz hn hw (hs.below (hB2 o1 o2)))
  obtain ⟨R, hR⟩ : ∃ R, dropS ss addr all = R := ⟨_, rfl⟩
  rw [hR]
  cases t0 : cacheB ss
  case false =>
    have F : R = [] := by rw [← hR, dropS, t0]; rfl
    subst F
    rw [t0] at HC
    clear t0 hs hw hR
    go_enter Try.func16, Try.ntmps16
    go_wp2_with (first | (go_at_call 18; refine (HC.out _ _).mono ?_; rintro e w1 ⟨rfl, hb1⟩; obtain ⟨r0, r1⟩ := rows2 hb1; have q1 := row_at1 r1; have f1 := froz r1 0; have R1 := dhid r1; clear r0 r1))
    exact bodyPost_ret (results_cell_row Try.results16 _ _ _ _ _ _ _ rfl (row_set R1.out 0 (.slice none 0 0)) Try.underlying26 rfl cache_size) rfl ⟨none, 0, rfl, own_noneI _ _, (below_trans (hB2 _ _) hb1).setCell (by dsimp only; omega) _⟩
  have h16 : n = 16 := by simp [cacheB] at t0; omega
  subst h16
  have ho : okTo ss 16 = true := by simp [cacheB] at t0; exact t0.2
  have LK : R = ss.map (dropOne addr all) := by rw [← hR, dropS, t0]; rfl
  have HL : Hid (R.length = 16) := by show R.length = 16; rw [LK, List.length_map, hz]
  have HCP := dhid (fun (w' : World) (hb : Below w.heap.size w w') => cloneS_any a 16 cap ss w' hz (by omega) (by omega) (hs.below hb))
  rw [t0] at HC
  rw [HL.out]
  have HO := dhid ho
  have LKK := dhid LK
  have HZ := dhid hz
  have HW := dhid hw
  clear t0 LK hs hw hR hz ho
  cases all
  case true =>
    have LA := dhid (show zeroed ss 0 16 = R by rw [LKK.out, dropS_all, zeroed_all ss 16 HZ.out, HZ.out])
    go_enter Try.func16, Try.ntmps16
    go_wp2_with (first | (go_at_call 18; refine (HC.out _ _).mono ?_; rintro e w1 ⟨rfl, hb1⟩; obtain ⟨r0, r1⟩ := rows2 hb1; have q0 := row_at1 r0; have R1 := dhid r1; have B1 := dhid (below_trans (hB2 _ _) hb1); clear r0 r1 hb1) | (go_at_call 33; refine (HCP.out _ B1.out).mono ?_; rintro e w3 ⟨g, c, rfl, ow3, hb3⟩; have OW := dhid ow3; have B3 := dhid (below_trans B1.out hb3); have R3 := dhid (dstays hb3 R1.out); have hgl := own_lt ow3; have hg0 := own_base2 ow3; clear ow3 hb3) | (refine wpList_clearS rfl (.tmp 19) rfl OW.out 0 16 c (by omega) (by omega) rfl ?_; intro w5 ow5 gr5; have rr9 := (gr5.block (w.heap.size + 1) (Array.getElem?_eq_some_iff.1 R3.out).1 (by have := (Array.getElem?_eq_some_iff.1 R1.out).1; simp; omega)).trans R3.out; have R9 := dhid rr9; have d9 := row_at1 rr9; have f9 := froz rr9 0; have OW9 := dhid ow5; have GR := dhid gr5; clear ow5 gr5 rr9))
    have hsz : w.heap.size + 1 < w1.heap.size := (Array.getElem?_eq_some_iff.1 R1.out).1
    rw [LA.out] at OW9
    have B9 := B3.out.grown GR.out B3.out.size (by intro k hk; cases hk; omega)
    have T1 := row_set R9.out 0 (.slice (some ⟨g, 0, none⟩) 16 c)
    have O1 := own_far OW9.out ⟨w.heap.size + 1, 0, none⟩ (.slice (some ⟨g, 0, none⟩) 16 c) (by intro k hk; simp [Value.ownBlock] at hk; dsimp only; omega)
    exact bodyPost_ret (results_cell_row Try.results16 _ _ _ _ _ _ _ rfl T1 Try.underlying26 rfl cache_size) rfl ⟨_, _, rfl, own_low O1 (by omega), B9.setCell (by dsimp only; omega) _⟩
  case false =>
    go_enter Try.func16, Try.ntmps16
    go_wp2_with (first | (go_at_call 18; refine (HC.out _ _).mono ?_; rintro e w1 ⟨rfl, hb1⟩; obtain ⟨r0, r1⟩ := rows2 hb1; have q0 := row_at1 r0; have R1 := dhid r1; have B1 := dhid (below_trans (hB2 _ _) hb1); clear r0 r1 hb1) | (go_at_call 33; refine (HCP.out _ B1.out).mono ?_; rintro e w3 ⟨g, c, rfl, ow3, hb3⟩; have OW := dhid ow3; have B3 := dhid (below_trans B1.out hb3); have R3 := dhid (dstays hb3 R1.out); have hgl := own_lt ow3; have hg0 := own_base2 ow3; clear ow3 hb3))
    have hsz : w.heap.size + 1 < w1.heap.size := (Array.getElem?_eq_some_iff.1 R1.out).1
    have hown0 := OW.out
    rw [← DkS_zero ss addr false] at hown0
    have hcap : 16 ≤ c := by
      rcases OW.out.2 with ⟨h, _⟩ | ⟨g', c', cur, h, _, _, h4, _⟩
      · cases h
      · simp only [Value.slice.injEq, Option.some.injEq, Addr.mk.injEq, and_true, true_and] at h
        omega
    have H0 := dhid hown0
    clear hown0 q0 HC HCP
    obtain ⟨base, hbase⟩ : ∃ base, base = w1.heap.size := ⟨_, rfl⟩
    rw [← hbase] at H0
    have hbs : w.heap.size + 1 < base := by omega
    clear hbase
    go_loopw [26] (fun i wr => ∃ j : Nat, j ≤ 16 ∧ i = .int .i64 j ∧ wr.ownsRow base 60 5 (.slice (some ⟨g, 0, none⟩) 16 c) 16 (flatS (DkS ss addr false j)) ∧ w3.grownBy wr (some g)) (fun i _ => 16 - (intOf i).toNat)
    case atStart => exact ⟨0, Nat.zero_le _, rfl, H0.out, grown_refl _ _⟩
    case round =>
      obtain ⟨j, hj, rfl, hown, hgr⟩ := hrel
      by_cases hlt : j < 16
      · obtain ⟨⟨f0, f1, f2, f3, f4⟩, s, hs, d0, d1, d2, d3, d4⟩ := own_room hown j hlt
        rw [DkS_at ss addr false 16 j HZ.out hlt] at hs
        have gb := (HW.out.get j).1
        have KEEP := dhid (fun (h : dropOne addr false (ss.getD j slt0) = ss.getD j slt0) => DkS_same ss addr false 16 j HZ.out hlt h)
        have SETS := dhid (DkS_set ss addr false 16 j HZ.out hlt)
        have DP := drop_prog HO.out addr j hlt
        rw [hs] at KEEP SETS gb DP
        have HOW := dhid (fun o => hown.alloc o)
        have HG0 := dhid (fun o => grown_trans hgr (World.grownBy_alloc wr o (some g)))
        have hdl : j < (DkS ss addr false j).length := by rw [DkS_len ss addr false 16 j HZ.out hj]; exact hlt
        obtain ⟨u, sk, sp, sg, sf⟩ := s
        dsimp only at d0 d1 d2 d3 d4 gb DP
        clear hown hgr hs f0 f1 f2 f3 f4
        cases te : (sg == addr / 4096)
        case false =>
          rw [te] at DP
          have N1 := dhid (KEEP.out DP)
          clear KEEP SETS DP
          go_wp2_with fail
          go_roundw
          case rel => exact ⟨j + 1, by omega, by go_num, by rw [N1.out]; exact HOW.out _, HG0.out _⟩
          case measure => simp [intOf]; omega
        case true =>
          rw [te] at DP
          have N1 := dhid (show zeroed (DkS ss addr false j) j 1 = DkS ss addr false (j + 1) by rw [zeroed_one _ _ hdl, ← SETS.out, DP]; rfl)
          clear KEEP SETS DP
          go_wp2_with (first | (refine wpList_clearS rfl (.tmp 39) rfl (HOW.out _) j 1 _ (by omega) (by omega) rfl ?_; intro w5 ow5 gr5; have OW9 := dhid ow5; have GR := dhid (grown_trans (HG0.out _) gr5); clear ow5 gr5))
          go_roundw
          case rel => exact ⟨j + 1, by omega, by go_num, by rw [← N1.out]; exact OW9.out, GR.out⟩
          case measure => simp [intOf]; omega
      · have : j = 16 := by omega
        subst this
        rw [DkS_end ss addr false 16 HZ.out, ← LKK.out] at hown
        have rr9 := (hgr.block (w.heap.size + 1) (Array.getElem?_eq_some_iff.1 R3.out).1 (by simp; omega)).trans R3.out
        have R9 := dhid rr9
        have d9 := row_at1 rr9
        have f9 := froz rr9 0
        have OW9 := dhid hown
        have B9 := dhid (B3.out.grown hgr B3.out.size (by intro k hk; cases hk; omega))
        clear hown hgr rr9
        go_wp2_with fail
        have T1 := row_set R9.out 0 (.slice (some ⟨g, 0, none⟩) 16 c)
        have O1 := own_far OW9.out ⟨w.heap.size + 1, 0, none⟩ (.slice (some ⟨g, 0, none⟩) 16 c) (by intro k hk; simp [Value.ownBlock] at hk; dsimp only; omega)
        exact bodyPost_ret (results_cell_row Try.results16 _ _ _ _ _ _ _ rfl T1 Try.underlying26 rfl cache_size) rfl ⟨_, _, rfl, own_low O1 (by omega), B9.out.setCell (by dsimp only; omega) _⟩

end Go.Proofs.Ytdllhjehokpefaa
