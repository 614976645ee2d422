/- The program's frames. -/
import Derived.Test.YtdllhjehokpefaaSlK
import Derived.Test.YtdllhjehokpefaaHandT
namespace Go.Proofs.Ytdllhjehokpefaa
open Go.RowKit
set_option linter.unusedVariables false

theorem run_makeF (w : World) : (Instr.makeMap 66 (some (.int .i64 16))).run Try.prog w = .ok (.map (some w.heap.size)) (w.alloc (.map #[] 0)) := by kernel_rfl

theorem heap_setBlock (w : World) (b : Nat) (o o' : Obj) (h : w.heap[b]? = some o') : (ChangeMaps.setBlock w b o).heap[b]? = some o := by
  have hb : b < w.heap.size := (Array.getElem?_eq_some_iff.1 h).1
  simp [ChangeMaps.setBlock, hb]

theorem grown_setBlock (w : World) (b : Nat) (o : Obj) : w.grownBy (ChangeMaps.setBlock w b o) (some b) :=
  ⟨rfl, rfl, rfl, by simp [ChangeMaps.setBlock], fun k hk hne => by
    have : ¬ b = k := fun e => hne (by rw [e])
    simp [ChangeMaps.setBlock, this]⟩

theorem cells5s {W : World} {g : Nat} {a b c d e : Value} {t : TypeId} (h : W.heap[g]? = some (.cells #[a, b, c, d, e] t (0, 0))) : W.cell? ⟨g, 0, none⟩ = some a ∧ W.cell? ⟨g, 1, none⟩ = some b ∧ W.cell? ⟨g, 2, none⟩ = some c ∧ W.cell? ⟨g, 3, none⟩ = some d ∧ W.cell? ⟨g, 4, none⟩ = some e := by
  refine ⟨?_, ?_, ?_, ?_, ?_⟩ <;> simp [World.cell?, h]

set_option maxRecDepth 100000 in
set_option maxHeartbeats 3200000 in
theorem frames_any (a : Option Addr) (cap : Nat) (ss : List Slt) (w : World) (hz : ss.length = 16) (ho : okTo ss 16 = true) (hs : Ss w a ss) :
    Calls Try.prog 40 #[.agg #[.slice a 16 cap]] w fun e w' => ∃ bm, e = .returned (.map (some bm)) ∧ w'.heap[bm]? = some (.map (fEs (usedTo ss 16)) (usedTo ss 16).length) ∧ Below w.heap.size w w' := by
  have HZ := dhid hz
  have HO := dhid ho
  have HS := dhid hs
  have hmk := run_makeF
  clear hz ho hs
  go_enter Try.func40, Try.ntmps40
  go_wp2_with fail
  obtain ⟨W, hW⟩ : ∃ W, W = (w.alloc (.cells #[.slice a 16 cap] 26)).alloc (.map #[] 0) := ⟨_, rfl⟩
  rw [← hW]
  have BW := dhid (show Below w.heap.size w W by rw [hW]; exact ((Below.refl _ _).alloc (Nat.le_refl _) _).alloc (by simp) _)
  have MW := dhid (show W.heap[w.heap.size + 1]? = some (.map (fEs (usedTo ss 0)) (usedTo ss 0).length) by rw [hW]; have := heap_alloc_new (w.alloc (.cells #[.slice a 16 cap] 26)) (.map #[] 0); rw [World.size_alloc] at this; exact this)
  have zW : W.heap.size = w.heap.size + 1 + 1 := by rw [hW]; simp
  clear hW hmk
  go_loopw [10] (fun i wr => ∃ k : Nat, k ≤ 16 ∧ i = .int .i64 k ∧ Hid (wr.heap[w.heap.size + 1]? = some (.map (fEs (usedTo ss k)) (usedTo ss k).length)) ∧ W.grownBy wr (some (w.heap.size + 1))) (fun i _ => 16 - (intOf i).toNat)
  case atStart => exact ⟨0, by omega, rfl, MW, grown_refl _ _⟩
  case round =>
    obtain ⟨k, hk, rfl, hm, hgr⟩ := hrel
    have hbw : Below w.heap.size w wr := BW.out.grown hgr BW.out.size (by intro k hk; cases hk; omega)
    by_cases hlt : k < 16
    · obtain ⟨s, hss⟩ : ∃ s, ss.getD k slt0 = s := ⟨_, rfl⟩
      obtain ⟨b, off, rfl, hb, c0, c1, c2, c3, c4⟩ := (HS.out.below hbw).at k (by have := HZ.out; omega) s hss
      have NU := usedTo_succ ss k (by have := HZ.out; omega)
      have NEW := dhid (fun (h : (ss.getD k slt0).u = true) => key_new HO.out hlt h)
      rw [hss] at NU NEW
      have HK := dhid (fun w => slotKey_any s w)
      obtain ⟨u, kk, p, g, f⟩ := s
      dsimp only [Slt.v, keyV] at c0 c1 c2 c3 c4 HK NU NEW
      have HGR := dhid hgr
      have zz := hgr.size
      cases u
      · simp only [Bool.false_eq_true, if_false] at NU
        have NN := dhid NU
        clear hgr hbw NEW HK NU hss hb
        go_wp2_with fail
        go_roundw
        case rel => exact ⟨k + 1, by omega, by go_num, by rw [NN.out]; show _ = _; rw [Below.heap_alloc _ _ _ (by omega)]; exact hm.out, grown_trans HGR.out (World.grownBy_alloc _ _ _)⟩
        case measure => simp [intOf]; omega
      · simp only [if_true] at NU
        have NN := dhid NU
        have NW := dhid (NEW.out rfl)
        clear hgr hbw NEW NU hss hb
        go_wp2_with fail
        obtain ⟨W4, hW4⟩ : ∃ W', W' = wr.alloc (.cells #[.bool true, .int .i64 kk, .int .i64 p, .int .u64 g, .int .u64 f] 60) := ⟨_, rfl⟩
        rw [← hW4]
        obtain ⟨O, hO⟩ : ∃ O, O = wr.heap.size := ⟨_, rfl⟩
        have r4 : W4.heap[wr.heap.size]? = some (.cells #[.bool true, .int .i64 kk, .int .i64 p, .int .u64 g, .int .u64 f] 60 (0, 0)) := by rw [hW4]; exact heap_alloc_new _ _
        have m4 : Hid (W4.heap[w.heap.size + 1]? = some (.map (fEs (usedTo ss k)) (usedTo ss k).length)) := by show _ = _; rw [hW4, Below.heap_alloc _ _ _ (by omega)]; exact hm.out
        have G4 : Hid (W.grownBy W4 (some (w.heap.size + 1))) := by rw [hW4]; exact grown_trans HGR.out (World.grownBy_alloc _ _ _)
        have z4 : wr.heap.size < W4.heap.size := by rw [hW4]; simp
        rw [← hO] at r4 z4 ⊢
        have n0 : ¬ O = w.heap.size + 1 := by omega
        clear hW4 hO c0 c1 c2 c3 c4 hm
        have PW : Hid (∀ w', W4.grownBy w' (some (w.heap.size + 1)) → (w'.cell? ⟨O, 0, none⟩ = some (.bool true) ∧ w'.cell? ⟨O, 1, none⟩ = some (.int .i64 kk) ∧ w'.cell? ⟨O, 2, none⟩ = some (.int .i64 p) ∧ w'.cell? ⟨O, 3, none⟩ = some (.int .u64 g) ∧ w'.cell? ⟨O, 4, none⟩ = some (.int .u64 f)) ∧ W4.grownBy w' (some (w.heap.size + 1))) := fun w' hb => ⟨cells5s ((hb.block O z4 (by simp; omega)).trans r4), hb⟩
        have g0 : W4.grownBy W4.drew (some (w.heap.size + 1)) := grown_of_below (Below.refl _ _).drew _
        obtain ⟨L1, hL1⟩ : ∃ L1, L1 = (usedTo ss (k + 1)).length := ⟨_, rfl⟩
        obtain ⟨E1, hE1⟩ : ∃ E1, E1 = fEs (usedTo ss (k + 1)) := ⟨_, rfl⟩
        have LL := dhid hL1
        have EE := dhid hE1
        have UP : Hid (∀ w8, Below W4.heap.size W4 w8 → (Instr.mapUpdate 66 (.map (some (w.heap.size + 1))) (.agg #[.int .i64 kk, .int .i64 p, .int .u64 g]) (.int .u64 f)).run Try.prog w8 = .ok () (ChangeMaps.setBlock w8 (w.heap.size + 1) (.map E1 L1))) := fun w8 hb => by
          rw [hL1, hE1, NN.out]
          exact run_updF w8 (w.heap.size + 1) (usedTo ss k) ⟨true, kk, p, g, f⟩ (dstays hb m4.out) NW.out
        clear hL1 hE1
        obtain ⟨cs0, cs1, cs2, cs3, cs4⟩ := cells5s r4
        go_region_held3 (fun w' => (w'.cell? ⟨O, 0, none⟩ = some (.bool true) ∧ w'.cell? ⟨O, 1, none⟩ = some (.int .i64 kk) ∧ w'.cell? ⟨O, 2, none⟩ = some (.int .i64 p) ∧ w'.cell? ⟨O, 3, none⟩ = some (.int .u64 g) ∧ w'.cell? ⟨O, 4, none⟩ = some (.int .u64 f)) ∧ W4.grownBy w' (some (w.heap.size + 1))) (first | exact PW.out _ (by assumption)) (first | (go_at_call 55; with_reducible refine (HK.out _).mono ?_; rintro e w8 ⟨rfl, hb8⟩; have hb9 := below_trans (Below.refl W4.heap.size W4).drew hb8; have g8 := grown_of_below hb9 (some (w.heap.size + 1)); have hup := UP.out _ hb9; have g9 := grown_trans g8 (grown_setBlock w8 (w.heap.size + 1) (.map E1 L1))))
        obtain ⟨W9, hW9⟩ : ∃ W', W' = ChangeMaps.setBlock w8 (w.heap.size + 1) (.map E1 L1) := ⟨_, rfl⟩
        rw [← hW9] at g9 ⊢
        have M9 := dhid (show W9.heap[w.heap.size + 1]? = some (.map (fEs (usedTo ss (k + 1))) (usedTo ss (k + 1)).length) by rw [hW9, ← LL.out, ← EE.out]; exact heap_setBlock w8 _ _ _ (dstays hb9 m4.out))
        have G9 := dhid (grown_trans G4.out g9)
        clear hW9 g9 hup g8 hb9 hb8 g0 PW UP cs0 cs1 cs2 cs3 cs4 r4 HK
        go_wp2_with fail
        go_roundw
        case rel => exact ⟨k + 1, by omega, by go_num, M9, G9.out⟩
        case measure => simp [intOf]; omega
    · have : k = 16 := by omega
      subst this
      go_wp2_with fail
      go_ret
      exact ⟨_, rfl, hm.out, hbw⟩

end Go.Proofs.Ytdllhjehokpefaa
