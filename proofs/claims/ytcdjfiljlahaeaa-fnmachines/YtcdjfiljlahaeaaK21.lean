/- Own lemmas. -/
import Derived.Test.YtcdjfiljlahaeaaHandT
import Derived.Test.YtcdjfiljlahaeaaK12
import Derived.Deep.Cut
namespace Go.Proofs.Ytcdjfiljlahaeaa
open Go.RowKit
set_option linter.unusedVariables false

set_option maxRecDepth 100000 in
set_option maxHeartbeats 12800000 in
theorem implNewMachine_any (ad : Option Addr) (n cap : Nat) (ram : List Int) (w : World) (hz : ram.length = n) (hn : n ≤ 1048576) (hs : Sl .u8 w ad ram) :
    Calls Try.prog 7 #[.slice ad n cap] w fun e w' => ∃ C : MA, e = .returned (.tuple #[.agg (mvc (newM ram) C), .bool (ramOkB n)]) ∧ Fam w.heap.size w'.heap.size w' (mvF (newM ram) C) ∧ Below w.heap.size w w' := by
  have B0 : Below w.heap.size w (w.alloc (.cells #[.int .u64 0, .slice none 0 0, .int .i64 0, .slice none 0 0, .slice none 0 0, .int .u64 0, .int .u64 0, .bool false, .slice none 0 0, .slice none 0 0, .int .i64 0, .int .u64 0, .bool false, .bool false] 30)) := (Below.refl _ _).alloc (Nat.le_refl _) _
  have rb : (w.alloc (.cells #[.int .u64 0, .slice none 0 0, .int .i64 0, .slice none 0 0, .slice none 0 0, .int .u64 0, .int .u64 0, .bool false, .slice none 0 0, .slice none 0 0, .int .i64 0, .int .u64 0, .bool false, .bool false] 30)).heap[w.heap.size]? = some (.cells #[.int .u64 0, .slice none 0 0, .int .i64 0, .slice none 0 0, .slice none 0 0, .int .u64 0, .int .u64 0, .bool false, .slice none 0 0, .slice none 0 0, .int .i64 0, .int .u64 0, .bool false, .bool false] 30) := heap_alloc_new _ _
  obtain ⟨Q, hQ⟩ : ∃ Q : World → Prop, Q = fun W => Below (w.heap.size + 1) (w.alloc (.cells #[.int .u64 0, .slice none 0 0, .int .i64 0, .slice none 0 0, .slice none 0 0, .int .u64 0, .int .u64 0, .bool false, .slice none 0 0, .slice none 0 0, .int .i64 0, .int .u64 0, .bool false, .bool false] 30)) W := ⟨_, rfl⟩
  have PB : Hid (∀ W W', Q W → Below W.heap.size W W' → Q W') := by rw [hQ]; exact fun W W' h hb => h.trans (hb.mono (by have := h.size; simp only [World.size_alloc] at this; omega))
  have PU : Hid (∀ W g, Q W → w.heap.size + 1 ≤ g → ∀ cs, Q (W.setRow g cs)) := by rw [hQ]; exact fun W g h hg => below_row9 h hg
  have PE : Hid (∀ W, Q W → Below w.heap.size w W) := by rw [hQ]; exact fun W h => B0.trans (h.mono (by omega))
  have PZ : Hid (∀ W, Q W → w.heap.size + 1 ≤ W.heap.size) := by rw [hQ]; exact fun W h => by have := h.size; simp only [World.size_alloc] at this; omega
  have PR : Hid (∀ W, Q W → W.heap[w.heap.size]? = some (.cells #[.int .u64 0, .slice none 0 0, .int .i64 0, .slice none 0 0, .slice none 0 0, .int .u64 0, .int .u64 0, .bool false, .slice none 0 0, .slice none 0 0, .int .i64 0, .int .u64 0, .bool false, .bool false] 30)) := by rw [hQ]; exact fun W h => (h.block _ (by omega)).trans rb
  have PK : Hid (∀ W W' L B E, Q W → KeepL L W W' → Fam B E W L → w.heap.size + 1 ≤ B → Q W') := by rw [hQ]; exact fun W W' L B E h k f hB => h.trans ((k.keep f).below hB (by have := h.size; simp only [World.size_alloc] at this; omega))
  have q0 : Q (w.alloc (.cells #[.int .u64 0, .slice none 0 0, .int .i64 0, .slice none 0 0, .slice none 0 0, .int .u64 0, .int .u64 0, .bool false, .slice none 0 0, .slice none 0 0, .int .i64 0, .int .u64 0, .bool false, .bool false] 30)) := by rw [hQ]; exact Below.refl _ _
  have KS : Hid (∀ w', Q w' → Q w') := fun w' h => h
  have HOK : Hid (∀ w, Calls Try.prog 10 #[.slice ad n cap] w fun e w' => e = .returned (.bool (ramOkB n)) ∧ w' = w) := fun w => implRamOk_any _ _ _ w hn
  have HNC : Hid (∀ w, Calls Try.prog 21 #[] w fun e w' => e = .returned (.slice (some ⟨w.heap.size, 0, none⟩) 22 22) ∧ w'.ownsRow w.heap.size 25 1 (.slice (some ⟨w.heap.size, 0, none⟩) 22 22) 22 ((List.replicate 22 (0 : Int)).map (Value.int .u64)) ∧ Below w.heap.size w w') := implNewCsrs_any
  have HLN : Hid (∀ (C : MA) (b B E : Nat) (w' : World), w'.heap[b]? = some (.cells #[.int .u64 2147483648, .slice C.ax 32 C.cx, .int .i64 3, .slice C.ac 22 C.cc, .slice C.ar n C.cr, .int .u64 0, .int .u64 0, .bool false, .slice C.ai 0 C.ci, .slice C.ao 0 C.co, .int .i64 0, .int .u64 0, .bool false, .bool false] 30 (0, 0)) → Fam B E w' (mvF (rawM ram) C) → (∀ q ∈ mvF (rawM ram) C, q.v.ownBlock ≠ some b) → Calls Try.prog 23 #[.pointer (some ⟨b, 0, none⟩)] w' fun e w'' => e = .returned (.tuple #[]) ∧ w''.heap[b]? = some (.cells #[.int .u64 2147483648, .slice C.ax 32 C.cx, .int .i64 3, .slice C.ac 22 C.cc, .slice C.ar n C.cr, .int .u64 0, .int .u64 0, .bool false, .slice C.ai 0 C.ci, .slice C.ao 0 C.co, .int .i64 0, .int .u64 0, .bool false, .bool false] 30 (0, 0)) ∧ Fam B E w'' (mvF (lineM (rawM ram)) C) ∧ KeepL (mvF (rawM ram) C) w' w'') := fun C b B E w' hr hf hb => by
    subst hz
    have h2 := tellLines_any (rawM ram) C b B E w' rfl (raw_len ram hn) hr hf hb
    rw [mvc_lineD] at h2
    rw [lineD_eq (by rfl : okD (rawM ram).d.xs.length (rawM ram).d.ys.length (rawM ram).d.ir = true)] at h2
    exact h2
  have HMV : Hid (∀ C : MA, mvc (lineM (rawM ram)) C = #[.int .u64 2147483648, .slice C.ax 32 C.cx, .int .i64 3, .slice C.ac 22 C.cc, .slice C.ar n C.cr, .int .u64 0, .int .u64 0, .bool false, .slice C.ai 0 C.ci, .slice C.ao 0 C.co, .int .i64 0, .int .u64 0, .bool false, .bool false]) := fun C => by subst hz; exact (mvc_line (rawM ram) C).trans rfl
  obtain ⟨V, hV⟩ : ∃ V, V = newM ram := ⟨_, rfl⟩
  rw [← hV]
  have HCL : Hid (∀ W, Q W → Calls Try.prog 22 #[.slice ad n cap] W fun e W' => ∃ (ka : Option Addr) (kc : Nat), e = .returned (.slice ka n kc) ∧ W'.ownsRow W.heap.size 5 1 (.slice ka n kc) n (ram.map (Value.int .u8)) ∧ Below W.heap.size W W') := fun W h => clone_any _ _ _ ram W hz hn (hs.below (PE.out W h))
  clear hQ rb
  cases hok : ramOkB n with
  | false =>
    have F : Hid (V = zeroM) := by show _ = _; rw [hV]; unfold newM; rw [hz, hok]; rfl
    rw [hok] at HOK
    clear HNC HLN hV HMV hs hz hn hok HCL
    go_enter Try.func7, Try.ntmps7
    go_wp2_with fail
    refine (HOK.out _).mono ?_
    rintro e w1 ⟨rfl, hw1⟩
    subst hw1
    go_wp2_with fail
    exact bodyPost_ret (results_ct8 Try.results7 _ _ _ _ _ _ _ rfl (PR.out _ q0) Try.underlying30 rfl mac_size) rfl ⟨zeroA, by rw [F.out]; rfl, by rw [F.out]; exact fam_zeroM _ _ _, PE.out _ q0⟩
  | true =>
    have F : Hid (V = lineM (rawM ram)) := by show _ = _; rw [hV]; unfold newM; rw [hz, hok]; rfl
    have hpos := ramOk_pos hok
    rw [hok] at HOK
    have HN : Hid (ram.length = n ∧ 0 < n ∧ n ≤ 1048576) := ⟨hz, hpos, hn⟩
    clear hs hz hn hok hpos hV
    go_enter Try.func7, Try.ntmps7
    go_wp2_with fail
    refine (HOK.out _).mono ?_
    rintro e w1 ⟨rfl, hw1⟩
    subst hw1
    go_wp2_with fail
    go_cut [4] from 5 (fun y wc => ∃ (r : Nat) (C : MA), y = .pointer (some ⟨r, 0, none⟩) ∧ Hid (wc.heap[r]? = some (.cells #[.int .u64 2147483648, .slice C.ax 32 C.cx, .int .i64 3, .slice C.ac 22 C.cc, .slice C.ar n C.cr, .int .u64 0, .int .u64 0, .bool false, .slice none 0 0, .slice none 0 0, .int .i64 0, .int .u64 0, .bool false, .bool false] 30 (0, 0)) ∧ Fam (w.heap.size + 1) wc.heap.size wc ([wRow C.ax 32 C.cx (List.replicate 32 0), wRow C.ac 22 C.cc (List.replicate 22 0), bRow C.ar n C.cr ram, bRow none 0 0 [], bRow none 0 0 []]) ∧ (∀ q ∈ [wRow C.ax 32 C.cx (List.replicate 32 0), wRow C.ac 22 C.cc (List.replicate 22 0), bRow C.ar n C.cr ram, bRow none 0 0 [], bRow none 0 0 []], q.v.ownBlock ≠ some r) ∧ w.heap.size + 1 ≤ r ∧ Q wc) ∧ C.ai = none ∧ C.ci = 0 ∧ C.ao = none ∧ C.co = 0)
    case first =>
      obtain ⟨v0, hv0⟩ : ∃ W, W = (w.alloc (.cells #[.int .u64 0, .slice none 0 0, .int .i64 0, .slice none 0 0, .slice none 0 0, .int .u64 0, .int .u64 0, .bool false, .slice none 0 0, .slice none 0 0, .int .i64 0, .int .u64 0, .bool false, .bool false] 30)).drew := ⟨_, rfl⟩
      have p0 := PB.out _ _ q0 (Below.refl _ _).drew
      rw [← hv0] at p0
      have hz0 := PZ.out _ p0
      refine wp_region_held_drew (S := Q) (by kernel_rfl) (by rw [← hv0]; exact p0) (fun hHeld => ?_)
      rw [← hv0] at hHeld ⊢
      clear hv0
      refine tkL 2 11 (.slice ad n cap) ?_
      refine wpAnyH_ready (rs := [0, 1, 5]) (by kernel_rfl) (by simp) ?_
      refine AllReadyH.cons (o := { dst := some 9, op := _, type := _, pos := _, after := _, guard := _ }) rfl (fun K hK => ?_) (AllReadyH.cons (o := { dst := some 10, op := _, type := _, pos := _, after := _, guard := _ }) rfl (fun K hK => ?_) (AllReadyH.cons (o := { dst := some 4, op := _, type := _, pos := _, after := _, guard := _ }) rfl (fun K hK => ?_) AllReadyH.nil))
      · refine wpH_make (by rfl) 32 (.const (.int .i64 32)) (.const (.int .i64 32)) rfl rfl rfl (by omega) ?_
        intro v1 ow hb1
        have fx := dhid (fam_one (q := wRow (some ⟨v0.heap.size, 0, none⟩) 32 32 (List.replicate 32 0)) ow hb1)
        clear ow
        simp only [Act.put, List.setIfInBounds_toArray, List.set_cons_zero, List.set_cons_succ]
        have hs1 := hb1.size
        have q1 := PB.out _ _ p0 hb1
        clear hb1
        refine hK.out _ _ (KS.out _ q1) (fun hHeld => ?_)
        clear hK
        as_aux_lemma =>
          refine wpAnyH_ready (rs := [1, 5]) (by kernel_rfl) (by simp) ?_
          refine AllReadyH.cons (o := { dst := some 10, op := _, type := _, pos := _, after := _, guard := _ }) rfl (fun K hK => ?_) (AllReadyH.cons (o := { dst := some 4, op := _, type := _, pos := _, after := _, guard := _ }) rfl (fun K hK => ?_) AllReadyH.nil)
          · go_simp
            refine (HNC.out _).mono ?_
            rintro e v2 ⟨rfl, ow, hb2⟩
            have fc := dhid (fam_one (q := wRow (some ⟨v1.heap.size, 0, none⟩) 22 22 (List.replicate 22 0)) ow hb2)
            clear ow
            have fx := dhid (fx.out.below hb2)
            have hs2 := hb2.size
            have q2 := PB.out _ _ q1 hb2
            clear hb2
            refine hK.out _ _ (KS.out _ q2) (fun hHeld => ?_)
            clear hK
            refine wpAnyH_ready (rs := [3, 5]) (by kernel_rfl) (by simp) ?_
            refine AllReadyH.cons (o := { dst := some 12, op := _, type := _, pos := _, after := _, guard := _ }) rfl (fun K hK => ?_) (AllReadyH.cons (o := { dst := some 4, op := _, type := _, pos := _, after := _, guard := _ }) rfl (fun K hK => ?_) AllReadyH.nil)
            · go_simp
              refine (HCL.out _ q2).mono ?_
              rintro e v3 ⟨ar, cr, rfl, ow, hb3⟩
              have fr := dhid (fam_one (q := bRow ar n cr ram) ow hb3)
              clear ow
              have fx := dhid (fx.out.below hb3)
              have fc := dhid (fc.out.below hb3)
              have hs3 := hb3.size
              have q3 := PB.out _ _ q2 hb3
              clear hb3
              refine hK.out _ _ (KS.out _ q3) (fun hHeld => ?_)
              clear hK
              refine wpAnyH_take (i := 4) (oi := { dst := some 13, op := _, type := _, pos := _, after := _, guard := _ }) (v := .agg #[.int .u64 2147483648, .slice (some ⟨v0.heap.size, 0, none⟩) 32 32, .int .i64 3, .slice (some ⟨v1.heap.size, 0, none⟩) 22 22, .slice ar n cr, .int .u64 0, .int .u64 0, .bool false, .slice none 0 0, .slice none 0 0, .int .i64 0, .int .u64 0, .bool false, .bool false]) rfl (by kernel_rfl) (by kernel_rfl) (by kernel_rfl) (fun _ _ _ h => h) (Or.inl ⟨by rfl, ?_⟩) (by assumption) ?_
              · intro w' hSw
                exact yields_build _ _ rfl [(0, .int .u64 2147483648), (1, .slice (some ⟨v0.heap.size, 0, none⟩) 32 32), (2, .int .i64 3), (3, .slice (some ⟨v1.heap.size, 0, none⟩) 22 22), (4, .slice ar n cr)] rfl _ (raw_built _ _ _ _ _)
              simp only [Act.put, List.setIfInBounds_toArray, List.set_cons_zero, List.set_cons_succ]
              refine rdy 5 4 (fun K hK => ?_)
              go_simp
              obtain ⟨v4, hk⟩ : ∃ W, W = v3.alloc (.cells #[.int .u64 0, .slice none 0 0, .int .i64 0, .slice none 0 0, .slice none 0 0, .int .u64 0, .int .u64 0, .bool false, .slice none 0 0, .slice none 0 0, .int .i64 0, .int .u64 0, .bool false, .bool false] 30) := ⟨_, rfl⟩
              rw [← hk]
              have hb4 : Below v3.heap.size v3 v4 := by rw [hk]; exact (Below.refl _ _).alloc (Nat.le_refl _) _
              have hra : Hid (v4.heap[v3.heap.size]? = some (.cells #[.int .u64 0, .slice none 0 0, .int .i64 0, .slice none 0 0, .slice none 0 0, .int .u64 0, .int .u64 0, .bool false, .slice none 0 0, .slice none 0 0, .int .i64 0, .int .u64 0, .bool false, .bool false] 30)) := by rw [hk]; exact heap_alloc_new _ _
              have hza : v3.heap.size < v4.heap.size := by rw [hk, World.size_alloc]; omega
              clear hk
              have fx := dhid (fx.out.below hb4)
              have fc := dhid (fc.out.below hb4)
              have fr := dhid (fr.out.below hb4)
              have hs4 := hb4.size
              have q4 := PB.out _ _ q3 hb4
              clear hb4
              refine hK.out _ _ (KS.out _ q4) (fun hHeld => ?_)
              clear hK
              refine wpAnyH_ready (rs := [6]) (by kernel_rfl) (by simp) ?_
              refine AllReadyH.cons (o := { dst := none, op := _, type := _, pos := _, after := _, guard := _ }) rfl (fun K hK => ?_) AllReadyH.nil
              refine wpH_row (by rfl) 30 (.tmp 4) (.tmp 13) rfl v3.heap.size rfl #[.int .u64 0, .slice none 0 0, .int .i64 0, .slice none 0 0, .slice none 0 0, .int .u64 0, .int .u64 0, .bool false, .slice none 0 0, .slice none 0 0, .int .i64 0, .int .u64 0, .bool false, .bool false] #[.int .u64 2147483648, .slice (some ⟨v0.heap.size, 0, none⟩) 32 32, .int .i64 3, .slice (some ⟨v1.heap.size, 0, none⟩) 22 22, .slice ar n cr, .int .u64 0, .int .u64 0, .bool false, .slice none 0 0, .slice none 0 0, .int .i64 0, .int .u64 0, .bool false, .bool false] rfl 30 hra.out mac_size rfl (raw_one _ _ _ _ _) ?_
              simp only [Act.put]
              have hqe := PU.out _ v3.heap.size q4 (by omega) #[.int .u64 2147483648, .slice (some ⟨v0.heap.size, 0, none⟩) 32 32, .int .i64 3, .slice (some ⟨v1.heap.size, 0, none⟩) 22 22, .slice ar n cr, .int .u64 0, .int .u64 0, .bool false, .slice none 0 0, .slice none 0 0, .int .i64 0, .int .u64 0, .bool false, .bool false]
              refine hK.out _ _ (KS.out _ hqe) (fun hHeld => ?_)
              clear hK
              refine wpAnyH_done (by kernel_rfl) ?_ _
              go_wp2_with fail
              go_meet
              exact ⟨v3.heap.size, ⟨some ⟨v0.heap.size, 0, none⟩, 32, some ⟨v1.heap.size, 0, none⟩, 22, ar, cr, none, 0, none, 0⟩, rfl, ⟨setRow_heap _ _ _ _ _ _ hra.out, (fam_setRow (fam_new (B := w.heap.size + 1) (E := v4.heap.size) fx.out fc.out fr.out (by omega) (by omega) (by omega) (by omega) (by omega) (by omega)) v3.heap.size (new_ne fx.out fc.out fr.out (by omega) (by omega) (by omega)) #[.int .u64 2147483648, .slice (some ⟨v0.heap.size, 0, none⟩) 32 32, .int .i64 3, .slice (some ⟨v1.heap.size, 0, none⟩) 22 22, .slice ar n cr, .int .u64 0, .int .u64 0, .bool false, .slice none 0 0, .slice none 0 0, .int .i64 0, .int .u64 0, .bool false, .bool false]).low (Nat.le_refl _) (by rw [setRow_size]; exact Nat.le_refl _), new_ne fx.out fc.out fr.out (by omega) (by omega) (by omega), by omega, hqe⟩, rfl, rfl, rfl, rfl⟩
            · go_simp
              obtain ⟨v3, hk⟩ : ∃ W, W = v2.alloc (.cells #[.int .u64 0, .slice none 0 0, .int .i64 0, .slice none 0 0, .slice none 0 0, .int .u64 0, .int .u64 0, .bool false, .slice none 0 0, .slice none 0 0, .int .i64 0, .int .u64 0, .bool false, .bool false] 30) := ⟨_, rfl⟩
              rw [← hk]
              have hb3 : Below v2.heap.size v2 v3 := by rw [hk]; exact (Below.refl _ _).alloc (Nat.le_refl _) _
              have hra : Hid (v3.heap[v2.heap.size]? = some (.cells #[.int .u64 0, .slice none 0 0, .int .i64 0, .slice none 0 0, .slice none 0 0, .int .u64 0, .int .u64 0, .bool false, .slice none 0 0, .slice none 0 0, .int .i64 0, .int .u64 0, .bool false, .bool false] 30)) := by rw [hk]; exact heap_alloc_new _ _
              have hza : v2.heap.size < v3.heap.size := by rw [hk, World.size_alloc]; omega
              clear hk
              have fx := dhid (fx.out.below hb3)
              have fc := dhid (fc.out.below hb3)
              have hs3 := hb3.size
              have q3 := PB.out _ _ q2 hb3
              clear hb3
              refine hK.out _ _ (KS.out _ q3) (fun hHeld => ?_)
              clear hK
              refine rdy 3 12 (fun K hK => ?_)
              go_simp
              refine (HCL.out _ q3).mono ?_
              rintro e v4 ⟨ar, cr, rfl, ow, hb4⟩
              have fr := dhid (fam_one (q := bRow ar n cr ram) ow hb4)
              clear ow
              have fx := dhid (fx.out.below hb4)
              have fc := dhid (fc.out.below hb4)
              have hra := dhid (dstays hb4 hra.out)
              have hs4 := hb4.size
              have q4 := PB.out _ _ q3 hb4
              clear hb4
              refine hK.out _ _ (KS.out _ q4) (fun hHeld => ?_)
              clear hK
              refine wpAnyH_take (i := 4) (oi := { dst := some 13, op := _, type := _, pos := _, after := _, guard := _ }) (v := .agg #[.int .u64 2147483648, .slice (some ⟨v0.heap.size, 0, none⟩) 32 32, .int .i64 3, .slice (some ⟨v1.heap.size, 0, none⟩) 22 22, .slice ar n cr, .int .u64 0, .int .u64 0, .bool false, .slice none 0 0, .slice none 0 0, .int .i64 0, .int .u64 0, .bool false, .bool false]) rfl (by kernel_rfl) (by kernel_rfl) (by kernel_rfl) (fun _ _ _ h => h) (Or.inl ⟨by rfl, ?_⟩) (by assumption) ?_
              · intro w' hSw
                exact yields_build _ _ rfl [(0, .int .u64 2147483648), (1, .slice (some ⟨v0.heap.size, 0, none⟩) 32 32), (2, .int .i64 3), (3, .slice (some ⟨v1.heap.size, 0, none⟩) 22 22), (4, .slice ar n cr)] rfl _ (raw_built _ _ _ _ _)
              simp only [Act.put, List.setIfInBounds_toArray, List.set_cons_zero, List.set_cons_succ]
              refine wpAnyH_ready (rs := [6]) (by kernel_rfl) (by simp) ?_
              refine AllReadyH.cons (o := { dst := none, op := _, type := _, pos := _, after := _, guard := _ }) rfl (fun K hK => ?_) AllReadyH.nil
              refine wpH_row (by rfl) 30 (.tmp 4) (.tmp 13) rfl v2.heap.size rfl #[.int .u64 0, .slice none 0 0, .int .i64 0, .slice none 0 0, .slice none 0 0, .int .u64 0, .int .u64 0, .bool false, .slice none 0 0, .slice none 0 0, .int .i64 0, .int .u64 0, .bool false, .bool false] #[.int .u64 2147483648, .slice (some ⟨v0.heap.size, 0, none⟩) 32 32, .int .i64 3, .slice (some ⟨v1.heap.size, 0, none⟩) 22 22, .slice ar n cr, .int .u64 0, .int .u64 0, .bool false, .slice none 0 0, .slice none 0 0, .int .i64 0, .int .u64 0, .bool false, .bool false] rfl 30 hra.out mac_size rfl (raw_one _ _ _ _ _) ?_
              simp only [Act.put]
              have hqe := PU.out _ v2.heap.size q4 (by omega) #[.int .u64 2147483648, .slice (some ⟨v0.heap.size, 0, none⟩) 32 32, .int .i64 3, .slice (some ⟨v1.heap.size, 0, none⟩) 22 22, .slice ar n cr, .int .u64 0, .int .u64 0, .bool false, .slice none 0 0, .slice none 0 0, .int .i64 0, .int .u64 0, .bool false, .bool false]
              refine hK.out _ _ (KS.out _ hqe) (fun hHeld => ?_)
              clear hK
              refine wpAnyH_done (by kernel_rfl) ?_ _
              go_wp2_with fail
              go_meet
              exact ⟨v2.heap.size, ⟨some ⟨v0.heap.size, 0, none⟩, 32, some ⟨v1.heap.size, 0, none⟩, 22, ar, cr, none, 0, none, 0⟩, rfl, ⟨setRow_heap _ _ _ _ _ _ hra.out, (fam_setRow (fam_new (B := w.heap.size + 1) (E := v4.heap.size) fx.out fc.out fr.out (by omega) (by omega) (by omega) (by omega) (by omega) (by omega)) v2.heap.size (new_ne fx.out fc.out fr.out (by omega) (by omega) (by omega)) #[.int .u64 2147483648, .slice (some ⟨v0.heap.size, 0, none⟩) 32 32, .int .i64 3, .slice (some ⟨v1.heap.size, 0, none⟩) 22 22, .slice ar n cr, .int .u64 0, .int .u64 0, .bool false, .slice none 0 0, .slice none 0 0, .int .i64 0, .int .u64 0, .bool false, .bool false]).low (Nat.le_refl _) (by rw [setRow_size]; exact Nat.le_refl _), new_ne fx.out fc.out fr.out (by omega) (by omega) (by omega), by omega, hqe⟩, rfl, rfl, rfl, rfl⟩
          · go_simp
            obtain ⟨v2, hk⟩ : ∃ W, W = v1.alloc (.cells #[.int .u64 0, .slice none 0 0, .int .i64 0, .slice none 0 0, .slice none 0 0, .int .u64 0, .int .u64 0, .bool false, .slice none 0 0, .slice none 0 0, .int .i64 0, .int .u64 0, .bool false, .bool false] 30) := ⟨_, rfl⟩
            rw [← hk]
            have hb2 : Below v1.heap.size v1 v2 := by rw [hk]; exact (Below.refl _ _).alloc (Nat.le_refl _) _
            have hra : Hid (v2.heap[v1.heap.size]? = some (.cells #[.int .u64 0, .slice none 0 0, .int .i64 0, .slice none 0 0, .slice none 0 0, .int .u64 0, .int .u64 0, .bool false, .slice none 0 0, .slice none 0 0, .int .i64 0, .int .u64 0, .bool false, .bool false] 30)) := by rw [hk]; exact heap_alloc_new _ _
            have hza : v1.heap.size < v2.heap.size := by rw [hk, World.size_alloc]; omega
            clear hk
            have fx := dhid (fx.out.below hb2)
            have hs2 := hb2.size
            have q2 := PB.out _ _ q1 hb2
            clear hb2
            refine hK.out _ _ (KS.out _ q2) (fun hHeld => ?_)
            clear hK
            refine rdy 1 10 (fun K hK => ?_)
            go_simp
            refine (HNC.out _).mono ?_
            rintro e v3 ⟨rfl, ow, hb3⟩
            have fc := dhid (fam_one (q := wRow (some ⟨v2.heap.size, 0, none⟩) 22 22 (List.replicate 22 0)) ow hb3)
            clear ow
            have fx := dhid (fx.out.below hb3)
            have hra := dhid (dstays hb3 hra.out)
            have hs3 := hb3.size
            have q3 := PB.out _ _ q2 hb3
            clear hb3
            refine hK.out _ _ (KS.out _ q3) (fun hHeld => ?_)
            clear hK
            refine rdy 3 12 (fun K hK => ?_)
            go_simp
            refine (HCL.out _ q3).mono ?_
            rintro e v4 ⟨ar, cr, rfl, ow, hb4⟩
            have fr := dhid (fam_one (q := bRow ar n cr ram) ow hb4)
            clear ow
            have fx := dhid (fx.out.below hb4)
            have fc := dhid (fc.out.below hb4)
            have hra := dhid (dstays hb4 hra.out)
            have hs4 := hb4.size
            have q4 := PB.out _ _ q3 hb4
            clear hb4
            refine hK.out _ _ (KS.out _ q4) (fun hHeld => ?_)
            clear hK
            refine wpAnyH_take (i := 4) (oi := { dst := some 13, op := _, type := _, pos := _, after := _, guard := _ }) (v := .agg #[.int .u64 2147483648, .slice (some ⟨v0.heap.size, 0, none⟩) 32 32, .int .i64 3, .slice (some ⟨v2.heap.size, 0, none⟩) 22 22, .slice ar n cr, .int .u64 0, .int .u64 0, .bool false, .slice none 0 0, .slice none 0 0, .int .i64 0, .int .u64 0, .bool false, .bool false]) rfl (by kernel_rfl) (by kernel_rfl) (by kernel_rfl) (fun _ _ _ h => h) (Or.inl ⟨by rfl, ?_⟩) (by assumption) ?_
            · intro w' hSw
              exact yields_build _ _ rfl [(0, .int .u64 2147483648), (1, .slice (some ⟨v0.heap.size, 0, none⟩) 32 32), (2, .int .i64 3), (3, .slice (some ⟨v2.heap.size, 0, none⟩) 22 22), (4, .slice ar n cr)] rfl _ (raw_built _ _ _ _ _)
            simp only [Act.put, List.setIfInBounds_toArray, List.set_cons_zero, List.set_cons_succ]
            refine wpAnyH_ready (rs := [6]) (by kernel_rfl) (by simp) ?_
            refine AllReadyH.cons (o := { dst := none, op := _, type := _, pos := _, after := _, guard := _ }) rfl (fun K hK => ?_) AllReadyH.nil
            refine wpH_row (by rfl) 30 (.tmp 4) (.tmp 13) rfl v1.heap.size rfl #[.int .u64 0, .slice none 0 0, .int .i64 0, .slice none 0 0, .slice none 0 0, .int .u64 0, .int .u64 0, .bool false, .slice none 0 0, .slice none 0 0, .int .i64 0, .int .u64 0, .bool false, .bool false] #[.int .u64 2147483648, .slice (some ⟨v0.heap.size, 0, none⟩) 32 32, .int .i64 3, .slice (some ⟨v2.heap.size, 0, none⟩) 22 22, .slice ar n cr, .int .u64 0, .int .u64 0, .bool false, .slice none 0 0, .slice none 0 0, .int .i64 0, .int .u64 0, .bool false, .bool false] rfl 30 hra.out mac_size rfl (raw_one _ _ _ _ _) ?_
            simp only [Act.put]
            have hqe := PU.out _ v1.heap.size q4 (by omega) #[.int .u64 2147483648, .slice (some ⟨v0.heap.size, 0, none⟩) 32 32, .int .i64 3, .slice (some ⟨v2.heap.size, 0, none⟩) 22 22, .slice ar n cr, .int .u64 0, .int .u64 0, .bool false, .slice none 0 0, .slice none 0 0, .int .i64 0, .int .u64 0, .bool false, .bool false]
            refine hK.out _ _ (KS.out _ hqe) (fun hHeld => ?_)
            clear hK
            refine wpAnyH_done (by kernel_rfl) ?_ _
            go_wp2_with fail
            go_meet
            exact ⟨v1.heap.size, ⟨some ⟨v0.heap.size, 0, none⟩, 32, some ⟨v2.heap.size, 0, none⟩, 22, ar, cr, none, 0, none, 0⟩, rfl, ⟨setRow_heap _ _ _ _ _ _ hra.out, (fam_setRow (fam_new (B := w.heap.size + 1) (E := v4.heap.size) fx.out fc.out fr.out (by omega) (by omega) (by omega) (by omega) (by omega) (by omega)) v1.heap.size (new_ne fx.out fc.out fr.out (by omega) (by omega) (by omega)) #[.int .u64 2147483648, .slice (some ⟨v0.heap.size, 0, none⟩) 32 32, .int .i64 3, .slice (some ⟨v2.heap.size, 0, none⟩) 22 22, .slice ar n cr, .int .u64 0, .int .u64 0, .bool false, .slice none 0 0, .slice none 0 0, .int .i64 0, .int .u64 0, .bool false, .bool false]).low (Nat.le_refl _) (by rw [setRow_size]; exact Nat.le_refl _), new_ne fx.out fc.out fr.out (by omega) (by omega) (by omega), by omega, hqe⟩, rfl, rfl, rfl, rfl⟩
      · go_simp
        refine (HNC.out _).mono ?_
        rintro e v1 ⟨rfl, ow, hb1⟩
        have fc := dhid (fam_one (q := wRow (some ⟨v0.heap.size, 0, none⟩) 22 22 (List.replicate 22 0)) ow hb1)
        clear ow
        have hs1 := hb1.size
        have q1 := PB.out _ _ p0 hb1
        clear hb1
        refine hK.out _ _ (KS.out _ q1) (fun hHeld => ?_)
        clear hK
        as_aux_lemma =>
          refine wpAnyH_ready (rs := [0, 3, 5]) (by kernel_rfl) (by simp) ?_
          refine AllReadyH.cons (o := { dst := some 9, op := _, type := _, pos := _, after := _, guard := _ }) rfl (fun K hK => ?_) (AllReadyH.cons (o := { dst := some 12, op := _, type := _, pos := _, after := _, guard := _ }) rfl (fun K hK => ?_) (AllReadyH.cons (o := { dst := some 4, op := _, type := _, pos := _, after := _, guard := _ }) rfl (fun K hK => ?_) AllReadyH.nil))
          · refine wpH_make (by rfl) 32 (.const (.int .i64 32)) (.const (.int .i64 32)) rfl rfl rfl (by omega) ?_
            intro v2 ow hb2
            have fx := dhid (fam_one (q := wRow (some ⟨v1.heap.size, 0, none⟩) 32 32 (List.replicate 32 0)) ow hb2)
            clear ow
            simp only [Act.put, List.setIfInBounds_toArray, List.set_cons_zero, List.set_cons_succ]
            have fc := dhid (fc.out.below hb2)
            have hs2 := hb2.size
            have q2 := PB.out _ _ q1 hb2
            clear hb2
            refine hK.out _ _ (KS.out _ q2) (fun hHeld => ?_)
            clear hK
            refine wpAnyH_ready (rs := [3, 5]) (by kernel_rfl) (by simp) ?_
            refine AllReadyH.cons (o := { dst := some 12, op := _, type := _, pos := _, after := _, guard := _ }) rfl (fun K hK => ?_) (AllReadyH.cons (o := { dst := some 4, op := _, type := _, pos := _, after := _, guard := _ }) rfl (fun K hK => ?_) AllReadyH.nil)
            · go_simp
              refine (HCL.out _ q2).mono ?_
              rintro e v3 ⟨ar, cr, rfl, ow, hb3⟩
              have fr := dhid (fam_one (q := bRow ar n cr ram) ow hb3)
              clear ow
              have fx := dhid (fx.out.below hb3)
              have fc := dhid (fc.out.below hb3)
              have hs3 := hb3.size
              have q3 := PB.out _ _ q2 hb3
              clear hb3
              refine hK.out _ _ (KS.out _ q3) (fun hHeld => ?_)
              clear hK
              refine wpAnyH_take (i := 4) (oi := { dst := some 13, op := _, type := _, pos := _, after := _, guard := _ }) (v := .agg #[.int .u64 2147483648, .slice (some ⟨v1.heap.size, 0, none⟩) 32 32, .int .i64 3, .slice (some ⟨v0.heap.size, 0, none⟩) 22 22, .slice ar n cr, .int .u64 0, .int .u64 0, .bool false, .slice none 0 0, .slice none 0 0, .int .i64 0, .int .u64 0, .bool false, .bool false]) rfl (by kernel_rfl) (by kernel_rfl) (by kernel_rfl) (fun _ _ _ h => h) (Or.inl ⟨by rfl, ?_⟩) (by assumption) ?_
              · intro w' hSw
                exact yields_build _ _ rfl [(0, .int .u64 2147483648), (1, .slice (some ⟨v1.heap.size, 0, none⟩) 32 32), (2, .int .i64 3), (3, .slice (some ⟨v0.heap.size, 0, none⟩) 22 22), (4, .slice ar n cr)] rfl _ (raw_built _ _ _ _ _)
              simp only [Act.put, List.setIfInBounds_toArray, List.set_cons_zero, List.set_cons_succ]
              refine rdy 5 4 (fun K hK => ?_)
              go_simp
              obtain ⟨v4, hk⟩ : ∃ W, W = v3.alloc (.cells #[.int .u64 0, .slice none 0 0, .int .i64 0, .slice none 0 0, .slice none 0 0, .int .u64 0, .int .u64 0, .bool false, .slice none 0 0, .slice none 0 0, .int .i64 0, .int .u64 0, .bool false, .bool false] 30) := ⟨_, rfl⟩
              rw [← hk]
              have hb4 : Below v3.heap.size v3 v4 := by rw [hk]; exact (Below.refl _ _).alloc (Nat.le_refl _) _
              have hra : Hid (v4.heap[v3.heap.size]? = some (.cells #[.int .u64 0, .slice none 0 0, .int .i64 0, .slice none 0 0, .slice none 0 0, .int .u64 0, .int .u64 0, .bool false, .slice none 0 0, .slice none 0 0, .int .i64 0, .int .u64 0, .bool false, .bool false] 30)) := by rw [hk]; exact heap_alloc_new _ _
              have hza : v3.heap.size < v4.heap.size := by rw [hk, World.size_alloc]; omega
              clear hk
              have fx := dhid (fx.out.below hb4)
              have fc := dhid (fc.out.below hb4)
              have fr := dhid (fr.out.below hb4)
              have hs4 := hb4.size
              have q4 := PB.out _ _ q3 hb4
              clear hb4
              refine hK.out _ _ (KS.out _ q4) (fun hHeld => ?_)
              clear hK
              refine wpAnyH_ready (rs := [6]) (by kernel_rfl) (by simp) ?_
              refine AllReadyH.cons (o := { dst := none, op := _, type := _, pos := _, after := _, guard := _ }) rfl (fun K hK => ?_) AllReadyH.nil
              refine wpH_row (by rfl) 30 (.tmp 4) (.tmp 13) rfl v3.heap.size rfl #[.int .u64 0, .slice none 0 0, .int .i64 0, .slice none 0 0, .slice none 0 0, .int .u64 0, .int .u64 0, .bool false, .slice none 0 0, .slice none 0 0, .int .i64 0, .int .u64 0, .bool false, .bool false] #[.int .u64 2147483648, .slice (some ⟨v1.heap.size, 0, none⟩) 32 32, .int .i64 3, .slice (some ⟨v0.heap.size, 0, none⟩) 22 22, .slice ar n cr, .int .u64 0, .int .u64 0, .bool false, .slice none 0 0, .slice none 0 0, .int .i64 0, .int .u64 0, .bool false, .bool false] rfl 30 hra.out mac_size rfl (raw_one _ _ _ _ _) ?_
              simp only [Act.put]
              have hqe := PU.out _ v3.heap.size q4 (by omega) #[.int .u64 2147483648, .slice (some ⟨v1.heap.size, 0, none⟩) 32 32, .int .i64 3, .slice (some ⟨v0.heap.size, 0, none⟩) 22 22, .slice ar n cr, .int .u64 0, .int .u64 0, .bool false, .slice none 0 0, .slice none 0 0, .int .i64 0, .int .u64 0, .bool false, .bool false]
              refine hK.out _ _ (KS.out _ hqe) (fun hHeld => ?_)
              clear hK
              refine wpAnyH_done (by kernel_rfl) ?_ _
              go_wp2_with fail
              go_meet
              exact ⟨v3.heap.size, ⟨some ⟨v1.heap.size, 0, none⟩, 32, some ⟨v0.heap.size, 0, none⟩, 22, ar, cr, none, 0, none, 0⟩, rfl, ⟨setRow_heap _ _ _ _ _ _ hra.out, (fam_setRow (fam_new (B := w.heap.size + 1) (E := v4.heap.size) fx.out fc.out fr.out (by omega) (by omega) (by omega) (by omega) (by omega) (by omega)) v3.heap.size (new_ne fx.out fc.out fr.out (by omega) (by omega) (by omega)) #[.int .u64 2147483648, .slice (some ⟨v1.heap.size, 0, none⟩) 32 32, .int .i64 3, .slice (some ⟨v0.heap.size, 0, none⟩) 22 22, .slice ar n cr, .int .u64 0, .int .u64 0, .bool false, .slice none 0 0, .slice none 0 0, .int .i64 0, .int .u64 0, .bool false, .bool false]).low (Nat.le_refl _) (by rw [setRow_size]; exact Nat.le_refl _), new_ne fx.out fc.out fr.out (by omega) (by omega) (by omega), by omega, hqe⟩, rfl, rfl, rfl, rfl⟩
            · go_simp
              obtain ⟨v3, hk⟩ : ∃ W, W = v2.alloc (.cells #[.int .u64 0, .slice none 0 0, .int .i64 0, .slice none 0 0, .slice none 0 0, .int .u64 0, .int .u64 0, .bool false, .slice none 0 0, .slice none 0 0, .int .i64 0, .int .u64 0, .bool false, .bool false] 30) := ⟨_, rfl⟩
              rw [← hk]
              have hb3 : Below v2.heap.size v2 v3 := by rw [hk]; exact (Below.refl _ _).alloc (Nat.le_refl _) _
              have hra : Hid (v3.heap[v2.heap.size]? = some (.cells #[.int .u64 0, .slice none 0 0, .int .i64 0, .slice none 0 0, .slice none 0 0, .int .u64 0, .int .u64 0, .bool false, .slice none 0 0, .slice none 0 0, .int .i64 0, .int .u64 0, .bool false, .bool false] 30)) := by rw [hk]; exact heap_alloc_new _ _
              have hza : v2.heap.size < v3.heap.size := by rw [hk, World.size_alloc]; omega
              clear hk
              have fx := dhid (fx.out.below hb3)
              have fc := dhid (fc.out.below hb3)
              have hs3 := hb3.size
              have q3 := PB.out _ _ q2 hb3
              clear hb3
              refine hK.out _ _ (KS.out _ q3) (fun hHeld => ?_)
              clear hK
              refine rdy 3 12 (fun K hK => ?_)
              go_simp
              refine (HCL.out _ q3).mono ?_
              rintro e v4 ⟨ar, cr, rfl, ow, hb4⟩
              have fr := dhid (fam_one (q := bRow ar n cr ram) ow hb4)
              clear ow
              have fx := dhid (fx.out.below hb4)
              have fc := dhid (fc.out.below hb4)
              have hra := dhid (dstays hb4 hra.out)
              have hs4 := hb4.size
              have q4 := PB.out _ _ q3 hb4
              clear hb4
              refine hK.out _ _ (KS.out _ q4) (fun hHeld => ?_)
              clear hK
              refine wpAnyH_take (i := 4) (oi := { dst := some 13, op := _, type := _, pos := _, after := _, guard := _ }) (v := .agg #[.int .u64 2147483648, .slice (some ⟨v1.heap.size, 0, none⟩) 32 32, .int .i64 3, .slice (some ⟨v0.heap.size, 0, none⟩) 22 22, .slice ar n cr, .int .u64 0, .int .u64 0, .bool false, .slice none 0 0, .slice none 0 0, .int .i64 0, .int .u64 0, .bool false, .bool false]) rfl (by kernel_rfl) (by kernel_rfl) (by kernel_rfl) (fun _ _ _ h => h) (Or.inl ⟨by rfl, ?_⟩) (by assumption) ?_
              · intro w' hSw
                exact yields_build _ _ rfl [(0, .int .u64 2147483648), (1, .slice (some ⟨v1.heap.size, 0, none⟩) 32 32), (2, .int .i64 3), (3, .slice (some ⟨v0.heap.size, 0, none⟩) 22 22), (4, .slice ar n cr)] rfl _ (raw_built _ _ _ _ _)
              simp only [Act.put, List.setIfInBounds_toArray, List.set_cons_zero, List.set_cons_succ]
              refine wpAnyH_ready (rs := [6]) (by kernel_rfl) (by simp) ?_
              refine AllReadyH.cons (o := { dst := none, op := _, type := _, pos := _, after := _, guard := _ }) rfl (fun K hK => ?_) AllReadyH.nil
              refine wpH_row (by rfl) 30 (.tmp 4) (.tmp 13) rfl v2.heap.size rfl #[.int .u64 0, .slice none 0 0, .int .i64 0, .slice none 0 0, .slice none 0 0, .int .u64 0, .int .u64 0, .bool false, .slice none 0 0, .slice none 0 0, .int .i64 0, .int .u64 0, .bool false, .bool false] #[.int .u64 2147483648, .slice (some ⟨v1.heap.size, 0, none⟩) 32 32, .int .i64 3, .slice (some ⟨v0.heap.size, 0, none⟩) 22 22, .slice ar n cr, .int .u64 0, .int .u64 0, .bool false, .slice none 0 0, .slice none 0 0, .int .i64 0, .int .u64 0, .bool false, .bool false] rfl 30 hra.out mac_size rfl (raw_one _ _ _ _ _) ?_
              simp only [Act.put]
              have hqe := PU.out _ v2.heap.size q4 (by omega) #[.int .u64 2147483648, .slice (some ⟨v1.heap.size, 0, none⟩) 32 32, .int .i64 3, .slice (some ⟨v0.heap.size, 0, none⟩) 22 22, .slice ar n cr, .int .u64 0, .int .u64 0, .bool false, .slice none 0 0, .slice none 0 0, .int .i64 0, .int .u64 0, .bool false, .bool false]
              refine hK.out _ _ (KS.out _ hqe) (fun hHeld => ?_)
              clear hK
              refine wpAnyH_done (by kernel_rfl) ?_ _
              go_wp2_with fail
              go_meet
              exact ⟨v2.heap.size, ⟨some ⟨v1.heap.size, 0, none⟩, 32, some ⟨v0.heap.size, 0, none⟩, 22, ar, cr, none, 0, none, 0⟩, rfl, ⟨setRow_heap _ _ _ _ _ _ hra.out, (fam_setRow (fam_new (B := w.heap.size + 1) (E := v4.heap.size) fx.out fc.out fr.out (by omega) (by omega) (by omega) (by omega) (by omega) (by omega)) v2.heap.size (new_ne fx.out fc.out fr.out (by omega) (by omega) (by omega)) #[.int .u64 2147483648, .slice (some ⟨v1.heap.size, 0, none⟩) 32 32, .int .i64 3, .slice (some ⟨v0.heap.size, 0, none⟩) 22 22, .slice ar n cr, .int .u64 0, .int .u64 0, .bool false, .slice none 0 0, .slice none 0 0, .int .i64 0, .int .u64 0, .bool false, .bool false]).low (Nat.le_refl _) (by rw [setRow_size]; exact Nat.le_refl _), new_ne fx.out fc.out fr.out (by omega) (by omega) (by omega), by omega, hqe⟩, rfl, rfl, rfl, rfl⟩
          · go_simp
            refine (HCL.out _ q1).mono ?_
            rintro e v2 ⟨ar, cr, rfl, ow, hb2⟩
            have fr := dhid (fam_one (q := bRow ar n cr ram) ow hb2)
            clear ow
            have fc := dhid (fc.out.below hb2)
            have hs2 := hb2.size
            have q2 := PB.out _ _ q1 hb2
            clear hb2
            refine hK.out _ _ (KS.out _ q2) (fun hHeld => ?_)
            clear hK
            refine wpAnyH_ready (rs := [0, 5]) (by kernel_rfl) (by simp) ?_
            refine AllReadyH.cons (o := { dst := some 9, op := _, type := _, pos := _, after := _, guard := _ }) rfl (fun K hK => ?_) (AllReadyH.cons (o := { dst := some 4, op := _, type := _, pos := _, after := _, guard := _ }) rfl (fun K hK => ?_) AllReadyH.nil)
            · refine wpH_make (by rfl) 32 (.const (.int .i64 32)) (.const (.int .i64 32)) rfl rfl rfl (by omega) ?_
              intro v3 ow hb3
              have fx := dhid (fam_one (q := wRow (some ⟨v2.heap.size, 0, none⟩) 32 32 (List.replicate 32 0)) ow hb3)
              clear ow
              simp only [Act.put, List.setIfInBounds_toArray, List.set_cons_zero, List.set_cons_succ]
              have fc := dhid (fc.out.below hb3)
              have fr := dhid (fr.out.below hb3)
              have hs3 := hb3.size
              have q3 := PB.out _ _ q2 hb3
              clear hb3
              refine hK.out _ _ (KS.out _ q3) (fun hHeld => ?_)
              clear hK
              refine wpAnyH_take (i := 4) (oi := { dst := some 13, op := _, type := _, pos := _, after := _, guard := _ }) (v := .agg #[.int .u64 2147483648, .slice (some ⟨v2.heap.size, 0, none⟩) 32 32, .int .i64 3, .slice (some ⟨v0.heap.size, 0, none⟩) 22 22, .slice ar n cr, .int .u64 0, .int .u64 0, .bool false, .slice none 0 0, .slice none 0 0, .int .i64 0, .int .u64 0, .bool false, .bool false]) rfl (by kernel_rfl) (by kernel_rfl) (by kernel_rfl) (fun _ _ _ h => h) (Or.inl ⟨by rfl, ?_⟩) (by assumption) ?_
              · intro w' hSw
                exact yields_build _ _ rfl [(0, .int .u64 2147483648), (1, .slice (some ⟨v2.heap.size, 0, none⟩) 32 32), (2, .int .i64 3), (3, .slice (some ⟨v0.heap.size, 0, none⟩) 22 22), (4, .slice ar n cr)] rfl _ (raw_built _ _ _ _ _)
              simp only [Act.put, List.setIfInBounds_toArray, List.set_cons_zero, List.set_cons_succ]
              refine rdy 5 4 (fun K hK => ?_)
              go_simp
              obtain ⟨v4, hk⟩ : ∃ W, W = v3.alloc (.cells #[.int .u64 0, .slice none 0 0, .int .i64 0, .slice none 0 0, .slice none 0 0, .int .u64 0, .int .u64 0, .bool false, .slice none 0 0, .slice none 0 0, .int .i64 0, .int .u64 0, .bool false, .bool false] 30) := ⟨_, rfl⟩
              rw [← hk]
              have hb4 : Below v3.heap.size v3 v4 := by rw [hk]; exact (Below.refl _ _).alloc (Nat.le_refl _) _
              have hra : Hid (v4.heap[v3.heap.size]? = some (.cells #[.int .u64 0, .slice none 0 0, .int .i64 0, .slice none 0 0, .slice none 0 0, .int .u64 0, .int .u64 0, .bool false, .slice none 0 0, .slice none 0 0, .int .i64 0, .int .u64 0, .bool false, .bool false] 30)) := by rw [hk]; exact heap_alloc_new _ _
              have hza : v3.heap.size < v4.heap.size := by rw [hk, World.size_alloc]; omega
              clear hk
              have fx := dhid (fx.out.below hb4)
              have fc := dhid (fc.out.below hb4)
              have fr := dhid (fr.out.below hb4)
              have hs4 := hb4.size
              have q4 := PB.out _ _ q3 hb4
              clear hb4
              refine hK.out _ _ (KS.out _ q4) (fun hHeld => ?_)
              clear hK
              refine wpAnyH_ready (rs := [6]) (by kernel_rfl) (by simp) ?_
              refine AllReadyH.cons (o := { dst := none, op := _, type := _, pos := _, after := _, guard := _ }) rfl (fun K hK => ?_) AllReadyH.nil
              refine wpH_row (by rfl) 30 (.tmp 4) (.tmp 13) rfl v3.heap.size rfl #[.int .u64 0, .slice none 0 0, .int .i64 0, .slice none 0 0, .slice none 0 0, .int .u64 0, .int .u64 0, .bool false, .slice none 0 0, .slice none 0 0, .int .i64 0, .int .u64 0, .bool false, .bool false] #[.int .u64 2147483648, .slice (some ⟨v2.heap.size, 0, none⟩) 32 32, .int .i64 3, .slice (some ⟨v0.heap.size, 0, none⟩) 22 22, .slice ar n cr, .int .u64 0, .int .u64 0, .bool false, .slice none 0 0, .slice none 0 0, .int .i64 0, .int .u64 0, .bool false, .bool false] rfl 30 hra.out mac_size rfl (raw_one _ _ _ _ _) ?_
              simp only [Act.put]
              have hqe := PU.out _ v3.heap.size q4 (by omega) #[.int .u64 2147483648, .slice (some ⟨v2.heap.size, 0, none⟩) 32 32, .int .i64 3, .slice (some ⟨v0.heap.size, 0, none⟩) 22 22, .slice ar n cr, .int .u64 0, .int .u64 0, .bool false, .slice none 0 0, .slice none 0 0, .int .i64 0, .int .u64 0, .bool false, .bool false]
              refine hK.out _ _ (KS.out _ hqe) (fun hHeld => ?_)
              clear hK
              refine wpAnyH_done (by kernel_rfl) ?_ _
              go_wp2_with fail
              go_meet
              exact ⟨v3.heap.size, ⟨some ⟨v2.heap.size, 0, none⟩, 32, some ⟨v0.heap.size, 0, none⟩, 22, ar, cr, none, 0, none, 0⟩, rfl, ⟨setRow_heap _ _ _ _ _ _ hra.out, (fam_setRow (fam_new (B := w.heap.size + 1) (E := v4.heap.size) fx.out fc.out fr.out (by omega) (by omega) (by omega) (by omega) (by omega) (by omega)) v3.heap.size (new_ne fx.out fc.out fr.out (by omega) (by omega) (by omega)) #[.int .u64 2147483648, .slice (some ⟨v2.heap.size, 0, none⟩) 32 32, .int .i64 3, .slice (some ⟨v0.heap.size, 0, none⟩) 22 22, .slice ar n cr, .int .u64 0, .int .u64 0, .bool false, .slice none 0 0, .slice none 0 0, .int .i64 0, .int .u64 0, .bool false, .bool false]).low (Nat.le_refl _) (by rw [setRow_size]; exact Nat.le_refl _), new_ne fx.out fc.out fr.out (by omega) (by omega) (by omega), by omega, hqe⟩, rfl, rfl, rfl, rfl⟩
            · go_simp
              obtain ⟨v3, hk⟩ : ∃ W, W = v2.alloc (.cells #[.int .u64 0, .slice none 0 0, .int .i64 0, .slice none 0 0, .slice none 0 0, .int .u64 0, .int .u64 0, .bool false, .slice none 0 0, .slice none 0 0, .int .i64 0, .int .u64 0, .bool false, .bool false] 30) := ⟨_, rfl⟩
              rw [← hk]
              have hb3 : Below v2.heap.size v2 v3 := by rw [hk]; exact (Below.refl _ _).alloc (Nat.le_refl _) _
              have hra : Hid (v3.heap[v2.heap.size]? = some (.cells #[.int .u64 0, .slice none 0 0, .int .i64 0, .slice none 0 0, .slice none 0 0, .int .u64 0, .int .u64 0, .bool false, .slice none 0 0, .slice none 0 0, .int .i64 0, .int .u64 0, .bool false, .bool false] 30)) := by rw [hk]; exact heap_alloc_new _ _
              have hza : v2.heap.size < v3.heap.size := by rw [hk, World.size_alloc]; omega
              clear hk
              have fc := dhid (fc.out.below hb3)
              have fr := dhid (fr.out.below hb3)
              have hs3 := hb3.size
              have q3 := PB.out _ _ q2 hb3
              clear hb3
              refine hK.out _ _ (KS.out _ q3) (fun hHeld => ?_)
              clear hK
              refine rdy 0 9 (fun K hK => ?_)
              refine wpH_make (by rfl) 32 (.const (.int .i64 32)) (.const (.int .i64 32)) rfl rfl rfl (by omega) ?_
              intro v4 ow hb4
              have fx := dhid (fam_one (q := wRow (some ⟨v3.heap.size, 0, none⟩) 32 32 (List.replicate 32 0)) ow hb4)
              clear ow
              simp only [Act.put, List.setIfInBounds_toArray, List.set_cons_zero, List.set_cons_succ]
              have fc := dhid (fc.out.below hb4)
              have fr := dhid (fr.out.below hb4)
              have hra := dhid (dstays hb4 hra.out)
              have hs4 := hb4.size
              have q4 := PB.out _ _ q3 hb4
              clear hb4
              refine hK.out _ _ (KS.out _ q4) (fun hHeld => ?_)
              clear hK
              refine wpAnyH_take (i := 4) (oi := { dst := some 13, op := _, type := _, pos := _, after := _, guard := _ }) (v := .agg #[.int .u64 2147483648, .slice (some ⟨v3.heap.size, 0, none⟩) 32 32, .int .i64 3, .slice (some ⟨v0.heap.size, 0, none⟩) 22 22, .slice ar n cr, .int .u64 0, .int .u64 0, .bool false, .slice none 0 0, .slice none 0 0, .int .i64 0, .int .u64 0, .bool false, .bool false]) rfl (by kernel_rfl) (by kernel_rfl) (by kernel_rfl) (fun _ _ _ h => h) (Or.inl ⟨by rfl, ?_⟩) (by assumption) ?_
              · intro w' hSw
                exact yields_build _ _ rfl [(0, .int .u64 2147483648), (1, .slice (some ⟨v3.heap.size, 0, none⟩) 32 32), (2, .int .i64 3), (3, .slice (some ⟨v0.heap.size, 0, none⟩) 22 22), (4, .slice ar n cr)] rfl _ (raw_built _ _ _ _ _)
              simp only [Act.put, List.setIfInBounds_toArray, List.set_cons_zero, List.set_cons_succ]
              refine wpAnyH_ready (rs := [6]) (by kernel_rfl) (by simp) ?_
              refine AllReadyH.cons (o := { dst := none, op := _, type := _, pos := _, after := _, guard := _ }) rfl (fun K hK => ?_) AllReadyH.nil
              refine wpH_row (by rfl) 30 (.tmp 4) (.tmp 13) rfl v2.heap.size rfl #[.int .u64 0, .slice none 0 0, .int .i64 0, .slice none 0 0, .slice none 0 0, .int .u64 0, .int .u64 0, .bool false, .slice none 0 0, .slice none 0 0, .int .i64 0, .int .u64 0, .bool false, .bool false] #[.int .u64 2147483648, .slice (some ⟨v3.heap.size, 0, none⟩) 32 32, .int .i64 3, .slice (some ⟨v0.heap.size, 0, none⟩) 22 22, .slice ar n cr, .int .u64 0, .int .u64 0, .bool false, .slice none 0 0, .slice none 0 0, .int .i64 0, .int .u64 0, .bool false, .bool false] rfl 30 hra.out mac_size rfl (raw_one _ _ _ _ _) ?_
              simp only [Act.put]
              have hqe := PU.out _ v2.heap.size q4 (by omega) #[.int .u64 2147483648, .slice (some ⟨v3.heap.size, 0, none⟩) 32 32, .int .i64 3, .slice (some ⟨v0.heap.size, 0, none⟩) 22 22, .slice ar n cr, .int .u64 0, .int .u64 0, .bool false, .slice none 0 0, .slice none 0 0, .int .i64 0, .int .u64 0, .bool false, .bool false]
              refine hK.out _ _ (KS.out _ hqe) (fun hHeld => ?_)
              clear hK
              refine wpAnyH_done (by kernel_rfl) ?_ _
              go_wp2_with fail
              go_meet
              exact ⟨v2.heap.size, ⟨some ⟨v3.heap.size, 0, none⟩, 32, some ⟨v0.heap.size, 0, none⟩, 22, ar, cr, none, 0, none, 0⟩, rfl, ⟨setRow_heap _ _ _ _ _ _ hra.out, (fam_setRow (fam_new (B := w.heap.size + 1) (E := v4.heap.size) fx.out fc.out fr.out (by omega) (by omega) (by omega) (by omega) (by omega) (by omega)) v2.heap.size (new_ne fx.out fc.out fr.out (by omega) (by omega) (by omega)) #[.int .u64 2147483648, .slice (some ⟨v3.heap.size, 0, none⟩) 32 32, .int .i64 3, .slice (some ⟨v0.heap.size, 0, none⟩) 22 22, .slice ar n cr, .int .u64 0, .int .u64 0, .bool false, .slice none 0 0, .slice none 0 0, .int .i64 0, .int .u64 0, .bool false, .bool false]).low (Nat.le_refl _) (by rw [setRow_size]; exact Nat.le_refl _), new_ne fx.out fc.out fr.out (by omega) (by omega) (by omega), by omega, hqe⟩, rfl, rfl, rfl, rfl⟩
          · go_simp
            obtain ⟨v2, hk⟩ : ∃ W, W = v1.alloc (.cells #[.int .u64 0, .slice none 0 0, .int .i64 0, .slice none 0 0, .slice none 0 0, .int .u64 0, .int .u64 0, .bool false, .slice none 0 0, .slice none 0 0, .int .i64 0, .int .u64 0, .bool false, .bool false] 30) := ⟨_, rfl⟩
            rw [← hk]
            have hb2 : Below v1.heap.size v1 v2 := by rw [hk]; exact (Below.refl _ _).alloc (Nat.le_refl _) _
            have hra : Hid (v2.heap[v1.heap.size]? = some (.cells #[.int .u64 0, .slice none 0 0, .int .i64 0, .slice none 0 0, .slice none 0 0, .int .u64 0, .int .u64 0, .bool false, .slice none 0 0, .slice none 0 0, .int .i64 0, .int .u64 0, .bool false, .bool false] 30)) := by rw [hk]; exact heap_alloc_new _ _
            have hza : v1.heap.size < v2.heap.size := by rw [hk, World.size_alloc]; omega
            clear hk
            have fc := dhid (fc.out.below hb2)
            have hs2 := hb2.size
            have q2 := PB.out _ _ q1 hb2
            clear hb2
            refine hK.out _ _ (KS.out _ q2) (fun hHeld => ?_)
            clear hK
            refine wpAnyH_ready (rs := [0, 3]) (by kernel_rfl) (by simp) ?_
            refine AllReadyH.cons (o := { dst := some 9, op := _, type := _, pos := _, after := _, guard := _ }) rfl (fun K hK => ?_) (AllReadyH.cons (o := { dst := some 12, op := _, type := _, pos := _, after := _, guard := _ }) rfl (fun K hK => ?_) AllReadyH.nil)
            · refine wpH_make (by rfl) 32 (.const (.int .i64 32)) (.const (.int .i64 32)) rfl rfl rfl (by omega) ?_
              intro v3 ow hb3
              have fx := dhid (fam_one (q := wRow (some ⟨v2.heap.size, 0, none⟩) 32 32 (List.replicate 32 0)) ow hb3)
              clear ow
              simp only [Act.put, List.setIfInBounds_toArray, List.set_cons_zero, List.set_cons_succ]
              have fc := dhid (fc.out.below hb3)
              have hra := dhid (dstays hb3 hra.out)
              have hs3 := hb3.size
              have q3 := PB.out _ _ q2 hb3
              clear hb3
              refine hK.out _ _ (KS.out _ q3) (fun hHeld => ?_)
              clear hK
              refine rdy 3 12 (fun K hK => ?_)
              go_simp
              refine (HCL.out _ q3).mono ?_
              rintro e v4 ⟨ar, cr, rfl, ow, hb4⟩
              have fr := dhid (fam_one (q := bRow ar n cr ram) ow hb4)
              clear ow
              have fx := dhid (fx.out.below hb4)
              have fc := dhid (fc.out.below hb4)
              have hra := dhid (dstays hb4 hra.out)
              have hs4 := hb4.size
              have q4 := PB.out _ _ q3 hb4
              clear hb4
              refine hK.out _ _ (KS.out _ q4) (fun hHeld => ?_)
              clear hK
              refine wpAnyH_take (i := 4) (oi := { dst := some 13, op := _, type := _, pos := _, after := _, guard := _ }) (v := .agg #[.int .u64 2147483648, .slice (some ⟨v2.heap.size, 0, none⟩) 32 32, .int .i64 3, .slice (some ⟨v0.heap.size, 0, none⟩) 22 22, .slice ar n cr, .int .u64 0, .int .u64 0, .bool false, .slice none 0 0, .slice none 0 0, .int .i64 0, .int .u64 0, .bool false, .bool false]) rfl (by kernel_rfl) (by kernel_rfl) (by kernel_rfl) (fun _ _ _ h => h) (Or.inl ⟨by rfl, ?_⟩) (by assumption) ?_
              · intro w' hSw
                exact yields_build _ _ rfl [(0, .int .u64 2147483648), (1, .slice (some ⟨v2.heap.size, 0, none⟩) 32 32), (2, .int .i64 3), (3, .slice (some ⟨v0.heap.size, 0, none⟩) 22 22), (4, .slice ar n cr)] rfl _ (raw_built _ _ _ _ _)
              simp only [Act.put, List.setIfInBounds_toArray, List.set_cons_zero, List.set_cons_succ]
              refine wpAnyH_ready (rs := [6]) (by kernel_rfl) (by simp) ?_
              refine AllReadyH.cons (o := { dst := none, op := _, type := _, pos := _, after := _, guard := _ }) rfl (fun K hK => ?_) AllReadyH.nil
              refine wpH_row (by rfl) 30 (.tmp 4) (.tmp 13) rfl v1.heap.size rfl #[.int .u64 0, .slice none 0 0, .int .i64 0, .slice none 0 0, .slice none 0 0, .int .u64 0, .int .u64 0, .bool false, .slice none 0 0, .slice none 0 0, .int .i64 0, .int .u64 0, .bool false, .bool false] #[.int .u64 2147483648, .slice (some ⟨v2.heap.size, 0, none⟩) 32 32, .int .i64 3, .slice (some ⟨v0.heap.size, 0, none⟩) 22 22, .slice ar n cr, .int .u64 0, .int .u64 0, .bool false, .slice none 0 0, .slice none 0 0, .int .i64 0, .int .u64 0, .bool false, .bool false] rfl 30 hra.out mac_size rfl (raw_one _ _ _ _ _) ?_
              simp only [Act.put]
              have hqe := PU.out _ v1.heap.size q4 (by omega) #[.int .u64 2147483648, .slice (some ⟨v2.heap.size, 0, none⟩) 32 32, .int .i64 3, .slice (some ⟨v0.heap.size, 0, none⟩) 22 22, .slice ar n cr, .int .u64 0, .int .u64 0, .bool false, .slice none 0 0, .slice none 0 0, .int .i64 0, .int .u64 0, .bool false, .bool false]
              refine hK.out _ _ (KS.out _ hqe) (fun hHeld => ?_)
              clear hK
              refine wpAnyH_done (by kernel_rfl) ?_ _
              go_wp2_with fail
              go_meet
              exact ⟨v1.heap.size, ⟨some ⟨v2.heap.size, 0, none⟩, 32, some ⟨v0.heap.size, 0, none⟩, 22, ar, cr, none, 0, none, 0⟩, rfl, ⟨setRow_heap _ _ _ _ _ _ hra.out, (fam_setRow (fam_new (B := w.heap.size + 1) (E := v4.heap.size) fx.out fc.out fr.out (by omega) (by omega) (by omega) (by omega) (by omega) (by omega)) v1.heap.size (new_ne fx.out fc.out fr.out (by omega) (by omega) (by omega)) #[.int .u64 2147483648, .slice (some ⟨v2.heap.size, 0, none⟩) 32 32, .int .i64 3, .slice (some ⟨v0.heap.size, 0, none⟩) 22 22, .slice ar n cr, .int .u64 0, .int .u64 0, .bool false, .slice none 0 0, .slice none 0 0, .int .i64 0, .int .u64 0, .bool false, .bool false]).low (Nat.le_refl _) (by rw [setRow_size]; exact Nat.le_refl _), new_ne fx.out fc.out fr.out (by omega) (by omega) (by omega), by omega, hqe⟩, rfl, rfl, rfl, rfl⟩
            · go_simp
              refine (HCL.out _ q2).mono ?_
              rintro e v3 ⟨ar, cr, rfl, ow, hb3⟩
              have fr := dhid (fam_one (q := bRow ar n cr ram) ow hb3)
              clear ow
              have fc := dhid (fc.out.below hb3)
              have hra := dhid (dstays hb3 hra.out)
              have hs3 := hb3.size
              have q3 := PB.out _ _ q2 hb3
              clear hb3
              refine hK.out _ _ (KS.out _ q3) (fun hHeld => ?_)
              clear hK
              refine rdy 0 9 (fun K hK => ?_)
              refine wpH_make (by rfl) 32 (.const (.int .i64 32)) (.const (.int .i64 32)) rfl rfl rfl (by omega) ?_
              intro v4 ow hb4
              have fx := dhid (fam_one (q := wRow (some ⟨v3.heap.size, 0, none⟩) 32 32 (List.replicate 32 0)) ow hb4)
              clear ow
              simp only [Act.put, List.setIfInBounds_toArray, List.set_cons_zero, List.set_cons_succ]
              have fc := dhid (fc.out.below hb4)
              have fr := dhid (fr.out.below hb4)
              have hra := dhid (dstays hb4 hra.out)
              have hs4 := hb4.size
              have q4 := PB.out _ _ q3 hb4
              clear hb4
              refine hK.out _ _ (KS.out _ q4) (fun hHeld => ?_)
              clear hK
              refine wpAnyH_take (i := 4) (oi := { dst := some 13, op := _, type := _, pos := _, after := _, guard := _ }) (v := .agg #[.int .u64 2147483648, .slice (some ⟨v3.heap.size, 0, none⟩) 32 32, .int .i64 3, .slice (some ⟨v0.heap.size, 0, none⟩) 22 22, .slice ar n cr, .int .u64 0, .int .u64 0, .bool false, .slice none 0 0, .slice none 0 0, .int .i64 0, .int .u64 0, .bool false, .bool false]) rfl (by kernel_rfl) (by kernel_rfl) (by kernel_rfl) (fun _ _ _ h => h) (Or.inl ⟨by rfl, ?_⟩) (by assumption) ?_
              · intro w' hSw
                exact yields_build _ _ rfl [(0, .int .u64 2147483648), (1, .slice (some ⟨v3.heap.size, 0, none⟩) 32 32), (2, .int .i64 3), (3, .slice (some ⟨v0.heap.size, 0, none⟩) 22 22), (4, .slice ar n cr)] rfl _ (raw_built _ _ _ _ _)
              simp only [Act.put, List.setIfInBounds_toArray, List.set_cons_zero, List.set_cons_succ]
              refine wpAnyH_ready (rs := [6]) (by kernel_rfl) (by simp) ?_
              refine AllReadyH.cons (o := { dst := none, op := _, type := _, pos := _, after := _, guard := _ }) rfl (fun K hK => ?_) AllReadyH.nil
              refine wpH_row (by rfl) 30 (.tmp 4) (.tmp 13) rfl v1.heap.size rfl #[.int .u64 0, .slice none 0 0, .int .i64 0, .slice none 0 0, .slice none 0 0, .int .u64 0, .int .u64 0, .bool false, .slice none 0 0, .slice none 0 0, .int .i64 0, .int .u64 0, .bool false, .bool false] #[.int .u64 2147483648, .slice (some ⟨v3.heap.size, 0, none⟩) 32 32, .int .i64 3, .slice (some ⟨v0.heap.size, 0, none⟩) 22 22, .slice ar n cr, .int .u64 0, .int .u64 0, .bool false, .slice none 0 0, .slice none 0 0, .int .i64 0, .int .u64 0, .bool false, .bool false] rfl 30 hra.out mac_size rfl (raw_one _ _ _ _ _) ?_
              simp only [Act.put]
              have hqe := PU.out _ v1.heap.size q4 (by omega) #[.int .u64 2147483648, .slice (some ⟨v3.heap.size, 0, none⟩) 32 32, .int .i64 3, .slice (some ⟨v0.heap.size, 0, none⟩) 22 22, .slice ar n cr, .int .u64 0, .int .u64 0, .bool false, .slice none 0 0, .slice none 0 0, .int .i64 0, .int .u64 0, .bool false, .bool false]
              refine hK.out _ _ (KS.out _ hqe) (fun hHeld => ?_)
              clear hK
              refine wpAnyH_done (by kernel_rfl) ?_ _
              go_wp2_with fail
              go_meet
              exact ⟨v1.heap.size, ⟨some ⟨v3.heap.size, 0, none⟩, 32, some ⟨v0.heap.size, 0, none⟩, 22, ar, cr, none, 0, none, 0⟩, rfl, ⟨setRow_heap _ _ _ _ _ _ hra.out, (fam_setRow (fam_new (B := w.heap.size + 1) (E := v4.heap.size) fx.out fc.out fr.out (by omega) (by omega) (by omega) (by omega) (by omega) (by omega)) v1.heap.size (new_ne fx.out fc.out fr.out (by omega) (by omega) (by omega)) #[.int .u64 2147483648, .slice (some ⟨v3.heap.size, 0, none⟩) 32 32, .int .i64 3, .slice (some ⟨v0.heap.size, 0, none⟩) 22 22, .slice ar n cr, .int .u64 0, .int .u64 0, .bool false, .slice none 0 0, .slice none 0 0, .int .i64 0, .int .u64 0, .bool false, .bool false]).low (Nat.le_refl _) (by rw [setRow_size]; exact Nat.le_refl _), new_ne fx.out fc.out fr.out (by omega) (by omega) (by omega), by omega, hqe⟩, rfl, rfl, rfl, rfl⟩
      · go_simp
        obtain ⟨v1, hk⟩ : ∃ W, W = v0.alloc (.cells #[.int .u64 0, .slice none 0 0, .int .i64 0, .slice none 0 0, .slice none 0 0, .int .u64 0, .int .u64 0, .bool false, .slice none 0 0, .slice none 0 0, .int .i64 0, .int .u64 0, .bool false, .bool false] 30) := ⟨_, rfl⟩
        rw [← hk]
        have hb1 : Below v0.heap.size v0 v1 := by rw [hk]; exact (Below.refl _ _).alloc (Nat.le_refl _) _
        have hra : Hid (v1.heap[v0.heap.size]? = some (.cells #[.int .u64 0, .slice none 0 0, .int .i64 0, .slice none 0 0, .slice none 0 0, .int .u64 0, .int .u64 0, .bool false, .slice none 0 0, .slice none 0 0, .int .i64 0, .int .u64 0, .bool false, .bool false] 30)) := by rw [hk]; exact heap_alloc_new _ _
        have hza : v0.heap.size < v1.heap.size := by rw [hk, World.size_alloc]; omega
        clear hk
        have hs1 := hb1.size
        have q1 := PB.out _ _ p0 hb1
        clear hb1
        refine hK.out _ _ (KS.out _ q1) (fun hHeld => ?_)
        clear hK
        as_aux_lemma =>
          refine wpAnyH_ready (rs := [0, 1]) (by kernel_rfl) (by simp) ?_
          refine AllReadyH.cons (o := { dst := some 9, op := _, type := _, pos := _, after := _, guard := _ }) rfl (fun K hK => ?_) (AllReadyH.cons (o := { dst := some 10, op := _, type := _, pos := _, after := _, guard := _ }) rfl (fun K hK => ?_) AllReadyH.nil)
          · refine wpH_make (by rfl) 32 (.const (.int .i64 32)) (.const (.int .i64 32)) rfl rfl rfl (by omega) ?_
            intro v2 ow hb2
            have fx := dhid (fam_one (q := wRow (some ⟨v1.heap.size, 0, none⟩) 32 32 (List.replicate 32 0)) ow hb2)
            clear ow
            simp only [Act.put, List.setIfInBounds_toArray, List.set_cons_zero, List.set_cons_succ]
            have hra := dhid (dstays hb2 hra.out)
            have hs2 := hb2.size
            have q2 := PB.out _ _ q1 hb2
            clear hb2
            refine hK.out _ _ (KS.out _ q2) (fun hHeld => ?_)
            clear hK
            refine rdy 1 10 (fun K hK => ?_)
            go_simp
            refine (HNC.out _).mono ?_
            rintro e v3 ⟨rfl, ow, hb3⟩
            have fc := dhid (fam_one (q := wRow (some ⟨v2.heap.size, 0, none⟩) 22 22 (List.replicate 22 0)) ow hb3)
            clear ow
            have fx := dhid (fx.out.below hb3)
            have hra := dhid (dstays hb3 hra.out)
            have hs3 := hb3.size
            have q3 := PB.out _ _ q2 hb3
            clear hb3
            refine hK.out _ _ (KS.out _ q3) (fun hHeld => ?_)
            clear hK
            refine rdy 3 12 (fun K hK => ?_)
            go_simp
            refine (HCL.out _ q3).mono ?_
            rintro e v4 ⟨ar, cr, rfl, ow, hb4⟩
            have fr := dhid (fam_one (q := bRow ar n cr ram) ow hb4)
            clear ow
            have fx := dhid (fx.out.below hb4)
            have fc := dhid (fc.out.below hb4)
            have hra := dhid (dstays hb4 hra.out)
            have hs4 := hb4.size
            have q4 := PB.out _ _ q3 hb4
            clear hb4
            refine hK.out _ _ (KS.out _ q4) (fun hHeld => ?_)
            clear hK
            refine wpAnyH_take (i := 4) (oi := { dst := some 13, op := _, type := _, pos := _, after := _, guard := _ }) (v := .agg #[.int .u64 2147483648, .slice (some ⟨v1.heap.size, 0, none⟩) 32 32, .int .i64 3, .slice (some ⟨v2.heap.size, 0, none⟩) 22 22, .slice ar n cr, .int .u64 0, .int .u64 0, .bool false, .slice none 0 0, .slice none 0 0, .int .i64 0, .int .u64 0, .bool false, .bool false]) rfl (by kernel_rfl) (by kernel_rfl) (by kernel_rfl) (fun _ _ _ h => h) (Or.inl ⟨by rfl, ?_⟩) (by assumption) ?_
            · intro w' hSw
              exact yields_build _ _ rfl [(0, .int .u64 2147483648), (1, .slice (some ⟨v1.heap.size, 0, none⟩) 32 32), (2, .int .i64 3), (3, .slice (some ⟨v2.heap.size, 0, none⟩) 22 22), (4, .slice ar n cr)] rfl _ (raw_built _ _ _ _ _)
            simp only [Act.put, List.setIfInBounds_toArray, List.set_cons_zero, List.set_cons_succ]
            refine wpAnyH_ready (rs := [6]) (by kernel_rfl) (by simp) ?_
            refine AllReadyH.cons (o := { dst := none, op := _, type := _, pos := _, after := _, guard := _ }) rfl (fun K hK => ?_) AllReadyH.nil
            refine wpH_row (by rfl) 30 (.tmp 4) (.tmp 13) rfl v0.heap.size rfl #[.int .u64 0, .slice none 0 0, .int .i64 0, .slice none 0 0, .slice none 0 0, .int .u64 0, .int .u64 0, .bool false, .slice none 0 0, .slice none 0 0, .int .i64 0, .int .u64 0, .bool false, .bool false] #[.int .u64 2147483648, .slice (some ⟨v1.heap.size, 0, none⟩) 32 32, .int .i64 3, .slice (some ⟨v2.heap.size, 0, none⟩) 22 22, .slice ar n cr, .int .u64 0, .int .u64 0, .bool false, .slice none 0 0, .slice none 0 0, .int .i64 0, .int .u64 0, .bool false, .bool false] rfl 30 hra.out mac_size rfl (raw_one _ _ _ _ _) ?_
            simp only [Act.put]
            have hqe := PU.out _ v0.heap.size q4 (by omega) #[.int .u64 2147483648, .slice (some ⟨v1.heap.size, 0, none⟩) 32 32, .int .i64 3, .slice (some ⟨v2.heap.size, 0, none⟩) 22 22, .slice ar n cr, .int .u64 0, .int .u64 0, .bool false, .slice none 0 0, .slice none 0 0, .int .i64 0, .int .u64 0, .bool false, .bool false]
            refine hK.out _ _ (KS.out _ hqe) (fun hHeld => ?_)
            clear hK
            refine wpAnyH_done (by kernel_rfl) ?_ _
            go_wp2_with fail
            go_meet
            exact ⟨v0.heap.size, ⟨some ⟨v1.heap.size, 0, none⟩, 32, some ⟨v2.heap.size, 0, none⟩, 22, ar, cr, none, 0, none, 0⟩, rfl, ⟨setRow_heap _ _ _ _ _ _ hra.out, (fam_setRow (fam_new (B := w.heap.size + 1) (E := v4.heap.size) fx.out fc.out fr.out (by omega) (by omega) (by omega) (by omega) (by omega) (by omega)) v0.heap.size (new_ne fx.out fc.out fr.out (by omega) (by omega) (by omega)) #[.int .u64 2147483648, .slice (some ⟨v1.heap.size, 0, none⟩) 32 32, .int .i64 3, .slice (some ⟨v2.heap.size, 0, none⟩) 22 22, .slice ar n cr, .int .u64 0, .int .u64 0, .bool false, .slice none 0 0, .slice none 0 0, .int .i64 0, .int .u64 0, .bool false, .bool false]).low (Nat.le_refl _) (by rw [setRow_size]; exact Nat.le_refl _), new_ne fx.out fc.out fr.out (by omega) (by omega) (by omega), by omega, hqe⟩, rfl, rfl, rfl, rfl⟩
          · go_simp
            refine (HNC.out _).mono ?_
            rintro e v2 ⟨rfl, ow, hb2⟩
            have fc := dhid (fam_one (q := wRow (some ⟨v1.heap.size, 0, none⟩) 22 22 (List.replicate 22 0)) ow hb2)
            clear ow
            have hra := dhid (dstays hb2 hra.out)
            have hs2 := hb2.size
            have q2 := PB.out _ _ q1 hb2
            clear hb2
            refine hK.out _ _ (KS.out _ q2) (fun hHeld => ?_)
            clear hK
            refine wpAnyH_ready (rs := [0, 3]) (by kernel_rfl) (by simp) ?_
            refine AllReadyH.cons (o := { dst := some 9, op := _, type := _, pos := _, after := _, guard := _ }) rfl (fun K hK => ?_) (AllReadyH.cons (o := { dst := some 12, op := _, type := _, pos := _, after := _, guard := _ }) rfl (fun K hK => ?_) AllReadyH.nil)
            · refine wpH_make (by rfl) 32 (.const (.int .i64 32)) (.const (.int .i64 32)) rfl rfl rfl (by omega) ?_
              intro v3 ow hb3
              have fx := dhid (fam_one (q := wRow (some ⟨v2.heap.size, 0, none⟩) 32 32 (List.replicate 32 0)) ow hb3)
              clear ow
              simp only [Act.put, List.setIfInBounds_toArray, List.set_cons_zero, List.set_cons_succ]
              have fc := dhid (fc.out.below hb3)
              have hra := dhid (dstays hb3 hra.out)
              have hs3 := hb3.size
              have q3 := PB.out _ _ q2 hb3
              clear hb3
              refine hK.out _ _ (KS.out _ q3) (fun hHeld => ?_)
              clear hK
              refine rdy 3 12 (fun K hK => ?_)
              go_simp
              refine (HCL.out _ q3).mono ?_
              rintro e v4 ⟨ar, cr, rfl, ow, hb4⟩
              have fr := dhid (fam_one (q := bRow ar n cr ram) ow hb4)
              clear ow
              have fx := dhid (fx.out.below hb4)
              have fc := dhid (fc.out.below hb4)
              have hra := dhid (dstays hb4 hra.out)
              have hs4 := hb4.size
              have q4 := PB.out _ _ q3 hb4
              clear hb4
              refine hK.out _ _ (KS.out _ q4) (fun hHeld => ?_)
              clear hK
              refine wpAnyH_take (i := 4) (oi := { dst := some 13, op := _, type := _, pos := _, after := _, guard := _ }) (v := .agg #[.int .u64 2147483648, .slice (some ⟨v2.heap.size, 0, none⟩) 32 32, .int .i64 3, .slice (some ⟨v1.heap.size, 0, none⟩) 22 22, .slice ar n cr, .int .u64 0, .int .u64 0, .bool false, .slice none 0 0, .slice none 0 0, .int .i64 0, .int .u64 0, .bool false, .bool false]) rfl (by kernel_rfl) (by kernel_rfl) (by kernel_rfl) (fun _ _ _ h => h) (Or.inl ⟨by rfl, ?_⟩) (by assumption) ?_
              · intro w' hSw
                exact yields_build _ _ rfl [(0, .int .u64 2147483648), (1, .slice (some ⟨v2.heap.size, 0, none⟩) 32 32), (2, .int .i64 3), (3, .slice (some ⟨v1.heap.size, 0, none⟩) 22 22), (4, .slice ar n cr)] rfl _ (raw_built _ _ _ _ _)
              simp only [Act.put, List.setIfInBounds_toArray, List.set_cons_zero, List.set_cons_succ]
              refine wpAnyH_ready (rs := [6]) (by kernel_rfl) (by simp) ?_
              refine AllReadyH.cons (o := { dst := none, op := _, type := _, pos := _, after := _, guard := _ }) rfl (fun K hK => ?_) AllReadyH.nil
              refine wpH_row (by rfl) 30 (.tmp 4) (.tmp 13) rfl v0.heap.size rfl #[.int .u64 0, .slice none 0 0, .int .i64 0, .slice none 0 0, .slice none 0 0, .int .u64 0, .int .u64 0, .bool false, .slice none 0 0, .slice none 0 0, .int .i64 0, .int .u64 0, .bool false, .bool false] #[.int .u64 2147483648, .slice (some ⟨v2.heap.size, 0, none⟩) 32 32, .int .i64 3, .slice (some ⟨v1.heap.size, 0, none⟩) 22 22, .slice ar n cr, .int .u64 0, .int .u64 0, .bool false, .slice none 0 0, .slice none 0 0, .int .i64 0, .int .u64 0, .bool false, .bool false] rfl 30 hra.out mac_size rfl (raw_one _ _ _ _ _) ?_
              simp only [Act.put]
              have hqe := PU.out _ v0.heap.size q4 (by omega) #[.int .u64 2147483648, .slice (some ⟨v2.heap.size, 0, none⟩) 32 32, .int .i64 3, .slice (some ⟨v1.heap.size, 0, none⟩) 22 22, .slice ar n cr, .int .u64 0, .int .u64 0, .bool false, .slice none 0 0, .slice none 0 0, .int .i64 0, .int .u64 0, .bool false, .bool false]
              refine hK.out _ _ (KS.out _ hqe) (fun hHeld => ?_)
              clear hK
              refine wpAnyH_done (by kernel_rfl) ?_ _
              go_wp2_with fail
              go_meet
              exact ⟨v0.heap.size, ⟨some ⟨v2.heap.size, 0, none⟩, 32, some ⟨v1.heap.size, 0, none⟩, 22, ar, cr, none, 0, none, 0⟩, rfl, ⟨setRow_heap _ _ _ _ _ _ hra.out, (fam_setRow (fam_new (B := w.heap.size + 1) (E := v4.heap.size) fx.out fc.out fr.out (by omega) (by omega) (by omega) (by omega) (by omega) (by omega)) v0.heap.size (new_ne fx.out fc.out fr.out (by omega) (by omega) (by omega)) #[.int .u64 2147483648, .slice (some ⟨v2.heap.size, 0, none⟩) 32 32, .int .i64 3, .slice (some ⟨v1.heap.size, 0, none⟩) 22 22, .slice ar n cr, .int .u64 0, .int .u64 0, .bool false, .slice none 0 0, .slice none 0 0, .int .i64 0, .int .u64 0, .bool false, .bool false]).low (Nat.le_refl _) (by rw [setRow_size]; exact Nat.le_refl _), new_ne fx.out fc.out fr.out (by omega) (by omega) (by omega), by omega, hqe⟩, rfl, rfl, rfl, rfl⟩
            · go_simp
              refine (HCL.out _ q2).mono ?_
              rintro e v3 ⟨ar, cr, rfl, ow, hb3⟩
              have fr := dhid (fam_one (q := bRow ar n cr ram) ow hb3)
              clear ow
              have fc := dhid (fc.out.below hb3)
              have hra := dhid (dstays hb3 hra.out)
              have hs3 := hb3.size
              have q3 := PB.out _ _ q2 hb3
              clear hb3
              refine hK.out _ _ (KS.out _ q3) (fun hHeld => ?_)
              clear hK
              refine rdy 0 9 (fun K hK => ?_)
              refine wpH_make (by rfl) 32 (.const (.int .i64 32)) (.const (.int .i64 32)) rfl rfl rfl (by omega) ?_
              intro v4 ow hb4
              have fx := dhid (fam_one (q := wRow (some ⟨v3.heap.size, 0, none⟩) 32 32 (List.replicate 32 0)) ow hb4)
              clear ow
              simp only [Act.put, List.setIfInBounds_toArray, List.set_cons_zero, List.set_cons_succ]
              have fc := dhid (fc.out.below hb4)
              have fr := dhid (fr.out.below hb4)
              have hra := dhid (dstays hb4 hra.out)
              have hs4 := hb4.size
              have q4 := PB.out _ _ q3 hb4
              clear hb4
              refine hK.out _ _ (KS.out _ q4) (fun hHeld => ?_)
              clear hK
              refine wpAnyH_take (i := 4) (oi := { dst := some 13, op := _, type := _, pos := _, after := _, guard := _ }) (v := .agg #[.int .u64 2147483648, .slice (some ⟨v3.heap.size, 0, none⟩) 32 32, .int .i64 3, .slice (some ⟨v1.heap.size, 0, none⟩) 22 22, .slice ar n cr, .int .u64 0, .int .u64 0, .bool false, .slice none 0 0, .slice none 0 0, .int .i64 0, .int .u64 0, .bool false, .bool false]) rfl (by kernel_rfl) (by kernel_rfl) (by kernel_rfl) (fun _ _ _ h => h) (Or.inl ⟨by rfl, ?_⟩) (by assumption) ?_
              · intro w' hSw
                exact yields_build _ _ rfl [(0, .int .u64 2147483648), (1, .slice (some ⟨v3.heap.size, 0, none⟩) 32 32), (2, .int .i64 3), (3, .slice (some ⟨v1.heap.size, 0, none⟩) 22 22), (4, .slice ar n cr)] rfl _ (raw_built _ _ _ _ _)
              simp only [Act.put, List.setIfInBounds_toArray, List.set_cons_zero, List.set_cons_succ]
              refine wpAnyH_ready (rs := [6]) (by kernel_rfl) (by simp) ?_
              refine AllReadyH.cons (o := { dst := none, op := _, type := _, pos := _, after := _, guard := _ }) rfl (fun K hK => ?_) AllReadyH.nil
              refine wpH_row (by rfl) 30 (.tmp 4) (.tmp 13) rfl v0.heap.size rfl #[.int .u64 0, .slice none 0 0, .int .i64 0, .slice none 0 0, .slice none 0 0, .int .u64 0, .int .u64 0, .bool false, .slice none 0 0, .slice none 0 0, .int .i64 0, .int .u64 0, .bool false, .bool false] #[.int .u64 2147483648, .slice (some ⟨v3.heap.size, 0, none⟩) 32 32, .int .i64 3, .slice (some ⟨v1.heap.size, 0, none⟩) 22 22, .slice ar n cr, .int .u64 0, .int .u64 0, .bool false, .slice none 0 0, .slice none 0 0, .int .i64 0, .int .u64 0, .bool false, .bool false] rfl 30 hra.out mac_size rfl (raw_one _ _ _ _ _) ?_
              simp only [Act.put]
              have hqe := PU.out _ v0.heap.size q4 (by omega) #[.int .u64 2147483648, .slice (some ⟨v3.heap.size, 0, none⟩) 32 32, .int .i64 3, .slice (some ⟨v1.heap.size, 0, none⟩) 22 22, .slice ar n cr, .int .u64 0, .int .u64 0, .bool false, .slice none 0 0, .slice none 0 0, .int .i64 0, .int .u64 0, .bool false, .bool false]
              refine hK.out _ _ (KS.out _ hqe) (fun hHeld => ?_)
              clear hK
              refine wpAnyH_done (by kernel_rfl) ?_ _
              go_wp2_with fail
              go_meet
              exact ⟨v0.heap.size, ⟨some ⟨v3.heap.size, 0, none⟩, 32, some ⟨v1.heap.size, 0, none⟩, 22, ar, cr, none, 0, none, 0⟩, rfl, ⟨setRow_heap _ _ _ _ _ _ hra.out, (fam_setRow (fam_new (B := w.heap.size + 1) (E := v4.heap.size) fx.out fc.out fr.out (by omega) (by omega) (by omega) (by omega) (by omega) (by omega)) v0.heap.size (new_ne fx.out fc.out fr.out (by omega) (by omega) (by omega)) #[.int .u64 2147483648, .slice (some ⟨v3.heap.size, 0, none⟩) 32 32, .int .i64 3, .slice (some ⟨v1.heap.size, 0, none⟩) 22 22, .slice ar n cr, .int .u64 0, .int .u64 0, .bool false, .slice none 0 0, .slice none 0 0, .int .i64 0, .int .u64 0, .bool false, .bool false]).low (Nat.le_refl _) (by rw [setRow_size]; exact Nat.le_refl _), new_ne fx.out fc.out fr.out (by omega) (by omega) (by omega), by omega, hqe⟩, rfl, rfl, rfl, rfl⟩
    case rest =>
      obtain ⟨r, C, rfl, LI, cai, cci, cao, cco⟩ := hcut
      have LJ : Hid (wc.heap[r]? = some (.cells #[.int .u64 2147483648, .slice C.ax 32 C.cx, .int .i64 3, .slice C.ac 22 C.cc, .slice C.ar n C.cr, .int .u64 0, .int .u64 0, .bool false, .slice C.ai 0 C.ci, .slice C.ao 0 C.co, .int .i64 0, .int .u64 0, .bool false, .bool false] 30 (0, 0)) ∧ Fam (w.heap.size + 1) wc.heap.size wc (mvF (rawM ram) C) ∧ (∀ q ∈ mvF (rawM ram) C, q.v.ownBlock ≠ some r) ∧ w.heap.size + 1 ≤ r ∧ Q wc) := by
        have h := LI.out
        obtain ⟨ax, cx, ac, cc, ar, cr, ai, ci, ao, co⟩ := C
        dsimp only at cai cci cao cco h
        subst cai
        subst cci
        subst cao
        subst cco
        have hn2 := HN.out.1
        subst hn2
        exact h
      obtain ⟨row, fam, ne, hr, qc⟩ := LJ.out
      clear LI LJ cai cci cao cco
      go_wp2_with fail
      refine (HLN.out C r _ _ _ row fam ne).mono ?_
      rintro e w3 ⟨rfl, row3, fm3, kp3⟩
      have q3 : Q w3 := PK.out _ _ _ _ _ qc kp3 fam (Nat.le_refl _)
      have Z3 := dhid kp3.size
      have nd1 : ¬ r = w.heap.size := by omega
      have nd2 : ¬ w.heap.size = r := by omega
      clear kp3 row fam ne
      obtain ⟨a0, a1, a2, a3, a4, a5, a6, a7, a8, a9, a10, a11, a12, a13⟩ := cells14 row3
      obtain ⟨s0, s1, s2, s3, s4, s5, s6, s7, s8, s9, s10, s11, s12, s13⟩ := cells14 (PR.out _ q3)
      obtain ⟨y0, y1, y2, y3, y4, y5, y6, y7, y8, y9, y10, y11, y12, y13⟩ := froz14 (PR.out _ q3)
      go_wp2_with fail
      exact bodyPost_ret (results_ct8 Try.results7 _ _ _ _ _ _ _ rfl (row_put14 (PR.out _ q3) (.int .u64 2147483648) (.slice C.ax 32 C.cx) (.int .i64 3) (.slice C.ac 22 C.cc) (.slice C.ar n C.cr) (.int .u64 0) (.int .u64 0) (.bool false) (.slice C.ai 0 C.ci) (.slice C.ao 0 C.co) (.int .i64 0) (.int .u64 0) (.bool false) (.bool false)) Try.underlying30 rfl mac_size) rfl ⟨C, by rw [F.out, HMV.out]; rfl, by rw [F.out]; exact (fm3.put14 w.heap.size (.inl (by omega)) (.int .u64 2147483648) (.slice C.ax 32 C.cx) (.int .i64 3) (.slice C.ac 22 C.cc) (.slice C.ar n C.cr) (.int .u64 0) (.int .u64 0) (.bool false) (.slice C.ai 0 C.ci) (.slice C.ao 0 C.co) (.int .i64 0) (.int .u64 0) (.bool false) (.bool false)).low (by omega) (by have := Z3.out; simp only [size_set]; omega), below_put14 (PE.out _ q3) (Nat.le_refl _) (.int .u64 2147483648) (.slice C.ax 32 C.cx) (.int .i64 3) (.slice C.ac 22 C.cc) (.slice C.ar n C.cr) (.int .u64 0) (.int .u64 0) (.bool false) (.slice C.ai 0 C.ci) (.slice C.ao 0 C.co) (.int .i64 0) (.int .u64 0) (.bool false) (.bool false)⟩

end Go.Proofs.Ytcdjfiljlahaeaa
