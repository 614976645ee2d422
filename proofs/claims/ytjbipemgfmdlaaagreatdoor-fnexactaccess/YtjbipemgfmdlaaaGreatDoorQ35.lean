/- Own lemmas. -/
import Derived.Test.YtjbipemgfmdlaaaGreatDoorHandT
import Derived.Test.YtjbipemgfmdlaaaGreatDoorQ34
import Derived.Deep.RegionHeld3
namespace Go.Proofs.YtjbipemgfmdlaaaGreatDoor
open Go.RowKit
set_option linter.unusedVariables false

set_option maxRecDepth 100000 in
set_option maxHeartbeats 25600000 in
theorem implAccess_any (M : MV) (A : MA) (addr size kind x : Int) (w : World) (hl : MLen M) (hs : MSl w M A) (hw : MW M) (hhd : U M.hd) (ha : U addr) (hx : U x) (hT : Tab w) (hgd : Goodly M.ram.length A.ar A.cr) :
    Calls Tryz.prog 7 #[.agg #[.int .u64 M.pc, .slice A.ax M.x.length A.cx, .int .i64 M.pr, .slice A.ac M.cs.length A.cc, .slice A.ar M.ram.length A.cr, .int .u64 M.d.t, .int .u64 M.d.cm, .bool M.d.so, .slice A.ai M.d.xs.length A.ci, .slice A.ao M.d.ys.length A.co, .int .i64 M.d.ir, .int .u64 M.hd, .bool M.hl, .bool M.wt], .int .u64 addr, .int .i64 size, .int .i64 kind, .int .u64 x] w fun e w' => ∃ C' : MA, e = .returned (.tuple #[.int .u64 (accessM M addr size kind x).1, .agg (mvc (accessM M addr size kind x).2.1 C'), .int .i64 (accessM M addr size kind x).2.2]) ∧ Fam w.heap.size w'.heap.size w' (mvF (accessM M addr size kind x).2.1 C') ∧ Below w.heap.size w w' := by
  have B0 : Below w.heap.size w ((w.alloc (.cells #[.int .u64 M.pc, .slice A.ax M.x.length A.cx, .int .i64 M.pr, .slice A.ac M.cs.length A.cc, .slice A.ar M.ram.length A.cr, .int .u64 M.d.t, .int .u64 M.d.cm, .bool M.d.so, .slice A.ai M.d.xs.length A.ci, .slice A.ao M.d.ys.length A.co, .int .i64 M.d.ir, .int .u64 M.hd, .bool M.hl, .bool M.wt] 29)).alloc (.cells #[.int .u64 0, .slice none 0 0, .int .i64 0, .slice none 0 0, .slice none 0 0, .int .u64 0, .int .u64 0, .bool false, .slice none 0 0, .slice none 0 0, .int .i64 0, .int .u64 0, .bool false, .bool false] 29)) := ((Below.refl _ _).alloc (Nat.le_refl _) _).alloc (by simp) _
  obtain ⟨ra, rb⟩ := rows2 (w := w) (o1 := .cells #[.int .u64 M.pc, .slice A.ax M.x.length A.cx, .int .i64 M.pr, .slice A.ac M.cs.length A.cc, .slice A.ar M.ram.length A.cr, .int .u64 M.d.t, .int .u64 M.d.cm, .bool M.d.so, .slice A.ai M.d.xs.length A.ci, .slice A.ao M.d.ys.length A.co, .int .i64 M.d.ir, .int .u64 M.hd, .bool M.hl, .bool M.wt] 29) (o2 := .cells #[.int .u64 0, .slice none 0 0, .int .i64 0, .slice none 0 0, .slice none 0 0, .int .u64 0, .int .u64 0, .bool false, .slice none 0 0, .slice none 0 0, .int .i64 0, .int .u64 0, .bool false, .bool false] 29) (Below.refl _ _)
  have HK : Hid (∀ w', Below w.heap.size w w' → Calls Tryz.prog 10 #[.agg #[.int .u64 M.pc, .slice A.ax M.x.length A.cx, .int .i64 M.pr, .slice A.ac M.cs.length A.cc, .slice A.ar M.ram.length A.cr, .int .u64 M.d.t, .int .u64 M.d.cm, .bool M.d.so, .slice A.ai M.d.xs.length A.ci, .slice A.ao M.d.ys.length A.co, .int .i64 M.d.ir, .int .u64 M.hd, .bool M.hl, .bool M.wt]] w' fun e w'' => e = .returned (.bool (machB M)) ∧ Below w'.heap.size w' w'') := fun w' hb => implMachineOk_any M A w' hl (hs.below hb) hw.cs
  have HS : Hid (∀ w', Calls Tryz.prog 26 #[.int .i64 size] w' fun e w'' => e = .returned (.bool (sizeB size)) ∧ w'' = w') := fun w' => implSize_any size w'
  have HI : Hid (∀ w', Calls Tryz.prog 27 #[.int .i64 kind] w' fun e w'' => e = .returned (.bool (decide (1 ≤ kind ∧ kind ≤ 3))) ∧ w'' = w') := fun w' => kindOk_e kind w'
  obtain ⟨V, hV⟩ : ∃ V, V = accessM M addr size kind x := ⟨_, rfl⟩
  rw [← hV]
  unfold accessM goodA at hV
  have BH := dhid B0
  have RA := dhid ra
  have RB := dhid rb
  clear B0 ra rb
  cases hmk : machB M with
  | false =>
    rw [hmk] at HK
    have F : Hid (V = (0, zeroM, 99)) := by show _ = _; rw [hV, hmk]; rfl
    clear hV hl hs hw hhd ha hx hT hgd
    go_enter Tryz.func7, Tryz.ntmps7
    go_wp2_with fail
    refine (HK.out _ BH.out).mono ?_
    rintro e w1 ⟨rfl, hb1⟩
    have RES := dhid (dstays hb1 RB.out)
    have BB := dhid (below_trans BH.out hb1)
    clear hb1 RA RB BH
    obtain ⟨s0, s1, s2, s3, s4, s5, s6, s7, s8, s9, s10, s11, s12, s13⟩ := cells14 RES.out
    obtain ⟨y0, y1, y2, y3, y4, y5, y6, y7, y8, y9, y10, y11, y12, y13⟩ := froz14 RES.out
    go_wp2_with fail
    exact bodyPost_ret (results_tct8 Tryz.results7 _ _ _ _ _ _ _ rfl (row_put14 RES.out (.int .u64 0) (.slice none 0 0) (.int .i64 0) (.slice none 0 0) (.slice none 0 0) (.int .u64 0) (.int .u64 0) (.bool false) (.slice none 0 0) (.slice none 0 0) (.int .i64 0) (.int .u64 0) (.bool false) (.bool false)) Tryz.underlying29 rfl mac_size) rfl ⟨zeroA, by rw [F.out]; rfl, by rw [F.out]; exact fam_zeroM _ _ _, below_put14 BB.out (by omega) (.int .u64 0) (.slice none 0 0) (.int .i64 0) (.slice none 0 0) (.slice none 0 0) (.int .u64 0) (.int .u64 0) (.bool false) (.slice none 0 0) (.slice none 0 0) (.int .i64 0) (.int .u64 0) (.bool false) (.bool false)⟩
  | true =>
    rw [hmk] at HK
    cases hsz : sizeB size with
    | false =>
      rw [hsz] at HS
      have F : Hid (V = (0, zeroM, 99)) := by show _ = _; rw [hV, hmk, hsz]; rfl
      clear hV hl hs hw hhd ha hx hT hgd
      go_enter Tryz.func7, Tryz.ntmps7
      go_wp2_with fail
      refine (HK.out _ BH.out).mono ?_
      rintro e w1 ⟨rfl, hb1⟩
      have RES := dhid (dstays hb1 RB.out)
      have BB := dhid (below_trans BH.out hb1)
      clear hb1 RA RB BH
      obtain ⟨s0, s1, s2, s3, s4, s5, s6, s7, s8, s9, s10, s11, s12, s13⟩ := cells14 RES.out
      obtain ⟨y0, y1, y2, y3, y4, y5, y6, y7, y8, y9, y10, y11, y12, y13⟩ := froz14 RES.out
      go_wp2_with fail
      refine (HS.out _).mono ?_
      rintro e w2 ⟨rfl, hw2⟩
      subst w2
      go_wp2_with fail
      exact bodyPost_ret (results_tct8 Tryz.results7 _ _ _ _ _ _ _ rfl (row_put14 RES.out (.int .u64 0) (.slice none 0 0) (.int .i64 0) (.slice none 0 0) (.slice none 0 0) (.int .u64 0) (.int .u64 0) (.bool false) (.slice none 0 0) (.slice none 0 0) (.int .i64 0) (.int .u64 0) (.bool false) (.bool false)) Tryz.underlying29 rfl mac_size) rfl ⟨zeroA, by rw [F.out]; rfl, by rw [F.out]; exact fam_zeroM _ _ _, below_put14 BB.out (by omega) (.int .u64 0) (.slice none 0 0) (.int .i64 0) (.slice none 0 0) (.slice none 0 0) (.int .u64 0) (.int .u64 0) (.bool false) (.slice none 0 0) (.slice none 0 0) (.int .i64 0) (.int .u64 0) (.bool false) (.bool false)⟩
    | true =>
      rw [hsz] at HS
      by_cases hkd : 1 ≤ kind ∧ kind ≤ 3
      · rw [decide_eq_true hkd] at HI
        cases hgx : ((kind == 1) && (size != 4)) with
        | true =>
          have hk1 : (kind == 1) = true := by revert hgx; cases (kind == 1) <;> cases (size != 4) <;> decide
          have hs4 : (size != 4) = true := by revert hgx; cases (kind == 1) <;> cases (size != 4) <;> decide
          have F : Hid (V = (0, zeroM, 99)) := by show _ = _; rw [hV, hmk, hsz, decide_eq_true hkd, hgx]; rfl
          clear hV hl hs hw hhd ha hx hT hgd
          go_enter Tryz.func7, Tryz.ntmps7
          go_wp2_with fail
          refine (HK.out _ BH.out).mono ?_
          rintro e w1 ⟨rfl, hb1⟩
          have RES := dhid (dstays hb1 RB.out)
          have BB := dhid (below_trans BH.out hb1)
          clear hb1 RA RB BH
          obtain ⟨s0, s1, s2, s3, s4, s5, s6, s7, s8, s9, s10, s11, s12, s13⟩ := cells14 RES.out
          obtain ⟨y0, y1, y2, y3, y4, y5, y6, y7, y8, y9, y10, y11, y12, y13⟩ := froz14 RES.out
          clear hgx
          go_wp2_with fail
          refine (HS.out _).mono ?_
          rintro e w2 ⟨rfl, hw2⟩
          subst w2
          go_wp2_with fail
          refine (HI.out _).mono ?_
          rintro e w3 ⟨rfl, hw3⟩
          subst w3
          go_wp2_with fail
          exact bodyPost_ret (results_tct8 Tryz.results7 _ _ _ _ _ _ _ rfl (row_put14 RES.out (.int .u64 0) (.slice none 0 0) (.int .i64 0) (.slice none 0 0) (.slice none 0 0) (.int .u64 0) (.int .u64 0) (.bool false) (.slice none 0 0) (.slice none 0 0) (.int .i64 0) (.int .u64 0) (.bool false) (.bool false)) Tryz.underlying29 rfl mac_size) rfl ⟨zeroA, by rw [F.out]; rfl, by rw [F.out]; exact fam_zeroM _ _ _, below_put14 BB.out (by omega) (.int .u64 0) (.slice none 0 0) (.int .i64 0) (.slice none 0 0) (.slice none 0 0) (.int .u64 0) (.int .u64 0) (.bool false) (.slice none 0 0) (.slice none 0 0) (.int .i64 0) (.int .u64 0) (.bool false) (.bool false)⟩
        | false =>
          have FV : Hid (V = accV M addr size kind x) := by show _ = _; rw [hV, hmk, hsz, decide_eq_true hkd, hgx]; rfl
          have hh : (kind == 1) = false ∨ ((kind == 1) = true ∧ (size != 4) = false) := by revert hgx; cases (kind == 1) <;> cases (size != 4) <;> simp
          clear hgx
          as_aux_lemma =>
            obtain ⟨h22, hcs, hpr, hr0, hd0, hb0⟩ := mach_parts hmk
            have ha2 : 0 ≤ addr ∧ addr < 18446744073709551616 := ha
            have hkk : kind = 1 ∨ kind = 2 ∨ kind = 3 := by omega
            have hs5 : size = 1 ∨ size = 2 ∨ size = 4 ∨ size = 8 := of_decide_eq_true hsz
            have hs1 : 1 ≤ size := by omega
            have hs8 : size ≤ 8 := by omega
            have hp := eff_priv (hw.cs 0) hcs hpr kind
            obtain ⟨p, hpp⟩ : ∃ p, effV M.cs M.pr kind = p := ⟨_, rfl⟩
            obtain ⟨G, hG⟩ : ∃ G, walkV M.ram M.ram.length M.cs p addr kind = G := ⟨_, rfl⟩
            have hga : U G.addr := by rw [← hG]; exact walkV_U _ _ _ _ _ _ ha
            have hlg : legalB 22 M.cs p = true := by unfold legalB; rw [hcs, ← hpp, hp]; rfl
            have hwk : walkOk M.ram.length M.cs.length M.cs p kind = true := by unfold walkOk; rw [hr0, h22, hlg]; unfold kindIn; simpa using hkd
            have HE : Hid (∀ w', Below w.heap.size w w' → Calls Tryz.prog 31 #[.slice A.ac M.cs.length A.cc, .int .i64 M.pr, .int .i64 kind] w' fun e w'' => e = .returned (.int .i64 p) ∧ Below w'.heap.size w' w'') := fun w' hb => by
              have h := implEffective_any A.ac M.cs.length A.cc M.cs M.pr kind w' rfl (hs.cs.below hb) hw.cs
              unfold effB at h
              rw [h22, show legalB 22 M.cs M.pr = true by unfold legalB; rw [hcs, hpr]; rfl, decide_eq_true hkd, hpp] at h
              rw [h22]
              exact h
            have HW : Hid (∀ w', Below w.heap.size w w' → Calls Tryz.prog 32 #[.slice A.ar M.ram.length A.cr, .slice A.ac M.cs.length A.cc, .int .i64 p, .int .u64 addr, .int .i64 kind] w' fun e w'' => ∃ (ka : Option Addr) (kc : Nat), e = .returned (.tuple #[.int .u64 G.addr, .int .i64 G.code, .slice ka (markB M.ram G).length kc]) ∧ Fam w'.heap.size w''.heap.size w'' [bRow ka (markB M.ram G).length kc (markB M.ram G)] ∧ Below w'.heap.size w' w'') := fun w' hb => by
              have h := implWalk_any A.ar M.ram.length A.cr M.ram A.ac M.cs.length A.cc M.cs p addr kind w' rfl hl.ram (hs.ram.below hb) hw.ram rfl (hs.cs.below hb) hw.cs ha (hT.below hb) hgd
              unfold walkA walkC walkB at h
              rw [hwk] at h
              simp only [if_true, hG] at h
              exact h.mono fun e w'' ⟨ka, kc, h1, h2, h3⟩ => ⟨ka, kc, h1, (Fam.nil w'.heap.size w'.heap.size w'').snoc (bRow ka (markB M.ram G).length kc (markB M.ram G)) _ _ h2 (Nat.le_refl _) (Nat.le_refl _) (Nat.le_refl _) h3.size, h3⟩
            have HP : Hid (∀ w', Below w.heap.size w w' → Calls Tryz.prog 33 #[.slice A.ac M.cs.length A.cc, .int .i64 p, .int .u64 G.addr, .int .i64 size, .int .i64 kind] w' fun e w'' => e = .returned (.bool (!barB M.cs p G.addr size kind)) ∧ Below w'.heap.size w' w'') := fun w' hb => by
              have h := implPermits_any A.ac M.cs.length A.cc M.cs p G.addr size kind w' rfl (hs.cs.below hb) hw.cs hga (hT.below hb)
              rw [h22, perm_bar M.cs p G.addr size kind hlg hsz (decide_eq_true hkd)] at h
              rw [h22]
              exact h
            have HCL : Hid (∀ w', Below w.heap.size w w' → Calls Tryz.prog 29 #[.slice A.ar M.ram.length A.cr] w' fun e w'' => ∃ (ka : Option Addr) (kc : Nat), e = .returned (.slice ka M.ram.length kc) ∧ Fam w'.heap.size w''.heap.size w'' [bRow ka M.ram.length kc M.ram] ∧ Below w'.heap.size w' w'') := fun w' hb => (clone_any _ _ _ M.ram w' rfl hl.ram (hs.ram.below hb)).mono fun e W' ⟨ka, kc, h1, h2, h3⟩ => ⟨ka, kc, h1, (Fam.nil w'.heap.size w'.heap.size W').snoc (bRow ka M.ram.length kc M.ram) _ _ h2 (Nat.le_refl _) (Nat.le_refl _) (Nat.le_refl _) h3.size, h3⟩
            have HAP0 : Hid (∀ (ka : Option Addr) (kc B : Nat) (w' : World), Below w.heap.size w w' → Fam B w'.heap.size w' [bRow ka M.ram.length kc M.ram] → B ≤ w'.heap.size → Calls Tryz.prog 28 #[.agg #[.int .u64 M.pc, .slice A.ax M.x.length A.cx, .int .i64 M.pr, .slice A.ac M.cs.length A.cc, .slice A.ar M.ram.length A.cr, .int .u64 M.d.t, .int .u64 M.d.cm, .bool M.d.so, .slice A.ai M.d.xs.length A.ci, .slice A.ao M.d.ys.length A.co, .int .i64 M.d.ir, .int .u64 M.hd, .bool M.hl, .bool M.wt], .slice ka M.ram.length kc] w' fun e w'' => ∃ E : MA, e = .returned (.agg #[.int .u64 M.pc, .slice E.ax M.x.length E.cx, .int .i64 M.pr, .slice E.ac M.cs.length E.cc, .slice E.ar M.ram.length E.cr, .int .u64 M.d.t, .int .u64 M.d.cm, .bool M.d.so, .slice E.ai M.d.xs.length E.ci, .slice E.ao M.d.ys.length E.co, .int .i64 M.d.ir, .int .u64 M.hd, .bool M.hl, .bool M.wt]) ∧ Fam B w''.heap.size w'' (mvF M E) ∧ Below w'.heap.size w' w'') := fun ka kc B w' hb hf hB => (apart_any M A M.ram ka M.ram.length kc B w' hl (hs.below hb) hf hB rfl).mono fun e W' ⟨E, _, _, h1, h2, _, h4⟩ => ⟨E, h1, h2, h4⟩
            obtain ⟨M1, hM1⟩ : ∃ X, X = memM M (markB M.ram G) := ⟨_, rfl⟩
            have hml : (markB M.ram G).length = M1.ram.length := by rw [hM1]; rfl
            have HAP : Hid (∀ (ka : Option Addr) (kc B : Nat) (w' : World), Below w.heap.size w w' → Fam B w'.heap.size w' [bRow ka (markB M.ram G).length kc (markB M.ram G)] → B ≤ w'.heap.size → Calls Tryz.prog 28 #[.agg #[.int .u64 M.pc, .slice A.ax M.x.length A.cx, .int .i64 M.pr, .slice A.ac M.cs.length A.cc, .slice A.ar M.ram.length A.cr, .int .u64 M.d.t, .int .u64 M.d.cm, .bool M.d.so, .slice A.ai M.d.xs.length A.ci, .slice A.ao M.d.ys.length A.co, .int .i64 M.d.ir, .int .u64 M.hd, .bool M.hl, .bool M.wt], .slice ka (markB M.ram G).length kc] w' fun e w'' => ∃ E : MA, e = .returned (.agg #[.int .u64 M1.pc, .slice E.ax M1.x.length E.cx, .int .i64 M1.pr, .slice E.ac M1.cs.length E.cc, .slice E.ar M1.ram.length E.cr, .int .u64 M1.d.t, .int .u64 M1.d.cm, .bool M1.d.so, .slice E.ai M1.d.xs.length E.ci, .slice E.ao M1.d.ys.length E.co, .int .i64 M1.d.ir, .int .u64 M1.hd, .bool M1.hl, .bool M1.wt]) ∧ Fam B w''.heap.size w'' (mvF M1 E) ∧ Below w'.heap.size w' w'') := fun ka kc B w' hb hf hB => (apart_any M A (markB M.ram G) ka (markB M.ram G).length kc B w' hl (hs.below hb) hf hB rfl).mono fun e W' ⟨E, _, _, h1, h2, _, h4⟩ => ⟨E, by rw [hM1]; exact h1, by rw [hM1]; exact h2, h4⟩
            have hRm : Rm M1 := by
              rw [hM1]
              exact ⟨h22, hw.cs 9, hb0, hd0, by show ramOkB (markB M.ram G).length = true; rw [mark_len]; exact hr0, ⟨hl.x, hl.cs, by show (markB M.ram G).length ≤ _; rw [mark_len]; exact hl.ram, hl.xs, hl.ys⟩, mark_wf M.ram hw.ram G, ⟨hw.xs, hw.ys⟩, hhd⟩
            have HR : Hid (∀ (E : MA) (B r : Nat) (w' : World), Mp B r M1 E w' → Calls Tryz.prog 35 #[.pointer (some ⟨r, 0, none⟩), .int .u64 G.addr, .int .i64 size, .int .i64 kind, .int .u64 x] w' fun e w'' => e = .returned (.tuple #[.int .u64 (rch M1 G.addr size kind x).1, .bool (rch M1 G.addr size kind x).2.1]) ∧ ∃ A', Mp B r (rch M1 G.addr size kind x).2.2 A' w'' ∧ Kx r (mvF M1 E) (mvF (rch M1 G.addr size kind x).2.2 A') w' w'') := fun E B r w' h => reach_any M1 E B r G.addr size kind x w' h hRm hsz hkk hga hx
            obtain ⟨cc, hcc0⟩ : ∃ c : Int, c = if kind = 1 then 0 else if kind = 2 then 4 else 6 := ⟨_, rfl⟩
            obtain ⟨ac, hac0⟩ : ∃ c : Int, c = if kind = 2 then 5 else if kind = 3 then 7 else 1 := ⟨_, rfl⟩
            have HCC : Hid (∀ w', Calls Tryz.prog 30 #[.int .i64 kind] w' fun e w'' => e = .returned (.int .i64 cc) ∧ w'' = w') := fun w' => by rw [hcc0]; exact crookedCode_9 kind hkk w'
            have HAC : Hid (∀ w', Calls Tryz.prog 34 #[.int .i64 kind] w' fun e w'' => e = .returned (.int .i64 ac) ∧ w'' = w') := fun w' => by rw [hac0]; exact accessCode_9 kind hkk w'
            obtain ⟨qc, hqc⟩ : ∃ q, q = wrap64 (cc + 16) := ⟨_, rfl⟩
            obtain ⟨qa, hqa⟩ : ∃ q, q = wrap64 (ac + 16) := ⟨_, rfl⟩
            have HQC : Hid (IntKind.i64.wrap (cc + 16) = qc) := by show _ = _; rw [hqc]; simp only [IntKind.wrap_i64, wrap64]
            have HQA : Hid (IntKind.i64.wrap (ac + 16) = qa) := by show _ = _; rw [hqa]; simp only [IntKind.wrap_i64, wrap64]
            have hcc : crookK kind = qc := by rw [hqc, hcc0]; rcases hkk with rfl | rfl | rfl <;> decide +kernel
            have hac : faultK kind = qa := by rw [hqa, hac0]; rcases hkk with rfl | rfl | rfl <;> decide +kernel
            clear hqc hqa
            have FX0 : (addr % size != 0) = false → V = if (G.code != 0) = true then (0, M1, wrap64 (G.code + 16)) else if barB M.cs p G.addr size kind = true then (0, M1, faultK kind) else if (rch M1 G.addr size kind x).2.1 = true then ((rch M1 G.addr size kind x).1, (rch M1 G.addr size kind x).2.2, 0) else (0, (rch M1 G.addr size kind x).2.2, faultK kind) := fun h => by
              rw [FV.out]
              unfold accV accW
              rw [h, hpp, hG, at_rch, ← hM1]
              rfl
            clear hl hs hw hhd hx hT hgd hmk hsz hV hcs hpr hr0 hd0 hb0 hs5 hp hga hlg hwk hRm hcc0 hac0 hM1 hkk h22
            cases hcr : (addr % size != 0) with
            | true =>
              clear FX0 hac
              have F : Hid (V = (0, M, qc)) := by show _ = _; rw [FV.out]; unfold accV; rw [hcr, hcc]; rfl
              clear HE HW HP HR HAP FV hcc HAC hml hG hpp
              rcases hh with hk1 | ⟨hk1, hs4⟩
              all_goals
                as_aux_lemma =>
                  go_enter Tryz.func7, Tryz.ntmps7
                  go_wp2_with fail
                  refine (HK.out _ BH.out).mono ?_
                  rintro e w1 ⟨rfl, hb1⟩
                  have RA1 := dhid (dstays hb1 RA.out)
                  have RB1 := dhid (dstays hb1 RB.out)
                  have B1 := dhid (below_trans BH.out hb1)
                  have hr1 : w.heap.size + 1 < w1.heap.size := (Array.getElem?_eq_some_iff.1 RB1.out).1
                  clear hb1 RA RB BH
                  obtain ⟨a0, a1, a2, a3, a4, a5, a6, a7, a8, a9, a10, a11, a12, a13⟩ := cells14 RA1.out
                  go_wp2_with fail
                  refine (HS.out _).mono ?_
                  rintro e w2 ⟨rfl, hw2⟩
                  subst w2
                  go_wp2_with fail
                  refine (HI.out _).mono ?_
                  rintro e w3 ⟨rfl, hw3⟩
                  subst w3
                  go_wp2_with fail
                  obtain ⟨Q, hQ⟩ : ∃ Q : World → Prop, Q = fun W => W.heap[w.heap.size]? = some (.cells #[.int .u64 M.pc, .slice A.ax M.x.length A.cx, .int .i64 M.pr, .slice A.ac M.cs.length A.cc, .slice A.ar M.ram.length A.cr, .int .u64 M.d.t, .int .u64 M.d.cm, .bool M.d.so, .slice A.ai M.d.xs.length A.ci, .slice A.ao M.d.ys.length A.co, .int .i64 M.d.ir, .int .u64 M.hd, .bool M.hl, .bool M.wt] 29 (0, 0)) ∧ Below w.heap.size w W := ⟨_, rfl⟩
                  have KS : Hid (∀ w', Q w' → (w'.cell? ⟨w.heap.size, 0, none⟩ = some (.int .u64 M.pc) ∧ w'.cell? ⟨w.heap.size, 1, none⟩ = some (.slice A.ax M.x.length A.cx) ∧ w'.cell? ⟨w.heap.size, 2, none⟩ = some (.int .i64 M.pr) ∧ w'.cell? ⟨w.heap.size, 3, none⟩ = some (.slice A.ac M.cs.length A.cc) ∧ w'.cell? ⟨w.heap.size, 4, none⟩ = some (.slice A.ar M.ram.length A.cr) ∧ w'.cell? ⟨w.heap.size, 5, none⟩ = some (.int .u64 M.d.t) ∧ w'.cell? ⟨w.heap.size, 6, none⟩ = some (.int .u64 M.d.cm) ∧ w'.cell? ⟨w.heap.size, 7, none⟩ = some (.bool M.d.so) ∧ w'.cell? ⟨w.heap.size, 8, none⟩ = some (.slice A.ai M.d.xs.length A.ci) ∧ w'.cell? ⟨w.heap.size, 9, none⟩ = some (.slice A.ao M.d.ys.length A.co) ∧ w'.cell? ⟨w.heap.size, 10, none⟩ = some (.int .i64 M.d.ir) ∧ w'.cell? ⟨w.heap.size, 11, none⟩ = some (.int .u64 M.hd) ∧ w'.cell? ⟨w.heap.size, 12, none⟩ = some (.bool M.hl) ∧ w'.cell? ⟨w.heap.size, 13, none⟩ = some (.bool M.wt)) ∧ Q w') := fun w' h => ⟨by rw [hQ] at h; exact cells14 h.1, h⟩
                  have PB : Hid (∀ W W', Q W → Below W.heap.size W W' → Q W') := by rw [hQ]; exact fun W W' h hb => ⟨dstays hb h.1, below_trans h.2 hb⟩
                  have PE : Hid (∀ W, Q W → Below w.heap.size w W) := by rw [hQ]; exact fun W h => h.2
                  have PS : Hid (∀ W cs, Q W → Q (W.setRow (w.heap.size + 1) cs)) := by rw [hQ]; exact fun W cs h => ⟨(setRow_other _ _ _ _ (by omega)).trans h.1, row_below h.2 (by omega) cs⟩
                  have p0 : Q w1.drew := by rw [hQ]; exact ⟨RA1.out, B1.out.drew⟩
                  clear hQ
                  refine wp_region_held_drew (S := (fun w' => (w'.cell? ⟨w.heap.size, 0, none⟩ = some (.int .u64 M.pc) ∧ w'.cell? ⟨w.heap.size, 1, none⟩ = some (.slice A.ax M.x.length A.cx) ∧ w'.cell? ⟨w.heap.size, 2, none⟩ = some (.int .i64 M.pr) ∧ w'.cell? ⟨w.heap.size, 3, none⟩ = some (.slice A.ac M.cs.length A.cc) ∧ w'.cell? ⟨w.heap.size, 4, none⟩ = some (.slice A.ar M.ram.length A.cr) ∧ w'.cell? ⟨w.heap.size, 5, none⟩ = some (.int .u64 M.d.t) ∧ w'.cell? ⟨w.heap.size, 6, none⟩ = some (.int .u64 M.d.cm) ∧ w'.cell? ⟨w.heap.size, 7, none⟩ = some (.bool M.d.so) ∧ w'.cell? ⟨w.heap.size, 8, none⟩ = some (.slice A.ai M.d.xs.length A.ci) ∧ w'.cell? ⟨w.heap.size, 9, none⟩ = some (.slice A.ao M.d.ys.length A.co) ∧ w'.cell? ⟨w.heap.size, 10, none⟩ = some (.int .i64 M.d.ir) ∧ w'.cell? ⟨w.heap.size, 11, none⟩ = some (.int .u64 M.hd) ∧ w'.cell? ⟨w.heap.size, 12, none⟩ = some (.bool M.hl) ∧ w'.cell? ⟨w.heap.size, 13, none⟩ = some (.bool M.wt)) ∧ Q w')) (by kernel_rfl) (KS.out _ p0) (fun hHeld => ?_)
                  refine tkL 0 47 (.agg #[.int .u64 M.pc, .slice A.ax M.x.length A.cx, .int .i64 M.pr, .slice A.ac M.cs.length A.cc, .slice A.ar M.ram.length A.cr, .int .u64 M.d.t, .int .u64 M.d.cm, .bool M.d.so, .slice A.ai M.d.xs.length A.ci, .slice A.ao M.d.ys.length A.co, .int .i64 M.d.ir, .int .u64 M.hd, .bool M.hl, .bool M.wt]) rfl (by kernel_rfl) (fun _ _ _ h => h) (by rfl) (fun w' hSw => by go_simp) (by assumption) ?_
                  simp only [sZ, sS]
                  refine tkL 1 48 (.pointer (some ⟨w.heap.size, 4, none⟩)) rfl (by kernel_rfl) (fun _ _ _ h => h) (by rfl) (fun w' hSw => by go_simp) (by assumption) ?_
                  simp only [sZ, sS]
                  refine tkL 2 49 (.slice A.ar M.ram.length A.cr) rfl (by kernel_rfl) (fun _ _ _ h => h) (by rfl) (fun w' hSw => by go_simp) (by assumption) ?_
                  simp only [sZ, sS]
                  refine tkL 5 52 (.int .i64 kind) rfl (by kernel_rfl) (fun _ _ _ h => h) (by rfl) (fun w' hSw => by go_simp) (by assumption) ?_
                  simp only [sZ, sS]
                  have hr1d : w.heap.size + 1 < w1.drew.heap.size := hr1
                  refine wpAnyH_ready (rs := [3]) (by kernel_rfl) (by simp) ?_
                  refine AllReadyH.cons (o := { dst := some 50, op := _, type := _, pos := _, after := _, guard := _ }) rfl (fun K hK => ?_) AllReadyH.nil
                  go_simp
                  refine (HCL.out _ (PE.out _ p0)).mono ?_
                  rintro e v1 ⟨ka, kc, rfl, fr, hb1⟩
                  have q1 := PB.out _ _ p0 hb1
                  refine hK.out _ _ (KS.out _ q1) (fun hHeld => ?_)
                  clear hK
                  refine wpAnyH_ready (rs := [4]) (by kernel_rfl) (by simp) ?_
                  refine AllReadyH.cons (o := { dst := some 51, op := _, type := _, pos := _, after := _, guard := _ }) rfl (fun K hK => ?_) AllReadyH.nil
                  go_simp
                  refine (HAP0.out _ _ _ _ (PE.out _ q1) fr hb1.size).mono ?_
                  rintro e v2 ⟨E, rfl, fc, hb2⟩
                  have q2 := PB.out _ _ q1 hb2
                  refine hK.out _ _ (KS.out _ q2) (fun hHeld => ?_)
                  clear hK
                  refine wpAnyH_ready (rs := [6]) (by kernel_rfl) (by simp) ?_
                  refine AllReadyH.cons (o := { dst := some 53, op := _, type := _, pos := _, after := _, guard := _ }) rfl (fun K hK => ?_) AllReadyH.nil
                  go_simp
                  refine (HCC.out _).mono ?_
                  rintro e v3 ⟨rfl, hv3⟩
                  subst v3
                  refine hK.out _ _ (KS.out _ q2) (fun hHeld => ?_)
                  clear hK
                  refine wpAnyH_take (i := 7) (oi := { dst := some 54, op := _, type := _, pos := _, after := _, guard := _ }) (v := .int .i64 qc) rfl (by kernel_rfl) (by kernel_rfl) (by kernel_rfl) (fun _ _ _ h => h) (Or.inl ⟨by rfl, ?_⟩) (by assumption) ?_
                  · intro w' hSw
                    go_simp
                    exact HQC.out
                  simp only [Act.put, List.setIfInBounds_toArray, List.set_cons_zero, List.set_cons_succ]
                  refine tkL 8 10 (.int .u64 0) rfl (by kernel_rfl) (fun _ _ _ h => h) (by rfl) (fun w' hSw => by go_simp) (by assumption) ?_
                  simp only [sZ, sS]
                  have rb2 : v2.heap[w.heap.size + 1]? = some (.cells #[.int .u64 0, .slice none 0 0, .int .i64 0, .slice none 0 0, .slice none 0 0, .int .u64 0, .int .u64 0, .bool false, .slice none 0 0, .slice none 0 0, .int .i64 0, .int .u64 0, .bool false, .bool false] 29 (0, 0)) := dstays hb2 (dstays hb1 RB1.out)
                  have q3 := PS.out v2 #[.int .u64 M.pc, .slice E.ax M.x.length E.cx, .int .i64 M.pr, .slice E.ac M.cs.length E.cc, .slice E.ar M.ram.length E.cr, .int .u64 M.d.t, .int .u64 M.d.cm, .bool M.d.so, .slice E.ai M.d.xs.length E.ci, .slice E.ao M.d.ys.length E.co, .int .i64 M.d.ir, .int .u64 M.hd, .bool M.hl, .bool M.wt] q2
                  refine wpAnyH_ready (rs := [9]) (by kernel_rfl) (by simp) ?_
                  refine AllReadyH.cons (o := { dst := none, op := _, type := _, pos := _, after := _, guard := _ }) rfl (fun K hK => ?_) AllReadyH.nil
                  refine wpH_row9 (by rfl) 29 (.tmp 11) (.tmp 51) rfl (w.heap.size + 1) rfl #[.int .u64 0, .slice none 0 0, .int .i64 0, .slice none 0 0, .slice none 0 0, .int .u64 0, .int .u64 0, .bool false, .slice none 0 0, .slice none 0 0, .int .i64 0, .int .u64 0, .bool false, .bool false] #[.int .u64 M.pc, .slice E.ax M.x.length E.cx, .int .i64 M.pr, .slice E.ac M.cs.length E.cc, .slice E.ar M.ram.length E.cr, .int .u64 M.d.t, .int .u64 M.d.cm, .bool M.d.so, .slice E.ai M.d.xs.length E.ci, .slice E.ao M.d.ys.length E.co, .int .i64 M.d.ir, .int .u64 M.hd, .bool M.hl, .bool M.wt] rfl 29 rb2 mac_size rfl (mvc_one M E) ?_
                  simp only [Act.put]
                  refine hK.out _ _ (KS.out _ q3) (fun hHeld => ?_)
                  clear hK
                  refine tkL 10 12 (.int .i64 qc) rfl (by kernel_rfl) (fun _ _ _ h => h) (by rfl) (fun w' hSw => by go_simp) (by assumption) ?_
                  simp only [sZ, sS]
                  refine wpAnyH_done (by kernel_rfl) ?_ _
                  go_wp2_with fail
                  exact bodyPost_ret (results_tct8 Tryz.results7 _ _ _ _ _ _ _ rfl (setRow_heap _ _ _ _ _ _ rb2) Tryz.underlying29 rfl mac_size) rfl ⟨E, by rw [F.out]; rfl, by rw [F.out]; exact (fam_row9 fc (w.heap.size + 1) (fun q hq e => by have h1 := ((fc.own q hq).lt _ e).1; omega) #[.int .u64 M.pc, .slice E.ax M.x.length E.cx, .int .i64 M.pr, .slice E.ac M.cs.length E.cc, .slice E.ar M.ram.length E.cr, .int .u64 M.d.t, .int .u64 M.d.cm, .bool M.d.so, .slice E.ai M.d.xs.length E.ci, .slice E.ao M.d.ys.length E.co, .int .i64 M.d.ir, .int .u64 M.hd, .bool M.hl, .bool M.wt]).low (by have := (PE.out _ p0).size; exact this) (by rw [setRow_size]; exact Nat.le_refl _), PE.out _ q3⟩
            | false =>
              have FX := dhid (FX0 hcr)
              clear FX0 FV hG hpp
              obtain ⟨fa, fc, fm, ft, fe⟩ := G
              dsimp only at HW HP HR FX
              obtain ⟨qf, hqf⟩ : ∃ q, q = wrap64 (fc + 16) := ⟨_, rfl⟩
              have HQF : Hid (IntKind.i64.wrap (fc + 16) = qf) := by show _ = _; rw [hqf]; simp only [IntKind.wrap_i64, wrap64]
              rw [← hqf] at FX
              clear hqf
              generalize rch M1 fa size kind x = RC at *
              obtain ⟨y, ok, M2⟩ := RC
              dsimp only at HR FX
              generalize barB M.cs p fa size kind = bar at *
              generalize markB M.ram ⟨fa, fc, fm, ft, fe⟩ = RR at *
              rw [hml] at HW HAP
              clear hml hcc
              rcases hh with hk1 | ⟨hk1, hs4⟩
              all_goals
                as_aux_lemma =>
                  clear HCL HAP0 HCC
                  go_enter Tryz.func7, Tryz.ntmps7
                  go_wp2_with fail
                  refine (HK.out _ BH.out).mono ?_
                  rintro e w1 ⟨rfl, hb1⟩
                  have RA1 := dhid (dstays hb1 RA.out)
                  have RB1 := dhid (dstays hb1 RB.out)
                  have B1 := dhid (below_trans BH.out hb1)
                  have hr1 : w.heap.size + 1 < w1.heap.size := (Array.getElem?_eq_some_iff.1 RB1.out).1
                  clear hb1 RA RB BH
                  obtain ⟨a0, a1, a2, a3, a4, a5, a6, a7, a8, a9, a10, a11, a12, a13⟩ := cells14 RA1.out
                  go_wp2_with fail
                  refine (HS.out _).mono ?_
                  rintro e w2 ⟨rfl, hw2⟩
                  subst w2
                  go_wp2_with fail
                  refine (HI.out _).mono ?_
                  rintro e w3 ⟨rfl, hw3⟩
                  subst w3
                  go_wp2_with fail
                  refine (HE.out _ B1.out).mono ?_
                  rintro e w2 ⟨rfl, hb2⟩
                  have RA2 := dhid (dstays hb2 RA1.out)
                  have RB2 := dhid (dstays hb2 RB1.out)
                  have B2 := dhid (below_trans B1.out hb2)
                  have hr2 : w.heap.size + 1 < w2.heap.size := (Array.getElem?_eq_some_iff.1 RB2.out).1
                  clear hb2 RA1 RB1 B1 hr1
                  clear a0 a1 a2 a3 a4 a5 a6 a7 a8 a9 a10 a11 a12 a13
                  obtain ⟨a0, a1, a2, a3, a4, a5, a6, a7, a8, a9, a10, a11, a12, a13⟩ := cells14 RA2.out
                  go_wp2_with fail
                  refine (HW.out _ B2.out).mono ?_
                  rintro e w3 ⟨ka, kc, rfl, fr, hb3⟩
                  have RA3 := dhid (dstays hb3 RA2.out)
                  have RB3 := dhid (dstays hb3 RB2.out)
                  have B3 := dhid (below_trans B2.out hb3)
                  have FR := dhid fr
                  have H3 := dhid hb3.size
                  clear hb3 RA2 RB2 B2 fr
                  clear a0 a1 a2 a3 a4 a5 a6 a7 a8 a9 a10 a11 a12 a13
                  obtain ⟨a0, a1, a2, a3, a4, a5, a6, a7, a8, a9, a10, a11, a12, a13⟩ := cells14 RA3.out
                  go_wp2_with fail
                  refine (HAP.out _ _ _ _ B3.out FR.out H3.out).mono ?_
                  rintro e w4 ⟨E, rfl, fm4, hb4⟩
                  have hr4 : w2.heap.size ≤ w4.heap.size := Nat.le_trans H3.out hb4.size
                  have MP5 : Hid (Mp w2.heap.size w4.heap.size M1 E (w4.alloc (.cells #[.int .u64 M1.pc, .slice E.ax M1.x.length E.cx, .int .i64 M1.pr, .slice E.ac M1.cs.length E.cc, .slice E.ar M1.ram.length E.cr, .int .u64 M1.d.t, .int .u64 M1.d.cm, .bool M1.d.so, .slice E.ai M1.d.xs.length E.ci, .slice E.ao M1.d.ys.length E.co, .int .i64 M1.d.ir, .int .u64 M1.hd, .bool M1.hl, .bool M1.wt] 29))) := ⟨heap_alloc_new _ _, (fm4.below ((Below.refl _ _).alloc (Nat.le_refl _) _)).low (Nat.le_refl _) (by simp), fun q hq e => by have := fm4.hi q hq _ e; omega, hr4⟩
                  have B5 := dhid ((below_trans B3.out hb4).alloc (below_trans B3.out hb4).size (.cells #[.int .u64 M1.pc, .slice E.ax M1.x.length E.cx, .int .i64 M1.pr, .slice E.ac M1.cs.length E.cc, .slice E.ar M1.ram.length E.cr, .int .u64 M1.d.t, .int .u64 M1.d.cm, .bool M1.d.so, .slice E.ai M1.d.xs.length E.ci, .slice E.ao M1.d.ys.length E.co, .int .i64 M1.d.ir, .int .u64 M1.hd, .bool M1.hl, .bool M1.wt] 29))
                  have RA5 := dhid (row_al8 (dstays hb4 RA3.out) (.cells #[.int .u64 M1.pc, .slice E.ax M1.x.length E.cx, .int .i64 M1.pr, .slice E.ac M1.cs.length E.cc, .slice E.ar M1.ram.length E.cr, .int .u64 M1.d.t, .int .u64 M1.d.cm, .bool M1.d.so, .slice E.ai M1.d.xs.length E.ci, .slice E.ao M1.d.ys.length E.co, .int .i64 M1.d.ir, .int .u64 M1.hd, .bool M1.hl, .bool M1.wt] 29))
                  have RB5 := dhid (row_al8 (dstays hb4 RB3.out) (.cells #[.int .u64 M1.pc, .slice E.ax M1.x.length E.cx, .int .i64 M1.pr, .slice E.ac M1.cs.length E.cc, .slice E.ar M1.ram.length E.cr, .int .u64 M1.d.t, .int .u64 M1.d.cm, .bool M1.d.so, .slice E.ai M1.d.xs.length E.ci, .slice E.ao M1.d.ys.length E.co, .int .i64 M1.d.ir, .int .u64 M1.hd, .bool M1.hl, .bool M1.wt] 29))
                  obtain ⟨r, hr⟩ : ∃ r, r = w4.heap.size := ⟨_, rfl⟩
                  have hrl : w.heap.size + 1 < r := by omega
                  obtain ⟨w5, hw5⟩ : ∃ W, W = w4.alloc (.cells #[.int .u64 M1.pc, .slice E.ax M1.x.length E.cx, .int .i64 M1.pr, .slice E.ac M1.cs.length E.cc, .slice E.ar M1.ram.length E.cr, .int .u64 M1.d.t, .int .u64 M1.d.cm, .bool M1.d.so, .slice E.ai M1.d.xs.length E.ci, .slice E.ao M1.d.ys.length E.co, .int .i64 M1.d.ir, .int .u64 M1.hd, .bool M1.hl, .bool M1.wt] 29) := ⟨_, rfl⟩
                  rw [← hw5, ← hr] at MP5
                  rw [← hw5] at B5 RA5 RB5
                  have Z2 := dhid hr2
                  clear hb4 fm4 RA3 RB3 B3 FR H3 hr4
                  clear a0 a1 a2 a3 a4 a5 a6 a7 a8 a9 a10 a11 a12 a13
                  cases hcd : (fc != 0) with
                  | true =>
                    have F : Hid (V = (0, M1, qf)) := by show _ = _; rw [FX.out, hcd]; rfl
                    go_wp2_with fail
                    rw [← hr, ← hw5]
                    clear hr hw5
                    obtain ⟨Q, hQ⟩ : ∃ Q : World → Prop, Q = fun W => W.heap[r]? = some (.cells (mvc M1 E) 29 (0, 0)) := ⟨_, rfl⟩
                    have KS : Hid (∀ w', Q w' → (w'.cell? ⟨r, 0, none⟩ = some (.int .u64 M1.pc) ∧ w'.cell? ⟨r, 1, none⟩ = some (.slice E.ax M1.x.length E.cx) ∧ w'.cell? ⟨r, 2, none⟩ = some (.int .i64 M1.pr) ∧ w'.cell? ⟨r, 3, none⟩ = some (.slice E.ac M1.cs.length E.cc) ∧ w'.cell? ⟨r, 4, none⟩ = some (.slice E.ar M1.ram.length E.cr) ∧ w'.cell? ⟨r, 5, none⟩ = some (.int .u64 M1.d.t) ∧ w'.cell? ⟨r, 6, none⟩ = some (.int .u64 M1.d.cm) ∧ w'.cell? ⟨r, 7, none⟩ = some (.bool M1.d.so) ∧ w'.cell? ⟨r, 8, none⟩ = some (.slice E.ai M1.d.xs.length E.ci) ∧ w'.cell? ⟨r, 9, none⟩ = some (.slice E.ao M1.d.ys.length E.co) ∧ w'.cell? ⟨r, 10, none⟩ = some (.int .i64 M1.d.ir) ∧ w'.cell? ⟨r, 11, none⟩ = some (.int .u64 M1.hd) ∧ w'.cell? ⟨r, 12, none⟩ = some (.bool M1.hl) ∧ w'.cell? ⟨r, 13, none⟩ = some (.bool M1.wt)) ∧ Q w') := fun w' h => ⟨by rw [hQ] at h; exact cells14 h, h⟩
                    have QI : Hid (∀ W, W.heap[r]? = some (.cells (mvc M1 E) 29 (0, 0)) → Q W) := by rw [hQ]; exact fun W h => h
                    clear hQ
                    have q6 : Q w5.drew := QI.out _ MP5.out.row
                    have q7 : Q (w5.drew.setRow (w.heap.size + 1) #[.int .u64 M1.pc, .slice E.ax M1.x.length E.cx, .int .i64 M1.pr, .slice E.ac M1.cs.length E.cc, .slice E.ar M1.ram.length E.cr, .int .u64 M1.d.t, .int .u64 M1.d.cm, .bool M1.d.so, .slice E.ai M1.d.xs.length E.ci, .slice E.ao M1.d.ys.length E.co, .int .i64 M1.d.ir, .int .u64 M1.hd, .bool M1.hl, .bool M1.wt]) := QI.out _ ((setRow_other _ _ _ _ (by omega)).trans MP5.out.row)
                    refine wp_region_held_drew (S := (fun w' => (w'.cell? ⟨r, 0, none⟩ = some (.int .u64 M1.pc) ∧ w'.cell? ⟨r, 1, none⟩ = some (.slice E.ax M1.x.length E.cx) ∧ w'.cell? ⟨r, 2, none⟩ = some (.int .i64 M1.pr) ∧ w'.cell? ⟨r, 3, none⟩ = some (.slice E.ac M1.cs.length E.cc) ∧ w'.cell? ⟨r, 4, none⟩ = some (.slice E.ar M1.ram.length E.cr) ∧ w'.cell? ⟨r, 5, none⟩ = some (.int .u64 M1.d.t) ∧ w'.cell? ⟨r, 6, none⟩ = some (.int .u64 M1.d.cm) ∧ w'.cell? ⟨r, 7, none⟩ = some (.bool M1.d.so) ∧ w'.cell? ⟨r, 8, none⟩ = some (.slice E.ai M1.d.xs.length E.ci) ∧ w'.cell? ⟨r, 9, none⟩ = some (.slice E.ao M1.d.ys.length E.co) ∧ w'.cell? ⟨r, 10, none⟩ = some (.int .i64 M1.d.ir) ∧ w'.cell? ⟨r, 11, none⟩ = some (.int .u64 M1.hd) ∧ w'.cell? ⟨r, 12, none⟩ = some (.bool M1.hl) ∧ w'.cell? ⟨r, 13, none⟩ = some (.bool M1.wt)) ∧ Q w')) (by kernel_rfl) (KS.out _ q6) (fun hHeld => ?_)
                    refine tkL 0 78 (.agg #[.int .u64 M1.pc, .slice E.ax M1.x.length E.cx, .int .i64 M1.pr, .slice E.ac M1.cs.length E.cc, .slice E.ar M1.ram.length E.cr, .int .u64 M1.d.t, .int .u64 M1.d.cm, .bool M1.d.so, .slice E.ai M1.d.xs.length E.ci, .slice E.ao M1.d.ys.length E.co, .int .i64 M1.d.ir, .int .u64 M1.hd, .bool M1.hl, .bool M1.wt]) rfl (by kernel_rfl) (fun _ _ _ h => h) (by rfl) (fun w' hSw => by go_simp) (by assumption) ?_
                    simp only [sZ, sS]
                    refine tkL 1 79 (.int .i64 fc) rfl (by kernel_rfl) (fun _ _ _ h => h) (by rfl) (fun w' hSw => by go_simp) (by assumption) ?_
                    simp only [sZ, sS]
                    refine wpAnyH_take (i := 2) (oi := { dst := some 80, op := _, type := _, pos := _, after := _, guard := _ }) (v := .int .i64 qf) rfl (by kernel_rfl) (by kernel_rfl) (by kernel_rfl) (fun _ _ _ h => h) (Or.inl ⟨by rfl, ?_⟩) (by assumption) ?_
                    · intro w' hSw
                      go_simp
                      exact HQF.out
                    simp only [Act.put, List.setIfInBounds_toArray, List.set_cons_zero, List.set_cons_succ]
                    refine tkL 3 10 (.int .u64 0) rfl (by kernel_rfl) (fun _ _ _ h => h) (by rfl) (fun w' hSw => by go_simp) (by assumption) ?_
                    simp only [sZ, sS]
                    refine wpAnyH_ready (rs := [4]) (by kernel_rfl) (by simp) ?_
                    refine AllReadyH.cons (o := { dst := none, op := _, type := _, pos := _, after := _, guard := _ }) rfl (fun K hK => ?_) AllReadyH.nil
                    refine wpH_row9 (by rfl) 29 (.tmp 11) (.tmp 78) rfl (w.heap.size + 1) rfl #[.int .u64 0, .slice none 0 0, .int .i64 0, .slice none 0 0, .slice none 0 0, .int .u64 0, .int .u64 0, .bool false, .slice none 0 0, .slice none 0 0, .int .i64 0, .int .u64 0, .bool false, .bool false] #[.int .u64 M1.pc, .slice E.ax M1.x.length E.cx, .int .i64 M1.pr, .slice E.ac M1.cs.length E.cc, .slice E.ar M1.ram.length E.cr, .int .u64 M1.d.t, .int .u64 M1.d.cm, .bool M1.d.so, .slice E.ai M1.d.xs.length E.ci, .slice E.ao M1.d.ys.length E.co, .int .i64 M1.d.ir, .int .u64 M1.hd, .bool M1.hl, .bool M1.wt] rfl 29 (show w5.drew.heap[w.heap.size + 1]? = _ from RB5.out) mac_size rfl (mvc_one M1 E) ?_
                    simp only [Act.put]
                    refine hK.out _ _ (KS.out _ q7) (fun hHeld => ?_)
                    clear hK
                    refine tkL 5 12 (.int .i64 qf) rfl (by kernel_rfl) (fun _ _ _ h => h) (by rfl) (fun w' hSw => by go_simp) (by assumption) ?_
                    simp only [sZ, sS]
                    refine wpAnyH_done (by kernel_rfl) ?_ _
                    go_wp2_with fail
                    exact bodyPost_ret (results_tct8 Tryz.results7 _ _ _ _ _ _ _ rfl (setRow_heap _ _ _ _ _ _ (show w5.drew.heap[w.heap.size + 1]? = _ from RB5.out)) Tryz.underlying29 rfl mac_size) rfl ⟨E, by rw [F.out]; rfl, by rw [F.out]; exact (fam_row9 (MP5.out.fam.below (Below.refl _ _).drew) (w.heap.size + 1) (fun q hq e => by have h1 := ((MP5.out.fam.own q hq).lt _ e).1; have := Z2.out; omega) #[.int .u64 M1.pc, .slice E.ax M1.x.length E.cx, .int .i64 M1.pr, .slice E.ac M1.cs.length E.cc, .slice E.ar M1.ram.length E.cr, .int .u64 M1.d.t, .int .u64 M1.d.cm, .bool M1.d.so, .slice E.ai M1.d.xs.length E.ci, .slice E.ao M1.d.ys.length E.co, .int .i64 M1.d.ir, .int .u64 M1.hd, .bool M1.hl, .bool M1.wt]).low (by have := Z2.out; omega) (by rw [setRow_size]; exact Nat.le_refl _), by exact row_below B5.out.drew (by omega) #[.int .u64 M1.pc, .slice E.ax M1.x.length E.cx, .int .i64 M1.pr, .slice E.ac M1.cs.length E.cc, .slice E.ar M1.ram.length E.cr, .int .u64 M1.d.t, .int .u64 M1.d.cm, .bool M1.d.so, .slice E.ai M1.d.xs.length E.ci, .slice E.ao M1.d.ys.length E.co, .int .i64 M1.d.ir, .int .u64 M1.hd, .bool M1.hl, .bool M1.wt]⟩
                  | false =>
                    have c3 := (cells14 RA5.out).2.2.2.1
                    rw [hw5] at c3
                    go_wp2_with fail
                    rw [← hr, ← hw5]
                    clear hr hw5 c3
                    refine (HP.out _ B5.out).mono ?_
                    rintro e w6 ⟨rfl, hb6⟩
                    have MP6 := dhid (MP5.out.below hb6)
                    have RB6 := dhid (dstays hb6 RB5.out)
                    have B6 := dhid (below_trans B5.out hb6)
                    clear hb6 MP5 RA5 RB5 B5
                    cases bar with
                    | true =>
                      have F : Hid (V = (0, M1, qa)) := by show _ = _; rw [FX.out, hcd, hac]; rfl
                      go_wp2_with fail
                      obtain ⟨Q, hQ⟩ : ∃ Q : World → Prop, Q = fun W => W.heap[r]? = some (.cells (mvc M1 E) 29 (0, 0)) := ⟨_, rfl⟩
                      have KS : Hid (∀ w', Q w' → (w'.cell? ⟨r, 0, none⟩ = some (.int .u64 M1.pc) ∧ w'.cell? ⟨r, 1, none⟩ = some (.slice E.ax M1.x.length E.cx) ∧ w'.cell? ⟨r, 2, none⟩ = some (.int .i64 M1.pr) ∧ w'.cell? ⟨r, 3, none⟩ = some (.slice E.ac M1.cs.length E.cc) ∧ w'.cell? ⟨r, 4, none⟩ = some (.slice E.ar M1.ram.length E.cr) ∧ w'.cell? ⟨r, 5, none⟩ = some (.int .u64 M1.d.t) ∧ w'.cell? ⟨r, 6, none⟩ = some (.int .u64 M1.d.cm) ∧ w'.cell? ⟨r, 7, none⟩ = some (.bool M1.d.so) ∧ w'.cell? ⟨r, 8, none⟩ = some (.slice E.ai M1.d.xs.length E.ci) ∧ w'.cell? ⟨r, 9, none⟩ = some (.slice E.ao M1.d.ys.length E.co) ∧ w'.cell? ⟨r, 10, none⟩ = some (.int .i64 M1.d.ir) ∧ w'.cell? ⟨r, 11, none⟩ = some (.int .u64 M1.hd) ∧ w'.cell? ⟨r, 12, none⟩ = some (.bool M1.hl) ∧ w'.cell? ⟨r, 13, none⟩ = some (.bool M1.wt)) ∧ Q w') := fun w' h => ⟨by rw [hQ] at h; exact cells14 h, h⟩
                      have QI : Hid (∀ W, W.heap[r]? = some (.cells (mvc M1 E) 29 (0, 0)) → Q W) := by rw [hQ]; exact fun W h => h
                      clear hQ
                      have q6 : Q w6.drew := QI.out _ MP6.out.row
                      have q7 : Q (w6.drew.setRow (w.heap.size + 1) #[.int .u64 M1.pc, .slice E.ax M1.x.length E.cx, .int .i64 M1.pr, .slice E.ac M1.cs.length E.cc, .slice E.ar M1.ram.length E.cr, .int .u64 M1.d.t, .int .u64 M1.d.cm, .bool M1.d.so, .slice E.ai M1.d.xs.length E.ci, .slice E.ao M1.d.ys.length E.co, .int .i64 M1.d.ir, .int .u64 M1.hd, .bool M1.hl, .bool M1.wt]) := QI.out _ ((setRow_other _ _ _ _ (by omega)).trans MP6.out.row)
                      refine wp_region_held_drew (S := (fun w' => (w'.cell? ⟨r, 0, none⟩ = some (.int .u64 M1.pc) ∧ w'.cell? ⟨r, 1, none⟩ = some (.slice E.ax M1.x.length E.cx) ∧ w'.cell? ⟨r, 2, none⟩ = some (.int .i64 M1.pr) ∧ w'.cell? ⟨r, 3, none⟩ = some (.slice E.ac M1.cs.length E.cc) ∧ w'.cell? ⟨r, 4, none⟩ = some (.slice E.ar M1.ram.length E.cr) ∧ w'.cell? ⟨r, 5, none⟩ = some (.int .u64 M1.d.t) ∧ w'.cell? ⟨r, 6, none⟩ = some (.int .u64 M1.d.cm) ∧ w'.cell? ⟨r, 7, none⟩ = some (.bool M1.d.so) ∧ w'.cell? ⟨r, 8, none⟩ = some (.slice E.ai M1.d.xs.length E.ci) ∧ w'.cell? ⟨r, 9, none⟩ = some (.slice E.ao M1.d.ys.length E.co) ∧ w'.cell? ⟨r, 10, none⟩ = some (.int .i64 M1.d.ir) ∧ w'.cell? ⟨r, 11, none⟩ = some (.int .u64 M1.hd) ∧ w'.cell? ⟨r, 12, none⟩ = some (.bool M1.hl) ∧ w'.cell? ⟨r, 13, none⟩ = some (.bool M1.wt)) ∧ Q w')) (by kernel_rfl) (KS.out _ q6) (fun hHeld => ?_)
                      refine tkL 0 89 (.agg #[.int .u64 M1.pc, .slice E.ax M1.x.length E.cx, .int .i64 M1.pr, .slice E.ac M1.cs.length E.cc, .slice E.ar M1.ram.length E.cr, .int .u64 M1.d.t, .int .u64 M1.d.cm, .bool M1.d.so, .slice E.ai M1.d.xs.length E.ci, .slice E.ao M1.d.ys.length E.co, .int .i64 M1.d.ir, .int .u64 M1.hd, .bool M1.hl, .bool M1.wt]) rfl (by kernel_rfl) (fun _ _ _ h => h) (by rfl) (fun w' hSw => by go_simp) (by assumption) ?_
                      simp only [sZ, sS]
                      refine tkL 1 90 (.int .i64 kind) rfl (by kernel_rfl) (fun _ _ _ h => h) (by rfl) (fun w' hSw => by go_simp) (by assumption) ?_
                      simp only [sZ, sS]
                      refine wpAnyH_ready (rs := [2]) (by kernel_rfl) (by simp) ?_
                      refine AllReadyH.cons (o := { dst := some 91, op := _, type := _, pos := _, after := _, guard := _ }) rfl (fun K hK => ?_) AllReadyH.nil
                      go_simp
                      refine (HAC.out _).mono ?_
                      rintro e wq ⟨rfl, hwq⟩
                      subst wq
                      refine hK.out _ _ (KS.out _ q6) (fun hHeld => ?_)
                      clear hK
                      refine wpAnyH_take (i := 3) (oi := { dst := some 92, op := _, type := _, pos := _, after := _, guard := _ }) (v := .int .i64 qa) rfl (by kernel_rfl) (by kernel_rfl) (by kernel_rfl) (fun _ _ _ h => h) (Or.inl ⟨by rfl, ?_⟩) (by assumption) ?_
                      · intro w' hSw
                        go_simp
                        exact HQA.out
                      simp only [Act.put, List.setIfInBounds_toArray, List.set_cons_zero, List.set_cons_succ]
                      refine tkL 4 10 (.int .u64 0) rfl (by kernel_rfl) (fun _ _ _ h => h) (by rfl) (fun w' hSw => by go_simp) (by assumption) ?_
                      simp only [sZ, sS]
                      refine wpAnyH_ready (rs := [5]) (by kernel_rfl) (by simp) ?_
                      refine AllReadyH.cons (o := { dst := none, op := _, type := _, pos := _, after := _, guard := _ }) rfl (fun K hK => ?_) AllReadyH.nil
                      refine wpH_row9 (by rfl) 29 (.tmp 11) (.tmp 89) rfl (w.heap.size + 1) rfl #[.int .u64 0, .slice none 0 0, .int .i64 0, .slice none 0 0, .slice none 0 0, .int .u64 0, .int .u64 0, .bool false, .slice none 0 0, .slice none 0 0, .int .i64 0, .int .u64 0, .bool false, .bool false] #[.int .u64 M1.pc, .slice E.ax M1.x.length E.cx, .int .i64 M1.pr, .slice E.ac M1.cs.length E.cc, .slice E.ar M1.ram.length E.cr, .int .u64 M1.d.t, .int .u64 M1.d.cm, .bool M1.d.so, .slice E.ai M1.d.xs.length E.ci, .slice E.ao M1.d.ys.length E.co, .int .i64 M1.d.ir, .int .u64 M1.hd, .bool M1.hl, .bool M1.wt] rfl 29 (show w6.drew.heap[w.heap.size + 1]? = _ from RB6.out) mac_size rfl (mvc_one M1 E) ?_
                      simp only [Act.put]
                      refine hK.out _ _ (KS.out _ q7) (fun hHeld => ?_)
                      clear hK
                      refine tkL 6 12 (.int .i64 qa) rfl (by kernel_rfl) (fun _ _ _ h => h) (by rfl) (fun w' hSw => by go_simp) (by assumption) ?_
                      simp only [sZ, sS]
                      refine wpAnyH_done (by kernel_rfl) ?_ _
                      go_wp2_with fail
                      exact bodyPost_ret (results_tct8 Tryz.results7 _ _ _ _ _ _ _ rfl (setRow_heap _ _ _ _ _ _ (show w6.drew.heap[w.heap.size + 1]? = _ from RB6.out)) Tryz.underlying29 rfl mac_size) rfl ⟨E, by rw [F.out]; rfl, by rw [F.out]; exact (fam_row9 (MP6.out.fam.below (Below.refl _ _).drew) (w.heap.size + 1) (fun q hq e => by have h1 := ((MP6.out.fam.own q hq).lt _ e).1; have := Z2.out; omega) #[.int .u64 M1.pc, .slice E.ax M1.x.length E.cx, .int .i64 M1.pr, .slice E.ac M1.cs.length E.cc, .slice E.ar M1.ram.length E.cr, .int .u64 M1.d.t, .int .u64 M1.d.cm, .bool M1.d.so, .slice E.ai M1.d.xs.length E.ci, .slice E.ao M1.d.ys.length E.co, .int .i64 M1.d.ir, .int .u64 M1.hd, .bool M1.hl, .bool M1.wt]).low (by have := Z2.out; omega) (by rw [setRow_size]; exact Nat.le_refl _), by exact row_below B6.out.drew (by omega) #[.int .u64 M1.pc, .slice E.ax M1.x.length E.cx, .int .i64 M1.pr, .slice E.ac M1.cs.length E.cc, .slice E.ar M1.ram.length E.cr, .int .u64 M1.d.t, .int .u64 M1.d.cm, .bool M1.d.so, .slice E.ai M1.d.xs.length E.ci, .slice E.ao M1.d.ys.length E.co, .int .i64 M1.d.ir, .int .u64 M1.hd, .bool M1.hl, .bool M1.wt]⟩
                    | false =>
                      go_wp2_with fail
                      refine (HR.out E _ r _ MP6.out).mono ?_
                      rintro e w7 ⟨rfl, A', mp7, kx7⟩
                      have UB := MP6.out.under kx7
                      have B7 := dhid (B6.out.trans (UB.mono (by have := B6.out.size; omega)))
                      have RB7 := dhid ((UB.block (w.heap.size + 1) (by omega)).trans RB6.out)
                      have MP7 := dhid mp7
                      clear mp7 kx7 UB MP6 B6 RB6
                      cases ok with
                      | false =>
                        have F : Hid (V = (0, M2, qa)) := by show _ = _; rw [FX.out, hcd, hac]; rfl
                        go_wp2_with fail
                        obtain ⟨Q, hQ⟩ : ∃ Q : World → Prop, Q = fun W => W.heap[r]? = some (.cells (mvc M2 A') 29 (0, 0)) := ⟨_, rfl⟩
                        have KS : Hid (∀ w', Q w' → (w'.cell? ⟨r, 0, none⟩ = some (.int .u64 M2.pc) ∧ w'.cell? ⟨r, 1, none⟩ = some (.slice A'.ax M2.x.length A'.cx) ∧ w'.cell? ⟨r, 2, none⟩ = some (.int .i64 M2.pr) ∧ w'.cell? ⟨r, 3, none⟩ = some (.slice A'.ac M2.cs.length A'.cc) ∧ w'.cell? ⟨r, 4, none⟩ = some (.slice A'.ar M2.ram.length A'.cr) ∧ w'.cell? ⟨r, 5, none⟩ = some (.int .u64 M2.d.t) ∧ w'.cell? ⟨r, 6, none⟩ = some (.int .u64 M2.d.cm) ∧ w'.cell? ⟨r, 7, none⟩ = some (.bool M2.d.so) ∧ w'.cell? ⟨r, 8, none⟩ = some (.slice A'.ai M2.d.xs.length A'.ci) ∧ w'.cell? ⟨r, 9, none⟩ = some (.slice A'.ao M2.d.ys.length A'.co) ∧ w'.cell? ⟨r, 10, none⟩ = some (.int .i64 M2.d.ir) ∧ w'.cell? ⟨r, 11, none⟩ = some (.int .u64 M2.hd) ∧ w'.cell? ⟨r, 12, none⟩ = some (.bool M2.hl) ∧ w'.cell? ⟨r, 13, none⟩ = some (.bool M2.wt)) ∧ Q w') := fun w' h => ⟨by rw [hQ] at h; exact cells14 h, h⟩
                        have QI : Hid (∀ W, W.heap[r]? = some (.cells (mvc M2 A') 29 (0, 0)) → Q W) := by rw [hQ]; exact fun W h => h
                        clear hQ
                        have q6 : Q w7.drew := QI.out _ MP7.out.row
                        have q7 : Q (w7.drew.setRow (w.heap.size + 1) #[.int .u64 M2.pc, .slice A'.ax M2.x.length A'.cx, .int .i64 M2.pr, .slice A'.ac M2.cs.length A'.cc, .slice A'.ar M2.ram.length A'.cr, .int .u64 M2.d.t, .int .u64 M2.d.cm, .bool M2.d.so, .slice A'.ai M2.d.xs.length A'.ci, .slice A'.ao M2.d.ys.length A'.co, .int .i64 M2.d.ir, .int .u64 M2.hd, .bool M2.hl, .bool M2.wt]) := QI.out _ ((setRow_other _ _ _ _ (by omega)).trans MP7.out.row)
                        refine wp_region_held_drew (S := (fun w' => (w'.cell? ⟨r, 0, none⟩ = some (.int .u64 M2.pc) ∧ w'.cell? ⟨r, 1, none⟩ = some (.slice A'.ax M2.x.length A'.cx) ∧ w'.cell? ⟨r, 2, none⟩ = some (.int .i64 M2.pr) ∧ w'.cell? ⟨r, 3, none⟩ = some (.slice A'.ac M2.cs.length A'.cc) ∧ w'.cell? ⟨r, 4, none⟩ = some (.slice A'.ar M2.ram.length A'.cr) ∧ w'.cell? ⟨r, 5, none⟩ = some (.int .u64 M2.d.t) ∧ w'.cell? ⟨r, 6, none⟩ = some (.int .u64 M2.d.cm) ∧ w'.cell? ⟨r, 7, none⟩ = some (.bool M2.d.so) ∧ w'.cell? ⟨r, 8, none⟩ = some (.slice A'.ai M2.d.xs.length A'.ci) ∧ w'.cell? ⟨r, 9, none⟩ = some (.slice A'.ao M2.d.ys.length A'.co) ∧ w'.cell? ⟨r, 10, none⟩ = some (.int .i64 M2.d.ir) ∧ w'.cell? ⟨r, 11, none⟩ = some (.int .u64 M2.hd) ∧ w'.cell? ⟨r, 12, none⟩ = some (.bool M2.hl) ∧ w'.cell? ⟨r, 13, none⟩ = some (.bool M2.wt)) ∧ Q w')) (by kernel_rfl) (KS.out _ q6) (fun hHeld => ?_)
                        refine tkL 0 103 (.agg #[.int .u64 M2.pc, .slice A'.ax M2.x.length A'.cx, .int .i64 M2.pr, .slice A'.ac M2.cs.length A'.cc, .slice A'.ar M2.ram.length A'.cr, .int .u64 M2.d.t, .int .u64 M2.d.cm, .bool M2.d.so, .slice A'.ai M2.d.xs.length A'.ci, .slice A'.ao M2.d.ys.length A'.co, .int .i64 M2.d.ir, .int .u64 M2.hd, .bool M2.hl, .bool M2.wt]) rfl (by kernel_rfl) (fun _ _ _ h => h) (by rfl) (fun w' hSw => by go_simp) (by assumption) ?_
                        simp only [sZ, sS]
                        refine tkL 1 104 (.int .i64 kind) rfl (by kernel_rfl) (fun _ _ _ h => h) (by rfl) (fun w' hSw => by go_simp) (by assumption) ?_
                        simp only [sZ, sS]
                        refine wpAnyH_ready (rs := [2]) (by kernel_rfl) (by simp) ?_
                        refine AllReadyH.cons (o := { dst := some 105, op := _, type := _, pos := _, after := _, guard := _ }) rfl (fun K hK => ?_) AllReadyH.nil
                        go_simp
                        refine (HAC.out _).mono ?_
                        rintro e wq ⟨rfl, hwq⟩
                        subst wq
                        refine hK.out _ _ (KS.out _ q6) (fun hHeld => ?_)
                        clear hK
                        refine wpAnyH_take (i := 3) (oi := { dst := some 106, op := _, type := _, pos := _, after := _, guard := _ }) (v := .int .i64 qa) rfl (by kernel_rfl) (by kernel_rfl) (by kernel_rfl) (fun _ _ _ h => h) (Or.inl ⟨by rfl, ?_⟩) (by assumption) ?_
                        · intro w' hSw
                          go_simp
                          exact HQA.out
                        simp only [Act.put, List.setIfInBounds_toArray, List.set_cons_zero, List.set_cons_succ]
                        refine tkL 4 10 (.int .u64 0) rfl (by kernel_rfl) (fun _ _ _ h => h) (by rfl) (fun w' hSw => by go_simp) (by assumption) ?_
                        simp only [sZ, sS]
                        refine wpAnyH_ready (rs := [5]) (by kernel_rfl) (by simp) ?_
                        refine AllReadyH.cons (o := { dst := none, op := _, type := _, pos := _, after := _, guard := _ }) rfl (fun K hK => ?_) AllReadyH.nil
                        refine wpH_row9 (by rfl) 29 (.tmp 11) (.tmp 103) rfl (w.heap.size + 1) rfl #[.int .u64 0, .slice none 0 0, .int .i64 0, .slice none 0 0, .slice none 0 0, .int .u64 0, .int .u64 0, .bool false, .slice none 0 0, .slice none 0 0, .int .i64 0, .int .u64 0, .bool false, .bool false] #[.int .u64 M2.pc, .slice A'.ax M2.x.length A'.cx, .int .i64 M2.pr, .slice A'.ac M2.cs.length A'.cc, .slice A'.ar M2.ram.length A'.cr, .int .u64 M2.d.t, .int .u64 M2.d.cm, .bool M2.d.so, .slice A'.ai M2.d.xs.length A'.ci, .slice A'.ao M2.d.ys.length A'.co, .int .i64 M2.d.ir, .int .u64 M2.hd, .bool M2.hl, .bool M2.wt] rfl 29 (show w7.drew.heap[w.heap.size + 1]? = _ from RB7.out) mac_size rfl (mvc_one M2 A') ?_
                        simp only [Act.put]
                        refine hK.out _ _ (KS.out _ q7) (fun hHeld => ?_)
                        clear hK
                        refine tkL 6 12 (.int .i64 qa) rfl (by kernel_rfl) (fun _ _ _ h => h) (by rfl) (fun w' hSw => by go_simp) (by assumption) ?_
                        simp only [sZ, sS]
                        refine wpAnyH_done (by kernel_rfl) ?_ _
                        go_wp2_with fail
                        exact bodyPost_ret (results_tct8 Tryz.results7 _ _ _ _ _ _ _ rfl (setRow_heap _ _ _ _ _ _ (show w7.drew.heap[w.heap.size + 1]? = _ from RB7.out)) Tryz.underlying29 rfl mac_size) rfl ⟨A', by rw [F.out]; rfl, by rw [F.out]; exact (fam_row9 (MP7.out.fam.below (Below.refl _ _).drew) (w.heap.size + 1) (fun q hq e => by have h1 := ((MP7.out.fam.own q hq).lt _ e).1; have := Z2.out; omega) #[.int .u64 M2.pc, .slice A'.ax M2.x.length A'.cx, .int .i64 M2.pr, .slice A'.ac M2.cs.length A'.cc, .slice A'.ar M2.ram.length A'.cr, .int .u64 M2.d.t, .int .u64 M2.d.cm, .bool M2.d.so, .slice A'.ai M2.d.xs.length A'.ci, .slice A'.ao M2.d.ys.length A'.co, .int .i64 M2.d.ir, .int .u64 M2.hd, .bool M2.hl, .bool M2.wt]).low (by have := Z2.out; omega) (by rw [setRow_size]; exact Nat.le_refl _), by exact row_below B7.out.drew (by omega) #[.int .u64 M2.pc, .slice A'.ax M2.x.length A'.cx, .int .i64 M2.pr, .slice A'.ac M2.cs.length A'.cc, .slice A'.ar M2.ram.length A'.cr, .int .u64 M2.d.t, .int .u64 M2.d.cm, .bool M2.d.so, .slice A'.ai M2.d.xs.length A'.ci, .slice A'.ao M2.d.ys.length A'.co, .int .i64 M2.d.ir, .int .u64 M2.hd, .bool M2.hl, .bool M2.wt]⟩
                      | true =>
                        have F : Hid (V = (y, M2, 0)) := by show _ = _; rw [FX.out, hcd]; rfl
                        go_wp2_with fail
                        obtain ⟨Q, hQ⟩ : ∃ Q : World → Prop, Q = fun W => W.heap[r]? = some (.cells (mvc M2 A') 29 (0, 0)) := ⟨_, rfl⟩
                        have KS : Hid (∀ w', Q w' → (w'.cell? ⟨r, 0, none⟩ = some (.int .u64 M2.pc) ∧ w'.cell? ⟨r, 1, none⟩ = some (.slice A'.ax M2.x.length A'.cx) ∧ w'.cell? ⟨r, 2, none⟩ = some (.int .i64 M2.pr) ∧ w'.cell? ⟨r, 3, none⟩ = some (.slice A'.ac M2.cs.length A'.cc) ∧ w'.cell? ⟨r, 4, none⟩ = some (.slice A'.ar M2.ram.length A'.cr) ∧ w'.cell? ⟨r, 5, none⟩ = some (.int .u64 M2.d.t) ∧ w'.cell? ⟨r, 6, none⟩ = some (.int .u64 M2.d.cm) ∧ w'.cell? ⟨r, 7, none⟩ = some (.bool M2.d.so) ∧ w'.cell? ⟨r, 8, none⟩ = some (.slice A'.ai M2.d.xs.length A'.ci) ∧ w'.cell? ⟨r, 9, none⟩ = some (.slice A'.ao M2.d.ys.length A'.co) ∧ w'.cell? ⟨r, 10, none⟩ = some (.int .i64 M2.d.ir) ∧ w'.cell? ⟨r, 11, none⟩ = some (.int .u64 M2.hd) ∧ w'.cell? ⟨r, 12, none⟩ = some (.bool M2.hl) ∧ w'.cell? ⟨r, 13, none⟩ = some (.bool M2.wt)) ∧ Q w') := fun w' h => ⟨by rw [hQ] at h; exact cells14 h, h⟩
                        have QI : Hid (∀ W, W.heap[r]? = some (.cells (mvc M2 A') 29 (0, 0)) → Q W) := by rw [hQ]; exact fun W h => h
                        clear hQ
                        have q6 : Q w7.drew := QI.out _ MP7.out.row
                        have q7 : Q (w7.drew.setRow (w.heap.size + 1) #[.int .u64 M2.pc, .slice A'.ax M2.x.length A'.cx, .int .i64 M2.pr, .slice A'.ac M2.cs.length A'.cc, .slice A'.ar M2.ram.length A'.cr, .int .u64 M2.d.t, .int .u64 M2.d.cm, .bool M2.d.so, .slice A'.ai M2.d.xs.length A'.ci, .slice A'.ao M2.d.ys.length A'.co, .int .i64 M2.d.ir, .int .u64 M2.hd, .bool M2.hl, .bool M2.wt]) := QI.out _ ((setRow_other _ _ _ _ (by omega)).trans MP7.out.row)
                        refine wp_region_held_drew (S := (fun w' => (w'.cell? ⟨r, 0, none⟩ = some (.int .u64 M2.pc) ∧ w'.cell? ⟨r, 1, none⟩ = some (.slice A'.ax M2.x.length A'.cx) ∧ w'.cell? ⟨r, 2, none⟩ = some (.int .i64 M2.pr) ∧ w'.cell? ⟨r, 3, none⟩ = some (.slice A'.ac M2.cs.length A'.cc) ∧ w'.cell? ⟨r, 4, none⟩ = some (.slice A'.ar M2.ram.length A'.cr) ∧ w'.cell? ⟨r, 5, none⟩ = some (.int .u64 M2.d.t) ∧ w'.cell? ⟨r, 6, none⟩ = some (.int .u64 M2.d.cm) ∧ w'.cell? ⟨r, 7, none⟩ = some (.bool M2.d.so) ∧ w'.cell? ⟨r, 8, none⟩ = some (.slice A'.ai M2.d.xs.length A'.ci) ∧ w'.cell? ⟨r, 9, none⟩ = some (.slice A'.ao M2.d.ys.length A'.co) ∧ w'.cell? ⟨r, 10, none⟩ = some (.int .i64 M2.d.ir) ∧ w'.cell? ⟨r, 11, none⟩ = some (.int .u64 M2.hd) ∧ w'.cell? ⟨r, 12, none⟩ = some (.bool M2.hl) ∧ w'.cell? ⟨r, 13, none⟩ = some (.bool M2.wt)) ∧ Q w')) (by kernel_rfl) (KS.out _ q6) (fun hHeld => ?_)
                        refine tkL 0 107 (.int .u64 y) rfl (by kernel_rfl) (fun _ _ _ h => h) (by rfl) (fun w' hSw => by go_simp) (by assumption) ?_
                        simp only [sZ, sS]
                        refine tkL 1 108 (.agg #[.int .u64 M2.pc, .slice A'.ax M2.x.length A'.cx, .int .i64 M2.pr, .slice A'.ac M2.cs.length A'.cc, .slice A'.ar M2.ram.length A'.cr, .int .u64 M2.d.t, .int .u64 M2.d.cm, .bool M2.d.so, .slice A'.ai M2.d.xs.length A'.ci, .slice A'.ao M2.d.ys.length A'.co, .int .i64 M2.d.ir, .int .u64 M2.hd, .bool M2.hl, .bool M2.wt]) rfl (by kernel_rfl) (fun _ _ _ h => h) (by rfl) (fun w' hSw => by go_simp) (by assumption) ?_
                        simp only [sZ, sS]
                        refine tkL 2 10 (.int .u64 y) rfl (by kernel_rfl) (fun _ _ _ h => h) (by rfl) (fun w' hSw => by go_simp) (by assumption) ?_
                        simp only [sZ, sS]
                        refine wpAnyH_ready (rs := [3]) (by kernel_rfl) (by simp) ?_
                        refine AllReadyH.cons (o := { dst := none, op := _, type := _, pos := _, after := _, guard := _ }) rfl (fun K hK => ?_) AllReadyH.nil
                        refine wpH_row9 (by rfl) 29 (.tmp 11) (.tmp 108) rfl (w.heap.size + 1) rfl #[.int .u64 0, .slice none 0 0, .int .i64 0, .slice none 0 0, .slice none 0 0, .int .u64 0, .int .u64 0, .bool false, .slice none 0 0, .slice none 0 0, .int .i64 0, .int .u64 0, .bool false, .bool false] #[.int .u64 M2.pc, .slice A'.ax M2.x.length A'.cx, .int .i64 M2.pr, .slice A'.ac M2.cs.length A'.cc, .slice A'.ar M2.ram.length A'.cr, .int .u64 M2.d.t, .int .u64 M2.d.cm, .bool M2.d.so, .slice A'.ai M2.d.xs.length A'.ci, .slice A'.ao M2.d.ys.length A'.co, .int .i64 M2.d.ir, .int .u64 M2.hd, .bool M2.hl, .bool M2.wt] rfl 29 (show w7.drew.heap[w.heap.size + 1]? = _ from RB7.out) mac_size rfl (mvc_one M2 A') ?_
                        simp only [Act.put]
                        refine hK.out _ _ (KS.out _ q7) (fun hHeld => ?_)
                        clear hK
                        refine tkL 4 12 (.int .i64 0) rfl (by kernel_rfl) (fun _ _ _ h => h) (by rfl) (fun w' hSw => by go_simp) (by assumption) ?_
                        simp only [sZ, sS]
                        refine wpAnyH_done (by kernel_rfl) ?_ _
                        go_wp2_with fail
                        exact bodyPost_ret (results_tct8 Tryz.results7 _ _ _ _ _ _ _ rfl (setRow_heap _ _ _ _ _ _ (show w7.drew.heap[w.heap.size + 1]? = _ from RB7.out)) Tryz.underlying29 rfl mac_size) rfl ⟨A', by rw [F.out]; rfl, by rw [F.out]; exact (fam_row9 (MP7.out.fam.below (Below.refl _ _).drew) (w.heap.size + 1) (fun q hq e => by have h1 := ((MP7.out.fam.own q hq).lt _ e).1; have := Z2.out; omega) #[.int .u64 M2.pc, .slice A'.ax M2.x.length A'.cx, .int .i64 M2.pr, .slice A'.ac M2.cs.length A'.cc, .slice A'.ar M2.ram.length A'.cr, .int .u64 M2.d.t, .int .u64 M2.d.cm, .bool M2.d.so, .slice A'.ai M2.d.xs.length A'.ci, .slice A'.ao M2.d.ys.length A'.co, .int .i64 M2.d.ir, .int .u64 M2.hd, .bool M2.hl, .bool M2.wt]).low (by have := Z2.out; omega) (by rw [setRow_size]; exact Nat.le_refl _), by exact row_below B7.out.drew (by omega) #[.int .u64 M2.pc, .slice A'.ax M2.x.length A'.cx, .int .i64 M2.pr, .slice A'.ac M2.cs.length A'.cc, .slice A'.ar M2.ram.length A'.cr, .int .u64 M2.d.t, .int .u64 M2.d.cm, .bool M2.d.so, .slice A'.ai M2.d.xs.length A'.ci, .slice A'.ao M2.d.ys.length A'.co, .int .i64 M2.d.ir, .int .u64 M2.hd, .bool M2.hl, .bool M2.wt]⟩
      · rw [decide_eq_false hkd] at HI
        have F : Hid (V = (0, zeroM, 99)) := by show _ = _; rw [hV, hmk, hsz, decide_eq_false hkd]; rfl
        clear hV hl hs hw hhd ha hx hT hgd
        go_enter Tryz.func7, Tryz.ntmps7
        go_wp2_with fail
        refine (HK.out _ BH.out).mono ?_
        rintro e w1 ⟨rfl, hb1⟩
        have RES := dhid (dstays hb1 RB.out)
        have BB := dhid (below_trans BH.out hb1)
        clear hb1 RA RB BH
        obtain ⟨s0, s1, s2, s3, s4, s5, s6, s7, s8, s9, s10, s11, s12, s13⟩ := cells14 RES.out
        obtain ⟨y0, y1, y2, y3, y4, y5, y6, y7, y8, y9, y10, y11, y12, y13⟩ := froz14 RES.out
        go_wp2_with fail
        refine (HS.out _).mono ?_
        rintro e w2 ⟨rfl, hw2⟩
        subst w2
        go_wp2_with fail
        refine (HI.out _).mono ?_
        rintro e w3 ⟨rfl, hw3⟩
        subst w3
        go_wp2_with fail
        exact bodyPost_ret (results_tct8 Tryz.results7 _ _ _ _ _ _ _ rfl (row_put14 RES.out (.int .u64 0) (.slice none 0 0) (.int .i64 0) (.slice none 0 0) (.slice none 0 0) (.int .u64 0) (.int .u64 0) (.bool false) (.slice none 0 0) (.slice none 0 0) (.int .i64 0) (.int .u64 0) (.bool false) (.bool false)) Tryz.underlying29 rfl mac_size) rfl ⟨zeroA, by rw [F.out]; rfl, by rw [F.out]; exact fam_zeroM _ _ _, below_put14 BB.out (by omega) (.int .u64 0) (.slice none 0 0) (.int .i64 0) (.slice none 0 0) (.slice none 0 0) (.int .u64 0) (.int .u64 0) (.bool false) (.slice none 0 0) (.slice none 0 0) (.int .i64 0) (.int .u64 0) (.bool false) (.bool false)⟩

end Go.Proofs.YtjbipemgfmdlaaaGreatDoor
