/- The program's Decode. -/
import Derived.Test.YtjjpklalihaanaaDoorDecQ
namespace Go.Proofs.YtjjpklalihaanaaDoor
open Go.RowKit
set_option linter.unusedVariables false

theorem wpList_indexH {ops : Array Oper} {rest : List Oper} {o : Oper} {a : Act} {w : World} {Q : Exit → Act → World → Prop} {T V : Value} {kk : IntKind} {k : Int} (H : Hid (∀ w : World, (Instr.index 55 T (.int kk k)).run Tryd.prog w = .ok V w)) (hg : o.guard = none) (x i : Operand) (ho : o.op = .index 55 x i)
    (hx : a.eval x = T) (hi : a.eval i = .int kk k) (h : wpList Tryd.prog ops Q rest (a.put o.dst V) w) : wpList Tryd.prog ops Q (o :: rest) a w := by
  refine wpList_plain hg fun K hK => ?_
  have hrun : (execOp a.eval o).run Tryd.prog w = .ok (.value V) w := by
    simp [execOp, ho, hx, hi, H.out]
  unfold Oper.wp
  rw [hrun, Oper.upon_value]
  exact hK _ _ h

theorem none_row (w : World) : (w.alloc (.cells #[.int .i64 0, .int .i64 0, .int .i64 0, .int .i64 0, .int .i64 0] 30)).heap[w.heap.size]? = some (.cells #[.int .i64 0, .int .i64 0, .int .i64 0, .int .i64 0, .int .i64 0] 30 (0, 0)) := heap_alloc_new _ _

set_option maxHeartbeats 1600000 in
theorem implDecode_any (x : Int) (h0 : 0 ≤ x) (h1 : x < 18446744073709551616) (w : World) :
    Calls Tryd.prog 9 #[.int .u64 x] w fun e w' => e = .returned (decV x) ∧ Below w.heap.size w w' := by
  by_cases hbig : x < 4294967296
  · have d1 : decide (4294967295 < x) = false := by simp; omega
    have Fhit := fun k (h : findRow x 98 0 = some k) => decV_hit x k hbig h
    have Fmiss := fun (h : findRow x 98 0 = none) => decV_miss x hbig h
    have HH : Hid (∀ k, findRow x 98 0 = some k → decV x = .tuple #[(insAt k x).val, .bool true]) := Fhit
    have HM : Hid (findRow x 98 0 = none → decV x = .tuple #[noIns.val, .bool false]) := Fmiss
    obtain ⟨V, hV⟩ : ∃ V, V = decV x := ⟨_, rfl⟩
    rw [← hV] at HH HM ⊢
    clear Fhit Fmiss hV
    go_enter Tryd.func9, Tryd.ntmps9
    go_wp2_with fail
    refine (opRows_T _).mono ?_
    rintro e w1 ⟨T, rfl, HT, hb⟩
    have hsz : w.heap.size < w1.heap.size := by have := hb.size; simp at this; omega
    have G0 : Hid (w1.heap[w.heap.size]? = some (.cells #[.int .i64 0, .int .i64 0, .int .i64 0, .int .i64 0, .int .i64 0] 30 (0, 0))) := by
      show _ = _
      rw [hb.block _ (by simp)]; exact none_row w
    have hb0 : Below w.heap.size w w1 := ((Below.refl _ _).alloc (Nat.le_refl _) _).trans (hb.mono (by simp))
    clear hb
    go_wp2_with fail
    go_loopw [13] (fun i wr => ∃ k : Nat, k ≤ 98 ∧ i = .int .i64 k ∧ Hid (findRow x (98 - k) k = findRow x 98 0) ∧
        Hid (wr.heap[w.heap.size]? = some (.cells #[.int .i64 0, .int .i64 0, .int .i64 0, .int .i64 0, .int .i64 0] 30 (0, 0))) ∧ Below w.heap.size w wr)
      (fun i _ => 98 - (intOf i).toNat)
    case atStart => exact ⟨0, by omega, rfl, (rfl : findRow x (98 - 0) 0 = findRow x 98 0), G0, hb0⟩
    case round =>
      obtain ⟨k, hk, rfl, hf, G, hb2⟩ := hrel
      clear G0 hb0
      by_cases hlt : k < 98
      · have RO := rows_ok k hlt
        have ME := match_eq k (rowAt k) RO x h0 hbig
        obtain ⟨r, hr0⟩ : ∃ r, r = rowAt k := ⟨_, rfl⟩
        have hr : Hid (r = rowAt k) := hr0
        rw [← hr0] at ME
        have MB : decide (matchP k r.fm r.op r.f3 r.more x) = matchB k x := by rw [hr0]; rfl
        rw [MB] at ME
        have RF0 := readFields_any ((k : Int) + 1) r.fm x h0 h1
        have IM : wrap64 (widen r.fm.width (immF x r.fm.pcs)) = immV r.fm x := by rw [immF_eq r.fm x h0 hbig]; rfl
        rw [IM] at RF0
        have IV : Hid (Value.agg #[.int .i64 ((k : Int) + 1), .int .i64 (rdV r.fm x), .int .i64 (aV r.fm x), .int .i64 (bV r.fm x), .int .i64 (immV r.fm x)] = (insAt k x).val) := by
          show _ = _
          rw [hr0]; rfl
        clear hr0 MB IM RO
        obtain ⟨nm, f, o, m3, m⟩ := r
        simp only [Row.f3z] at ME
        obtain ⟨z, hz⟩ : ∃ z : Int, z = if m3 < 0 then 0 else m3 := ⟨_, rfl⟩
        rw [← hz] at ME
        have RP0 := rowPattern_any ((k : Int) + 1) nm f o z m
        obtain ⟨MM, hMM⟩ : ∃ M, M = maskI ((k : Int) + 1) f := ⟨_, rfl⟩
        obtain ⟨BB, hBB⟩ : ∃ B, B = bitsI f o z m := ⟨_, rfl⟩
        rw [← hMM, ← hBB] at ME RP0
        simp only at RF0 IV
        obtain ⟨s, hs⟩ : ∃ s, s = f.str := ⟨_, rfl⟩
        obtain ⟨y1, hy1⟩ : ∃ y, y = rdV f x := ⟨_, rfl⟩
        obtain ⟨y2, hy2⟩ : ∃ y, y = aV f x := ⟨_, rfl⟩
        obtain ⟨y3, hy3⟩ : ∃ y, y = bV f x := ⟨_, rfl⟩
        obtain ⟨y4, hy4⟩ : ∃ y, y = immV f x := ⟨_, rfl⟩
        rw [← hs] at RP0 RF0
        rw [← hy1, ← hy2, ← hy3, ← hy4] at RF0 IV
        have RF : Hid (∀ w : World, Calls Tryd.prog 27 #[.int .i64 ((k : Int) + 1), .string s, .int .u64 x] w fun e w' => e = .returned (.agg #[.int .i64 ((k : Int) + 1), .int .i64 y1, .int .i64 y2, .int .i64 y3, .int .i64 y4]) ∧ Below w.heap.size w w') := RF0
        have RP : Hid (∀ w : World, Calls Tryd.prog 26 #[.int .i64 ((k : Int) + 1), .agg #[.string nm, .string s, .int .u64 o, .int .u64 z, .int .u64 m]] w fun e w' => e = .returned (.tuple #[.int .u64 MM, .int .u64 BB]) ∧ Below w.heap.size w w') := RP0
        have IX : ∀ w : World, (Instr.index 55 T (.int .i64 (k : Int))).run Tryd.prog w = .ok (.agg #[.string nm, .string s, .int .u64 o, .int .u64 z, .int .u64 m]) w := by
          intro w
          rw [run_index_T HT .i64 k hlt _ hr w, hs, hz]; rfl
        clear hy1 hy2 hy3 hy4 RF0 RP0 hMM hBB hs hz hr
        have HIX : Hid (∀ w : World, (Instr.index 55 T (.int .i64 (k : Int))).run Tryd.prog w = .ok (.agg #[.string nm, .string s, .int .u64 o, .int .u64 z, .int .u64 m]) w) := IX
        clear IX HT
        go_wp2_with (refine wpList_indexH HIX rfl _ _ rfl rfl rfl ?_)
        refine (RP.out _).mono ?_
        rintro e w2 ⟨rfl, hbp⟩
        clear RP HIX
        have hbw : Below wr.heap.size wr w2 := ((Below.refl _ _).alloc (Nat.le_refl _) _).trans (hbp.mono (by simp))
        have c1 : w2.cell? ⟨wr.heap.size, 1, none⟩ = some (.string s) := by
          rw [hbp.cell (by simp)]
          rw [cell_of_row _ _ _ _ _ _ (heap_alloc_new _ _)]; rfl
        have G2 : Hid (w2.heap[w.heap.size]? = some (.cells #[.int .i64 0, .int .i64 0, .int .i64 0, .int .i64 0, .int .i64 0] 30 (0, 0))) := keep_some hbw G.out
        have hb3 := below_trans hb2 hbw
        clear hbp
        cases hm : matchB k x with
        | true =>
          rw [hm] at ME
          have F : Hid (V = .tuple #[(insAt k x).val, .bool true]) := HH.out k (hf.out.symm.trans (findRow_hit x k hlt hm))
          go_wp2_with fail
          refine (RF.out _).mono ?_
          rintro e w3 ⟨rfl, hbr⟩
          have G3 : w3.heap[w.heap.size]? = some (.cells #[.int .i64 0, .int .i64 0, .int .i64 0, .int .i64 0, .int .i64 0] 30 (0, 0)) := keep_some hbr G2.out
          have hb4 := below_trans hb3 hbr
          go_wp2_with (refine wpList_store_rowTo rfl 30 (.tmp 2) (.tmp 34) rfl rfl w.heap.size #[.int .i64 ((k : Int) + 1), .int .i64 y1, .int .i64 y2, .int .i64 y3, .int .i64 y4] rfl rfl 30 _ G3 inst_size rfl (inst_one _ _ _ _ _) ?_)
          refine bodyPost_ret (results_row2 Tryd.results9 _ _ _ _ _ _ _ rfl (setRow_heap _ _ _ _ _ _ G3) Tryd.underlying30 rfl inst_size) rfl ⟨?_, ?_⟩
          · rw [F.out, ← IV.out]; rfl
          · exact below_setRow hb4 (Nat.le_refl _) _
        | false =>
          rw [hm] at ME
          have F : Hid (findRow x (98 - (k + 1)) (k + 1) = findRow x 98 0) := (findRow_miss x k hlt hm).symm.trans hf.out
          clear RF
          go_wp2_with fail
          go_roundw
          case rel => exact ⟨k + 1, by omega, by go_num, F, G2, hb3⟩
          case measure => simp [intOf]; omega
      · have hk2 : k = 98 := by omega
        subst hk2
        have F : Hid (V = .tuple #[noIns.val, .bool false]) := HM.out hf.out.symm
        have G3 := G.out
        go_wp2_with (refine wpList_store_rowTo rfl 30 (.tmp 2) (.tmp 36) rfl rfl w.heap.size #[.int .i64 0, .int .i64 0, .int .i64 0, .int .i64 0, .int .i64 0] rfl rfl 30 _ G3 inst_size rfl (inst_one _ _ _ _ _) ?_)
        refine bodyPost_ret (results_row2 Tryd.results9 _ _ _ _ _ _ _ rfl (setRow_heap _ _ _ _ _ _ G3) Tryd.underlying30 rfl inst_size) rfl ⟨?_, ?_⟩
        · rw [F.out]; rfl
        · exact below_setRow hb2 (Nat.le_refl _) _
  · have d1 : decide (4294967295 < x) = true := by simp; omega
    have F : Hid (decV x = .tuple #[noIns.val, .bool false]) := decV_far x hbig
    obtain ⟨V, hV⟩ : ∃ V, V = decV x := ⟨_, rfl⟩
    rw [← hV] at F ⊢
    clear hV
    go_enter Tryd.func9, Tryd.ntmps9
    go_wp2_with fail
    refine bodyPost_ret (results_row2 Tryd.results9 _ _ _ _ _ _ _ rfl (none_row w) Tryd.underlying30 rfl inst_size) rfl ⟨?_, ?_⟩
    · rw [F.out]; rfl
    · exact (Below.refl _ _).alloc (Nat.le_refl _) _

end Go.Proofs.YtjjpklalihaanaaDoor
