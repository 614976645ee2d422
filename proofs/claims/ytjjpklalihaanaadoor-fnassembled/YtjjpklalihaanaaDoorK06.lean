/- Own lemmas. -/
import Derived.Test.YtjjpklalihaanaaDoorK02
import Derived.Test.YtjjpklalihaanaaDoorK04
import Derived.Test.YtjjpklalihaanaaDoorK05
import Derived.OpenShut
namespace Go.Proofs.YtjjpklalihaanaaDoor
open Go.RowKit
set_option linter.unusedVariables false

theorem bits_range (op : BinOp) (a b : Int) : 0 ≤ bits op .u64 a b ∧ bits op .u64 a b < 18446744073709551616 := by
  have h := u64_bd (wf_bits op .u64 a b)
  omega

theorem lay_back (k : Nat) (hk : k < 98) (x : Int) (h0 : 0 ≤ x) (h1 : x < 4294967296) (hm : matchB k x = true) :
    layI (rowAt k).fm (rowAt k).op (rowAt k).f3z (rowAt k).more (insAt k x) = x ∧ layS (rowAt k).fm (rowAt k).op (rowAt k).f3 (rowAt k).more (insAt k x) = x := by
  have hr := rows_ok k hk
  unfold matchB at hm
  rw [decide_eq_true_iff] at hm
  unfold insAt
  generalize rowAt k = r at hr hm ⊢
  obtain ⟨nm, f, o, z, m⟩ := r
  simp only [rowOk, Bool.and_eq_true, decide_eq_true_eq] at hr
  obtain ⟨⟨b0, b1, b2, b3, b4⟩, hf⟩ := hr
  simp only [Row.f3z]
  cases f <;> simp only [matchP, decide_eq_true_eq, and_true] at hm hf
  case r => rw [if_neg (by omega)]; exact ⟨layI_r x h0 h1 o z m _ (by omega) (by omega) (by omega), layS_r x h0 h1 o z m _ (by omega) (by omega) (by omega)⟩
  case i => rw [if_neg (by omega)]; exact ⟨layI_i x h0 h1 o z m _ (by omega) (by omega) (by omega), layS_i x h0 h1 o z m _ (by omega) (by omega) (by omega)⟩
  case h => rw [if_neg (by omega)]; exact ⟨layI_h x h0 h1 o z m _ (by omega) (by omega) (by omega), layS_h x h0 h1 o z m _ (by omega) (by omega) (by omega)⟩
  case w => rw [if_neg (by omega)]; exact ⟨layI_w x h0 h1 o z m _ (by omega) (by omega) (by omega), layS_w x h0 h1 o z m _ (by omega) (by omega) (by omega)⟩
  case s => rw [if_neg (by omega)]; exact ⟨layI_s x h0 h1 o z m _ (by omega) (by omega) (by omega), layS_s x h0 h1 o z m _ (by omega) (by omega) (by omega)⟩
  case b => rw [if_neg (by omega)]; exact ⟨layI_b x h0 h1 o z m _ (by omega) (by omega) (by omega), layS_b x h0 h1 o z m _ (by omega) (by omega) (by omega)⟩
  case u => rw [if_pos (by omega)]; exact ⟨layI_u x h0 h1 o 0 m _ (by omega) rfl (by omega), layS_u x h0 h1 o z m _ (by omega) (by omega) (by omega)⟩
  case j => rw [if_pos (by omega)]; exact ⟨layI_j x h0 h1 o 0 m _ (by omega) rfl (by omega), layS_j x h0 h1 o z m _ (by omega) (by omega) (by omega)⟩
  case a => rw [if_neg (by omega)]; exact ⟨layI_a x h0 h1 o z m _ (by omega) (by omega) (by omega), layS_a x h0 h1 o z m _ (by omega) (by omega) (by omega)⟩
  case c => rw [if_neg (by omega)]; exact ⟨layI_c x h0 h1 o z m _ (by omega) (by omega) (by omega), layS_c x h0 h1 o z m _ (by omega) (by omega) (by omega)⟩
  case x => rw [if_neg (by omega)]; exact ⟨layI_x x h0 h1 o z m _ (by omega) (by omega) (by omega) (by omega), layS_x x h0 h1 o z m _ (by omega) (by omega) (by omega) (by omega)⟩

theorem findRow_some (x : Int) : ∀ n k j, findRow x n k = some j → k ≤ j ∧ j < k + n ∧ matchB j x = true := by
  intro n
  induction n with
  | zero => intro k j h; simp [findRow] at h
  | succ n ih =>
    intro k j h
    rw [findRow] at h
    split at h
    · rename_i hm
      simp at h
      subst h
      exact ⟨by omega, by omega, hm⟩
    · have := ih (k + 1) j h
      exact ⟨by omega, by omega, this.2.2⟩

theorem dec_some {x : Int} {i : Ins} (h : dec x = some i) : x < 4294967296 ∧ ∃ k, k < 98 ∧ matchB k x = true ∧ i = insAt k x := by
  unfold dec at h
  split at h
  · rename_i hx
    cases hf : findRow x 98 0 with
    | none => rw [hf] at h; simp at h
    | some k =>
      rw [hf] at h
      simp at h
      obtain ⟨h1, h2, h3⟩ := findRow_some x 98 0 k hf
      exact ⟨hx, k, by omega, h3, h.symm⟩
  · simp at h

def rowOp (op : Int) : Row := rowAt (op - 1).toNat

def wordS (i : Ins) : Int := layS (rowOp i.op).fm (rowOp i.op).op (rowOp i.op).f3 (rowOp i.op).more i

def wordI (i : Ins) : Int := layI (rowOp i.op).fm (rowOp i.op).op (rowOp i.op).f3z (rowOp i.op).more i

def regBe (i : Ins) : Bool := decide (0 ≤ i.rd ∧ i.rd ≤ 31) && decide (0 ≤ i.a ∧ i.a ≤ 31) && decide (0 ≤ i.b ∧ i.b ≤ 31)

def encS (i : Ins) : Int × Bool := if opB i.op && regBe i && decide (dec (wordS i) = some i) then (wordS i, true) else (0, false)

def bareB (i : Ins) : Bool := decide (i.rd = 0 ∧ i.a = 0 ∧ i.b = 0 ∧ i.imm = 0)

def encI (i : Ins) : Int × Bool :=
  if opB i.op then
    (if (rowOp i.op).fm = .x then (if bareB i then (bitsI .x (rowOp i.op).op (rowOp i.op).f3z (rowOp i.op).more, true) else (0, false))
    else if dec (wordI i) = some i then (wordI i, true) else (0, false))
  else (0, false)

theorem insAt_row (k : Nat) (x : Int) : rowOp (insAt k x).op = rowAt k := by
  simp [rowOp, insAt]

theorem rdV_bd (f : Fm) (x : Int) : 0 ≤ rdV f x ∧ rdV f x ≤ 31 := by
  have := fld_bd x 7 5
  unfold rdV; split <;> omega

theorem aV_bd (f : Fm) (x : Int) : 0 ≤ aV f x ∧ aV f x ≤ 31 := by
  have := fld_bd x 15 5
  unfold aV; split <;> omega

theorem bV_bd (f : Fm) (x : Int) : 0 ≤ bV f x ∧ bV f x ≤ 31 := by
  have := fld_bd x 20 5
  unfold bV; split <;> omega

theorem insAt_reg (k : Nat) (x : Int) : regBe (insAt k x) = true := by
  unfold regBe insAt
  rw [decide_eq_true (rdV_bd _ _), decide_eq_true (aV_bd _ _), decide_eq_true (bV_bd _ _)]
  rfl

theorem dec_words {y : Int} {i : Ins} (h0 : 0 ≤ y) (h : dec y = some i) : opB i.op = true ∧ regBe i = true ∧ wordI i = y ∧ wordS i = y := by
  obtain ⟨h1, k, hk, hm, rfl⟩ := dec_some h
  have hb := lay_back k hk y h0 h1 hm
  refine ⟨?_, insAt_reg k y, ?_, ?_⟩
  · exact decide_eq_true ⟨by show (1 : Int) ≤ (k : Int) + 1; omega, by show (k : Int) + 1 ≤ 98; omega⟩
  · unfold wordI; rw [insAt_row]; exact hb.1
  · unfold wordS; rw [insAt_row]; exact hb.2

theorem decV_ins (x : Int) : ∃ (j : Ins) (t : Bool), decV x = .tuple #[.agg #[.int .i64 j.op, .int .i64 j.rd, .int .i64 j.a, .int .i64 j.b, .int .i64 j.imm], .bool t] ∧ (t = true → dec x = some j) ∧ (t = false → dec x = none) := by
  unfold decV
  cases h : dec x with
  | none => exact ⟨noIns, false, rfl, by simp, by simp⟩
  | some i => exact ⟨i, true, rfl, by simp, by simp⟩

theorem inst_stood : Tryd.prog.stoodInHeld 30 = false := by kernel_rfl

theorem inst_guard : Tryd.prog.eqGuardType Tryd.prog.depth 30 = false := by kernel_rfl

set_option maxHeartbeats 400000 in
theorem run_neqInst (a b c d e a' b' c' d' e' : Int) (w : World) :
    (binOp .neq 30 (.agg #[.int .i64 a, .int .i64 b, .int .i64 c, .int .i64 d, .int .i64 e]) (.agg #[.int .i64 a', .int .i64 b', .int .i64 c', .int .i64 d', .int .i64 e'])).run Tryd.prog w = .ok (.bool (!(a == a' && b == b' && c == c' && d == d' && e == e'))) w := by
  rw [run_neq_struct, run_equalIn_struct w 9999 _ _ _ (by rw [Program.fieldsOf, Tryd.underlying30]) inst_stood]
  simp only [Program.fieldsOf, Tryd.underlying30]
  have P : ∀ (k : Nat) (x1 x2 x3 x4 x5 v : Value), (#[x1, x2, x3, x4, x5] : Array Value)[k]? = some v → ∀ w, (part 2 #[x1, x2, x3, x4, x5] k).run Tryd.prog w = .ok v w := by
    intro k x1 x2 x3 x4 x5 v h w
    simp [part, isAgg, run_underlying Tryd.underlying2, h]
  have Q : ∀ (x y : Int) (w : World), (Op.equalIn 9999 2 (.int .i64 x) (.int .i64 y)).run Tryd.prog w = .ok (x == y) w := fun x y w => run_equalIn_int w 9998 2 .i64 .i64 x y Tryd.underlying2
  simp [Op.eqFields, Sem.run_bind, P 0 _ _ _ _ _ _ rfl, P 1 _ _ _ _ _ _ rfl, P 2 _ _ _ _ _ _ rfl, P 3 _ _ _ _ _ _ rfl, P 4 _ _ _ _ _ _ rfl, Q]
  by_cases h1 : a = a' <;> by_cases h2 : b = b' <;> by_cases h3 : c = c' <;> by_cases h4 : d = d' <;> by_cases h5 : e = e' <;> simp [h1, h2, h3, h4, h5]

theorem wp_neqInst {o : Oper} {A : Act} {w : World} {K : Act → World → Prop} {Q : Exit → Act → World → Prop} {a b c d e a' b' c' d' e' : Int} (x y : Operand) (t : TypeId) (ho : o.op = .binOp .neq 30 x y t)
    (hx : A.eval x = .agg #[.int .i64 a, .int .i64 b, .int .i64 c, .int .i64 d, .int .i64 e]) (hy : A.eval y = .agg #[.int .i64 a', .int .i64 b', .int .i64 c', .int .i64 d', .int .i64 e'])
    (nb : Bool) (hn : (!(a == a' && b == b' && c == c' && d == d' && e == e')) = nb) (h : K (A.put o.dst (.bool nb)) w) : o.wp Tryd.prog A w K Q := by
  subst hn
  unfold Oper.wp execOp
  simp only [ho, hx, hy, Sem.run_bind, run_eqGuard_agg w _ _ _ _ _ _ inst_guard, run_neqInst, Result.andThen_ok]
  exact h

theorem wpList_neqInst {ops : Array Oper} {rest : List Oper} {o : Oper} {A : Act} {w : World} {Q : Exit → Act → World → Prop} {a b c d e a' b' c' d' e' : Int} (hw : Region.wanted o (yielded ops A.tmps) = true) (x y : Operand) (t : TypeId) (ho : o.op = .binOp .neq 30 x y t)
    (hx : A.eval x = .agg #[.int .i64 a, .int .i64 b, .int .i64 c, .int .i64 d, .int .i64 e]) (hy : A.eval y = .agg #[.int .i64 a', .int .i64 b', .int .i64 c', .int .i64 d', .int .i64 e'])
    (nb : Bool) (hn : (!(a == a' && b == b' && c == c' && d == d' && e == e')) = nb) (h : wpList Tryd.prog ops Q rest (A.put o.dst (.bool nb)) w) : wpList Tryd.prog ops Q (o :: rest) A w := by
  unfold wpList
  rw [if_pos hw]
  exact Or.inl (wp_neqInst x y t ho hx hy nb hn h)

theorem wpList_indexH {ops : Array Oper} {rest : List Oper} {o : Oper} {a : Act} {w : World} {Q : Exit → Act → World → Prop} {T V : Value} {kk : IntKind} {k : Int} (H : Hid (∀ w : World, (Instr.index 55 T (.int kk k)).run Tryd.prog w = .ok V w)) (hg : o.guard = none) (x i : Operand) (ho : o.op = .index 55 x i)
    (hx : a.eval x = T) (hi : a.eval i = .int kk k) (h : wpList Tryd.prog ops Q rest (a.put o.dst V) w) : wpList Tryd.prog ops Q (o :: rest) a w := by
  refine wpList_plain hg fun K hK => ?_
  have hrun : (execOp a.eval o).run Tryd.prog w = .ok (.value V) w := by
    simp [execOp, ho, hx, hi, H.out]
  unfold Oper.wp
  rw [hrun, Oper.upon_value]
  exact hK _ _ h

theorem none_row (w : World) : (w.alloc (.cells #[.int .i64 0, .int .i64 0, .int .i64 0, .int .i64 0, .int .i64 0] 30)).heap[w.heap.size]? = some (.cells #[.int .i64 0, .int .i64 0, .int .i64 0, .int .i64 0, .int .i64 0] 30 (0, 0)) := heap_alloc_new _ _

set_option maxHeartbeats 1600000 in
theorem implDecode_any (x : Int) (h0 : 0 ≤ x) (h1 : x < 18446744073709551616) (w : World) :
    Calls Tryd.prog 9 #[.int .u64 x] w fun e w' => e = .returned (decV x) ∧ Below w.heap.size w w' := by
  by_cases hbig : x < 4294967296
  · have d1 : decide (4294967295 < x) = false := by simp; omega
    have Fhit := fun k (h : findRow x 98 0 = some k) => decV_hit x k hbig h
    have Fmiss := fun (h : findRow x 98 0 = none) => decV_miss x hbig h
    have HH : Hid (∀ k, findRow x 98 0 = some k → decV x = .tuple #[(insAt k x).val, .bool true]) := Fhit
    have HM : Hid (findRow x 98 0 = none → decV x = .tuple #[noIns.val, .bool false]) := Fmiss
    obtain ⟨V, hV⟩ : ∃ V, V = decV x := ⟨_, rfl⟩
    rw [← hV] at HH HM ⊢
    clear Fhit Fmiss hV
    go_enter Tryd.func9, Tryd.ntmps9
    go_wp2_with fail
    refine (opRows_T _).mono ?_
    rintro e w1 ⟨T, rfl, HT, hb⟩
    have hsz : w.heap.size < w1.heap.size := by have := hb.size; simp at this; omega
    have G0 : Hid (w1.heap[w.heap.size]? = some (.cells #[.int .i64 0, .int .i64 0, .int .i64 0, .int .i64 0, .int .i64 0] 30 (0, 0))) := by
      show _ = _
      rw [hb.block _ (by simp)]; exact none_row w
    have hb0 : Below w.heap.size w w1 := ((Below.refl _ _).alloc (Nat.le_refl _) _).trans (hb.mono (by simp))
    clear hb
    go_wp2_with fail
    go_loopw [13] (fun i wr => ∃ k : Nat, k ≤ 98 ∧ i = .int .i64 k ∧ Hid (findRow x (98 - k) k = findRow x 98 0) ∧
        Hid (wr.heap[w.heap.size]? = some (.cells #[.int .i64 0, .int .i64 0, .int .i64 0, .int .i64 0, .int .i64 0] 30 (0, 0))) ∧ Below w.heap.size w wr)
      (fun i _ => 98 - (intOf i).toNat)
    case atStart => exact ⟨0, by omega, rfl, (rfl : findRow x (98 - 0) 0 = findRow x 98 0), G0, hb0⟩
    case round =>
      obtain ⟨k, hk, rfl, hf, G, hb2⟩ := hrel
      clear G0 hb0
      by_cases hlt : k < 98
      · have RO := rows_ok k hlt
        have ME := match_eq k (rowAt k) RO x h0 hbig
        obtain ⟨r, hr0⟩ : ∃ r, r = rowAt k := ⟨_, rfl⟩
        have hr : Hid (r = rowAt k) := hr0
        rw [← hr0] at ME
        have MB : decide (matchP k r.fm r.op r.f3 r.more x) = matchB k x := by rw [hr0]; rfl
        rw [MB] at ME
        have RF0 := readFields_any ((k : Int) + 1) r.fm x h0 h1
        have IM : wrap64 (widen r.fm.width (immF x r.fm.pcs)) = immV r.fm x := by rw [immF_eq r.fm x h0 hbig]; rfl
        rw [IM] at RF0
        have IV : Hid (Value.agg #[.int .i64 ((k : Int) + 1), .int .i64 (rdV r.fm x), .int .i64 (aV r.fm x), .int .i64 (bV r.fm x), .int .i64 (immV r.fm x)] = (insAt k x).val) := by
          show _ = _
          rw [hr0]; rfl
        clear hr0 MB IM RO
        obtain ⟨nm, f, o, m3, m⟩ := r
        simp only [Row.f3z] at ME
        obtain ⟨z, hz⟩ : ∃ z : Int, z = if m3 < 0 then 0 else m3 := ⟨_, rfl⟩
        rw [← hz] at ME
        have RP0 := rowPattern_any ((k : Int) + 1) nm f o z m
        obtain ⟨MM, hMM⟩ : ∃ M, M = maskI ((k : Int) + 1) f := ⟨_, rfl⟩
        obtain ⟨BB, hBB⟩ : ∃ B, B = bitsI f o z m := ⟨_, rfl⟩
        rw [← hMM, ← hBB] at ME RP0
        simp only at RF0 IV
        obtain ⟨s, hs⟩ : ∃ s, s = f.str := ⟨_, rfl⟩
        obtain ⟨y1, hy1⟩ : ∃ y, y = rdV f x := ⟨_, rfl⟩
        obtain ⟨y2, hy2⟩ : ∃ y, y = aV f x := ⟨_, rfl⟩
        obtain ⟨y3, hy3⟩ : ∃ y, y = bV f x := ⟨_, rfl⟩
        obtain ⟨y4, hy4⟩ : ∃ y, y = immV f x := ⟨_, rfl⟩
        rw [← hs] at RP0 RF0
        rw [← hy1, ← hy2, ← hy3, ← hy4] at RF0 IV
        have RF : Hid (∀ w : World, Calls Tryd.prog 27 #[.int .i64 ((k : Int) + 1), .string s, .int .u64 x] w fun e w' => e = .returned (.agg #[.int .i64 ((k : Int) + 1), .int .i64 y1, .int .i64 y2, .int .i64 y3, .int .i64 y4]) ∧ Below w.heap.size w w') := RF0
        have RP : Hid (∀ w : World, Calls Tryd.prog 26 #[.int .i64 ((k : Int) + 1), .agg #[.string nm, .string s, .int .u64 o, .int .u64 z, .int .u64 m]] w fun e w' => e = .returned (.tuple #[.int .u64 MM, .int .u64 BB]) ∧ Below w.heap.size w w') := RP0
        have IX : ∀ w : World, (Instr.index 55 T (.int .i64 (k : Int))).run Tryd.prog w = .ok (.agg #[.string nm, .string s, .int .u64 o, .int .u64 z, .int .u64 m]) w := by
          intro w
          rw [run_index_T HT .i64 k hlt _ hr w, hs, hz]; rfl
        clear hy1 hy2 hy3 hy4 RF0 RP0 hMM hBB hs hz hr
        have HIX : Hid (∀ w : World, (Instr.index 55 T (.int .i64 (k : Int))).run Tryd.prog w = .ok (.agg #[.string nm, .string s, .int .u64 o, .int .u64 z, .int .u64 m]) w) := IX
        clear IX HT
        go_wp2_with (refine wpList_indexH HIX rfl _ _ rfl rfl rfl ?_)
        refine (RP.out _).mono ?_
        rintro e w2 ⟨rfl, hbp⟩
        clear RP HIX
        have hbw : Below wr.heap.size wr w2 := ((Below.refl _ _).alloc (Nat.le_refl _) _).trans (hbp.mono (by simp))
        have c1 : w2.cell? ⟨wr.heap.size, 1, none⟩ = some (.string s) := by
          rw [hbp.cell (by simp)]
          rw [cell_of_row _ _ _ _ _ _ (heap_alloc_new _ _)]; rfl
        have G2 : Hid (w2.heap[w.heap.size]? = some (.cells #[.int .i64 0, .int .i64 0, .int .i64 0, .int .i64 0, .int .i64 0] 30 (0, 0))) := keep_some hbw G.out
        have hb3 := below_trans hb2 hbw
        clear hbp
        cases hm : matchB k x with
        | true =>
          rw [hm] at ME
          have F : Hid (V = .tuple #[(insAt k x).val, .bool true]) := HH.out k (hf.out.symm.trans (findRow_hit x k hlt hm))
          go_wp2_with fail
          refine (RF.out _).mono ?_
          rintro e w3 ⟨rfl, hbr⟩
          have G3 : w3.heap[w.heap.size]? = some (.cells #[.int .i64 0, .int .i64 0, .int .i64 0, .int .i64 0, .int .i64 0] 30 (0, 0)) := keep_some hbr G2.out
          have hb4 := below_trans hb3 hbr
          go_wp2_with (refine wpList_store_rowTo rfl 30 (.tmp 2) (.tmp 34) rfl rfl w.heap.size #[.int .i64 ((k : Int) + 1), .int .i64 y1, .int .i64 y2, .int .i64 y3, .int .i64 y4] rfl rfl 30 _ G3 inst_size rfl (inst_one _ _ _ _ _) ?_)
          refine bodyPost_ret (results_row2 Tryd.results9 _ _ _ _ _ _ _ rfl (setRow_heap _ _ _ _ _ _ G3) Tryd.underlying30 rfl inst_size) rfl ⟨?_, ?_⟩
          · rw [F.out, ← IV.out]; rfl
          · exact below_setRow hb4 (Nat.le_refl _) _
        | false =>
          rw [hm] at ME
          have F : Hid (findRow x (98 - (k + 1)) (k + 1) = findRow x 98 0) := (findRow_miss x k hlt hm).symm.trans hf.out
          clear RF
          go_wp2_with fail
          go_roundw
          case rel => exact ⟨k + 1, by omega, by go_num, F, G2, hb3⟩
          case measure => simp [intOf]; omega
      · have hk2 : k = 98 := by omega
        subst hk2
        have F : Hid (V = .tuple #[noIns.val, .bool false]) := HM.out hf.out.symm
        have G3 := G.out
        go_wp2_with (refine wpList_store_rowTo rfl 30 (.tmp 2) (.tmp 36) rfl rfl w.heap.size #[.int .i64 0, .int .i64 0, .int .i64 0, .int .i64 0, .int .i64 0] rfl rfl 30 _ G3 inst_size rfl (inst_one _ _ _ _ _) ?_)
        refine bodyPost_ret (results_row2 Tryd.results9 _ _ _ _ _ _ _ rfl (setRow_heap _ _ _ _ _ _ G3) Tryd.underlying30 rfl inst_size) rfl ⟨?_, ?_⟩
        · rw [F.out]; rfl
        · exact below_setRow hb2 (Nat.le_refl _) _
  · have d1 : decide (4294967295 < x) = true := by simp; omega
    have F : Hid (decV x = .tuple #[noIns.val, .bool false]) := decV_far x hbig
    obtain ⟨V, hV⟩ : ∃ V, V = decV x := ⟨_, rfl⟩
    rw [← hV] at F ⊢
    clear hV
    go_enter Tryd.func9, Tryd.ntmps9
    go_wp2_with fail
    refine bodyPost_ret (results_row2 Tryd.results9 _ _ _ _ _ _ _ rfl (none_row w) Tryd.underlying30 rfl inst_size) rfl ⟨?_, ?_⟩
    · rw [F.out]; rfl
    · exact (Below.refl _ _).alloc (Nat.le_refl _) _

set_option maxHeartbeats 1600000 in
theorem l2Match_any (i : Nat) (hi : i < 98) (nm : ByteArray) (f : Fm) (o z m x : Int) (h0 : 0 ≤ x) (h1 : x < 4294967296) (hx : Hid (f = .x → 0 ≤ o ∧ o < 128 ∧ 0 ≤ m ∧ m < 4096)) (w : World) :
    Calls Tryd.prog 64 #[.int .i64 i, .agg #[.string nm, .string f.str, .int .u64 o, .int .i64 z, .int .u64 m], .int .u64 x] w fun e w' => e = .returned (.bool (decide (matchP i f o z m x))) ∧ Below w.heap.size w w' := by
  have A1 : bits .and .u64 x 127 = x % 128 := and_low x 7 h0 (by omega) (by decide)
  have A2 : bits .and .u64 (x / 4096) 7 = x / 4096 % 8 := and_low (x / 4096) 3 (by omega) (by omega) (by decide)
  have A3 : bits .and .u64 (x / 128) 31 = x / 128 % 32 := and_low (x / 128) 5 (by omega) (by omega) (by decide)
  have A4 : bits .and .u64 (x / 1048576) 31 = x / 1048576 % 32 := and_low (x / 1048576) 5 (by omega) (by omega) (by decide)
  cases f
  case x =>
    have H := hx.out rfl
    have A5 : IntKind.u64.wrap (m * 1048576) = m * 1048576 := by rw [IntKind.wrap_u64]; omega
    have A6 : bits .or .u64 (m * 1048576) o = m * 1048576 + o := by
      rw [u64_or _ _ (by omega) (by omega) (by omega) (by omega)]
      rw [nat_join 20 _ _ (by omega) (by omega)]; omega
    clear H
    simp only [Fm.str]
    go_enter Tryd.func64, Tryd.ntmps64
    go_wp2_with fail
    all_goals go_ret
    all_goals refine ⟨?_, (Below.refl _ _).alloc (Nat.le_refl _) _⟩
    all_goals (clear hx; go_tidy; show Ending.returned (Value.bool _) = Ending.returned (Value.bool _); congr 2; rw [Bool.eq_iff_iff, decide_eq_true_iff]; simp only [matchP, bne_iff_ne, beq_iff_eq, bne_eq_false_iff_eq, Bool.false_eq_true, ne_eq, false_iff] at *)
    all_goals omega
  all_goals (
    simp only [Fm.str]
    go_enter Tryd.func64, Tryd.ntmps64
    go_wp2_with fail
    all_goals go_ret
    all_goals refine ⟨?_, (Below.refl _ _).alloc (Nat.le_refl _) _⟩
    all_goals (clear hx; go_tidy; show Ending.returned (Value.bool _) = Ending.returned (Value.bool _); congr 2; rw [Bool.eq_iff_iff, decide_eq_true_iff]; simp only [matchP, bne_iff_ne, beq_iff_eq, bne_eq_false_iff_eq, Bool.false_eq_true, ne_eq, true_iff, false_iff, and_true] at *)
    all_goals omega)

set_option maxHeartbeats 1600000 in
theorem l2Imm_any (f : Fm) (x : Int) (h0 : 0 ≤ x) (h1 : x < 4294967296) (w : World) :
    Calls Tryd.prog 65 #[.string f.str, .int .u64 x] w fun e w' => e = .returned (.int .i64 (immV f x)) ∧ w' = w := by
  cases f
  case i =>
    simp only [Fm.str]
    go_enter Tryd.func65, Tryd.ntmps65
    go_wp2_with fail
    refine (l1Widen_any (x / 1048576) 12 (by decide) (by decide) _).mono ?_
    rintro e w1 ⟨rfl, rfl⟩
    go_wp2_with fail
    go_ret
    exact ⟨rfl, rfl⟩
  case s =>
    have A1 : IntKind.u64.wrap (x / 33554432 * 32) = x / 33554432 * 32 := by rw [IntKind.wrap_u64]; omega
    have A2 : bits .and .u64 (x / 128) 31 = x / 128 % 32 := and_low (x / 128) 5 (by omega) (by omega) (by decide)
    have A3 : bits .or .u64 (x / 33554432 * 32) (x / 128 % 32) = x / 33554432 * 32 + x / 128 % 32 := by
      have := or64 (x / 33554432 * 32) (x / 128 % 32) 0 5 (by omega) (by omega) (by omega) (by omega) (by omega) (by omega)
      simpa using this
    simp only [Fm.str]
    go_enter Tryd.func65, Tryd.ntmps65
    go_wp2_with fail
    refine (l1Widen_any (x / 33554432 * 32 + x / 128 % 32) 12 (by decide) (by decide) _).mono ?_
    rintro e w1 ⟨rfl, rfl⟩
    go_wp2_with fail
    go_ret
    exact ⟨rfl, rfl⟩
  case b =>
    have A1 : IntKind.u64.wrap (x / 2147483648 * 4096) = x / 2147483648 * 4096 := by rw [IntKind.wrap_u64]; omega
    have A2 : bits .and .u64 (x / 128) 1 = x / 128 % 2 := and_low (x / 128) 1 (by omega) (by omega) (by decide)
    have A3 : IntKind.u64.wrap (x / 128 % 2 * 2048) = x / 128 % 2 * 2048 := by rw [IntKind.wrap_u64]; omega
    have A4 : bits .or .u64 (x / 2147483648 * 4096) (x / 128 % 2 * 2048) = x / 2147483648 * 4096 + x / 128 % 2 * 2048 :=
      or64 (x / 2147483648 * 4096) (x / 128 % 2) 11 1 (by omega) (by omega) (by omega) (by omega) (by omega) (by omega)
    have A5 : bits .and .u64 (x / 33554432) 63 = x / 33554432 % 64 := and_low (x / 33554432) 6 (by omega) (by omega) (by decide)
    have A6 : IntKind.u64.wrap (x / 33554432 % 64 * 32) = x / 33554432 % 64 * 32 := by rw [IntKind.wrap_u64]; omega
    have A7 : bits .or .u64 (x / 2147483648 * 4096 + x / 128 % 2 * 2048) (x / 33554432 % 64 * 32) = x / 2147483648 * 4096 + x / 128 % 2 * 2048 + x / 33554432 % 64 * 32 :=
      or64 (x / 2147483648 * 4096 + x / 128 % 2 * 2048) (x / 33554432 % 64) 5 6 (by omega) (by omega) (by omega) (by omega) (by omega) (by omega)
    have A8 : bits .and .u64 (x / 256) 15 = x / 256 % 16 := and_low (x / 256) 4 (by omega) (by omega) (by decide)
    have A9 : IntKind.u64.wrap (x / 256 % 16 * 2) = x / 256 % 16 * 2 := by rw [IntKind.wrap_u64]; omega
    have A10 : bits .or .u64 (x / 2147483648 * 4096 + x / 128 % 2 * 2048 + x / 33554432 % 64 * 32) (x / 256 % 16 * 2) = x / 2147483648 * 4096 + x / 128 % 2 * 2048 + x / 33554432 % 64 * 32 + x / 256 % 16 * 2 :=
      or64 (x / 2147483648 * 4096 + x / 128 % 2 * 2048 + x / 33554432 % 64 * 32) (x / 256 % 16) 1 4 (by omega) (by omega) (by omega) (by omega) (by omega) (by omega)
    simp only [Fm.str]
    go_enter Tryd.func65, Tryd.ntmps65
    go_wp2_with fail
    refine (l1Widen_any (x / 2147483648 * 4096 + x / 128 % 2 * 2048 + x / 33554432 % 64 * 32 + x / 256 % 16 * 2) 13 (by decide) (by decide) _).mono ?_
    rintro e w1 ⟨rfl, rfl⟩
    go_wp2_with fail
    go_ret
    exact ⟨rfl, rfl⟩
  case u =>
    have A1 : IntKind.u64.wrap (x / 4096 * 4096) = x / 4096 * 4096 := by rw [IntKind.wrap_u64]; omega
    simp only [Fm.str]
    go_enter Tryd.func65, Tryd.ntmps65
    go_wp2_with fail
    refine (l1Widen_any (x / 4096 * 4096) 32 (by decide) (by decide) _).mono ?_
    rintro e w1 ⟨rfl, rfl⟩
    go_wp2_with fail
    go_ret
    exact ⟨rfl, rfl⟩
  case j =>
    have A1 : IntKind.u64.wrap (x / 2147483648 * 1048576) = x / 2147483648 * 1048576 := by rw [IntKind.wrap_u64]; omega
    have A2 : bits .and .u64 (x / 4096) 255 = x / 4096 % 256 := and_low (x / 4096) 8 (by omega) (by omega) (by decide)
    have A3 : IntKind.u64.wrap (x / 4096 % 256 * 4096) = x / 4096 % 256 * 4096 := by rw [IntKind.wrap_u64]; omega
    have A4 : bits .or .u64 (x / 2147483648 * 1048576) (x / 4096 % 256 * 4096) = x / 2147483648 * 1048576 + x / 4096 % 256 * 4096 :=
      or64 (x / 2147483648 * 1048576) (x / 4096 % 256) 12 8 (by omega) (by omega) (by omega) (by omega) (by omega) (by omega)
    have A5 : bits .and .u64 (x / 1048576) 1 = x / 1048576 % 2 := and_low (x / 1048576) 1 (by omega) (by omega) (by decide)
    have A6 : IntKind.u64.wrap (x / 1048576 % 2 * 2048) = x / 1048576 % 2 * 2048 := by rw [IntKind.wrap_u64]; omega
    have A7 : bits .or .u64 (x / 2147483648 * 1048576 + x / 4096 % 256 * 4096) (x / 1048576 % 2 * 2048) = x / 2147483648 * 1048576 + x / 4096 % 256 * 4096 + x / 1048576 % 2 * 2048 :=
      or64 (x / 2147483648 * 1048576 + x / 4096 % 256 * 4096) (x / 1048576 % 2) 11 1 (by omega) (by omega) (by omega) (by omega) (by omega) (by omega)
    have A8 : bits .and .u64 (x / 2097152) 1023 = x / 2097152 % 1024 := and_low (x / 2097152) 10 (by omega) (by omega) (by decide)
    have A9 : IntKind.u64.wrap (x / 2097152 % 1024 * 2) = x / 2097152 % 1024 * 2 := by rw [IntKind.wrap_u64]; omega
    have A10 : bits .or .u64 (x / 2147483648 * 1048576 + x / 4096 % 256 * 4096 + x / 1048576 % 2 * 2048) (x / 2097152 % 1024 * 2) = x / 2147483648 * 1048576 + x / 4096 % 256 * 4096 + x / 1048576 % 2 * 2048 + x / 2097152 % 1024 * 2 :=
      or64 (x / 2147483648 * 1048576 + x / 4096 % 256 * 4096 + x / 1048576 % 2 * 2048) (x / 2097152 % 1024) 1 10 (by omega) (by omega) (by omega) (by omega) (by omega) (by omega)
    simp only [Fm.str]
    go_enter Tryd.func65, Tryd.ntmps65
    go_wp2_with fail
    refine (l1Widen_any (x / 2147483648 * 1048576 + x / 4096 % 256 * 4096 + x / 1048576 % 2 * 2048 + x / 2097152 % 1024 * 2) 21 (by decide) (by decide) _).mono ?_
    rintro e w1 ⟨rfl, rfl⟩
    go_wp2_with fail
    go_ret
    exact ⟨rfl, rfl⟩
  case h =>
    have A1 : bits .and .u64 (x / 1048576) 63 = x / 1048576 % 64 := and_low (x / 1048576) 6 (by omega) (by omega) (by decide)
    have F : Hid (immV .h x = x / 1048576 % 64) := widen64 (x / 1048576 % 64) (by omega) (by omega)
    simp only [Fm.str]
    go_enter Tryd.func65, Tryd.ntmps65
    go_wp2_with fail
    go_ret
    exact ⟨by rw [F.out]; rfl, rfl⟩
  case w =>
    have A1 : bits .and .u64 (x / 1048576) 31 = x / 1048576 % 32 := and_low (x / 1048576) 5 (by omega) (by omega) (by decide)
    have F : Hid (immV .w x = x / 1048576 % 32) := widen64 (x / 1048576 % 32) (by omega) (by omega)
    simp only [Fm.str]
    go_enter Tryd.func65, Tryd.ntmps65
    go_wp2_with fail
    go_ret
    exact ⟨by rw [F.out]; rfl, rfl⟩
  case a =>
    have A1 : bits .and .u64 (x / 33554432) 3 = x / 33554432 % 4 := and_low (x / 33554432) 2 (by omega) (by omega) (by decide)
    have F : Hid (immV .a x = x / 33554432 % 4) := widen64 (x / 33554432 % 4) (by omega) (by omega)
    simp only [Fm.str]
    go_enter Tryd.func65, Tryd.ntmps65
    go_wp2_with fail
    go_ret
    exact ⟨by rw [F.out]; rfl, rfl⟩
  case c =>
    have F : Hid (immV .c x = x / 1048576) := widen64 (x / 1048576) (by omega) (by omega)
    simp only [Fm.str]
    go_enter Tryd.func65, Tryd.ntmps65
    go_wp2_with fail
    go_ret
    exact ⟨by rw [F.out]; rfl, rfl⟩
  case r =>
    have F : Hid (immV .r x = 0) := widen64 (0) (by omega) (by omega)
    simp only [Fm.str]
    go_enter Tryd.func65, Tryd.ntmps65
    go_wp2_with fail
    go_ret
    exact ⟨by rw [F.out]; rfl, rfl⟩
  case x =>
    have F : Hid (immV .x x = 0) := widen64 (0) (by omega) (by omega)
    simp only [Fm.str]
    go_enter Tryd.func65, Tryd.ntmps65
    go_wp2_with fail
    go_ret
    exact ⟨by rw [F.out]; rfl, rfl⟩

theorem rowOk_x {k : Nat} {r : Row} (h : rowOk k r = true) : r.fm = .x → 0 ≤ r.op ∧ r.op < 128 ∧ 0 ≤ r.more ∧ r.more < 4096 := by
  intro hx
  simp only [rowOk, hx, Bool.and_eq_true, decide_eq_true_eq] at h
  omega

set_option maxHeartbeats 3200000 in
theorem specDecode_any (x : Int) (h0 : 0 ≤ x) (h1 : x < 18446744073709551616) (w : World) :
    Calls Tryd.prog 54 #[.int .u64 x] w fun e w' => e = .returned (decV x) ∧ Below w.heap.size w w' := by
  by_cases hbig : x < 4294967296
  · have d1 : (x / 4294967296 != 0) = false := by simp; omega
    have HH : Hid (∀ k, findRow x 98 0 = some k → decV x = .tuple #[(insAt k x).val, .bool true]) := fun k (h : findRow x 98 0 = some k) => decV_hit x k hbig h
    have HM : Hid (findRow x 98 0 = none → decV x = .tuple #[noIns.val, .bool false]) := fun (h : findRow x 98 0 = none) => decV_miss x hbig h
    obtain ⟨V, hV⟩ : ∃ V, V = decV x := ⟨_, rfl⟩
    rw [← hV] at HH HM ⊢
    clear hV
    go_enter Tryd.func54, Tryd.ntmps54
    go_wp2_with fail
    refine (l2Rows_T _).mono ?_
    rintro e w1 ⟨rfl, hT, hb⟩
    have hsz : w.heap.size + 1 < w1.heap.size := by have := hT.out.1; simp at this; omega
    have G0 : Hid (w1.heap[w.heap.size]? = some (.cells #[.int .i64 0, .int .i64 0, .int .i64 0, .int .i64 0, .int .i64 0] 30 (0, 0))) := by
      show _ = _
      rw [hb.block _ (by simp)]; exact none_row w
    have hb0 : Below w.heap.size w w1 := ((Below.refl _ _).alloc (Nat.le_refl _) _).trans (hb.mono (by simp))
    obtain ⟨g, hg⟩ : ∃ g, g = (w.alloc (.cells #[.int .i64 0, .int .i64 0, .int .i64 0, .int .i64 0, .int .i64 0] 30)).heap.size := ⟨_, rfl⟩
    rw [← hg] at hT ⊢
    clear hb hg
    go_wp2_with fail
    go_loopw [5] (fun i wr => ∃ k : Nat, k ≤ 98 ∧ i = .int .i64 k ∧ Hid (findRow x (98 - k) k = findRow x 98 0) ∧ Hid (TabS wr g) ∧
        Hid (wr.heap[w.heap.size]? = some (.cells #[.int .i64 0, .int .i64 0, .int .i64 0, .int .i64 0, .int .i64 0] 30 (0, 0))) ∧ Below w.heap.size w wr)
      (fun i _ => 98 - (intOf i).toNat)
    case atStart => exact ⟨0, by omega, rfl, (rfl : findRow x (98 - 0) 0 = findRow x 98 0), hT, G0, hb0⟩
    case round =>
      obtain ⟨k, hk, rfl, hf, hT2, G, hb2⟩ := hrel
      clear G0 hb0 hT
      by_cases hlt : k < 98
      · have RX := rowOk_x (rows_ok k hlt)
        obtain ⟨r, hr0⟩ : ∃ r, r = rowAt k := ⟨_, rfl⟩
        obtain ⟨c0, c1, c2, c3, c4⟩ := hT2.out.2 k hlt r hr0
        have MB : decide (matchP k r.fm r.op r.f3 r.more x) = matchB k x := by rw [hr0]; rfl
        have IV : Hid (Value.agg #[.int .i64 ((k : Int) + 1), .int .i64 (rdV r.fm x), .int .i64 (aV r.fm x), .int .i64 (bV r.fm x), .int .i64 (immV r.fm x)] = (insAt k x).val) := by
          show _ = _
          rw [hr0]; rfl
        rw [← hr0] at RX
        have LM0 := l2Match_any k hlt r.name r.fm r.op r.f3 r.more x h0 hbig RX
        rw [MB] at LM0
        clear hr0 MB RX
        obtain ⟨nm, f, o, z, m⟩ := r
        simp only at c0 c1 c2 c3 c4 IV LM0
        obtain ⟨s, hs⟩ : ∃ s, s = f.str := ⟨_, rfl⟩
        rw [← hs] at c1 LM0
        obtain ⟨mb, hmb⟩ : ∃ b, b = matchB k x := ⟨_, rfl⟩
        rw [← hmb] at LM0
        have LM : Hid (∀ w : World, Calls Tryd.prog 64 #[.int .i64 k, .agg #[.string nm, .string s, .int .u64 o, .int .i64 z, .int .u64 m], .int .u64 x] w fun e w' => e = .returned (.bool mb) ∧ Below w.heap.size w w') := LM0
        have HMB : Hid (mb = matchB k x) := hmb
        have HS : Hid (s = f.str) := hs
        clear LM0 hmb hs
        go_wp2_with fail
        refine (LM.out _).mono ?_
        rintro e w2 ⟨rfl, hbp⟩
        have hbw : Below wr.heap.size wr w2 := ((Below.refl _ _).alloc (Nat.le_refl _) _).trans (hbp.mono (by simp))
        have c1' : w2.cell? ⟨wr.heap.size, 1, none⟩ = some (.string s) := by
          rw [hbp.cell (by simp)]
          rw [cell_of_row _ _ _ _ _ _ (heap_alloc_new _ _)]; rfl
        have G2 : w2.heap[w.heap.size]? = some (.cells #[.int .i64 0, .int .i64 0, .int .i64 0, .int .i64 0, .int .i64 0] 30 (0, 0)) := keep_some hbw G.out
        have hT3 : Hid (TabS w2 g) := TabS.below hT2.out hT2.out.1 hbw
        have hb3 := below_trans hb2 hbw
        have hlt2 : wr.heap.size < w2.heap.size := by have := hbp.size; simp at this; omega
        have c1a : ∀ o, (w2.alloc o).cell? ⟨wr.heap.size, 1, none⟩ = some (.string s) := fun o => (((Below.refl w2.heap.size w2).alloc (Nat.le_refl _) o).cell (p := ⟨wr.heap.size, 1, none⟩) hlt2).trans c1'
        have G2a : ∀ o, (w2.alloc o).heap[w.heap.size]? = some (.cells #[.int .i64 0, .int .i64 0, .int .i64 0, .int .i64 0, .int .i64 0] 30 (0, 0)) := fun o => keep_some ((Below.refl w2.heap.size w2).alloc (Nat.le_refl _) o) G2
        have HG2a : Hid (∀ o, (w2.alloc o).heap[w.heap.size]? = some (.cells #[.int .i64 0, .int .i64 0, .int .i64 0, .int .i64 0, .int .i64 0] 30 (0, 0))) := G2a
        have HG2 : Hid (w2.heap[w.heap.size]? = some (.cells #[.int .i64 0, .int .i64 0, .int .i64 0, .int .i64 0, .int .i64 0] 30 (0, 0))) := G2
        clear G2 G2a
        clear hbp LM c0 c1 c2 c3 c4
        cases mb with
        | true =>
          have F : Hid (V = .tuple #[(insAt k x).val, .bool true]) := HH.out k (hf.out.symm.trans (findRow_hit x k hlt HMB.out.symm))
          have A7 : bits .and .u64 (x / 128) 31 = x / 128 % 32 := and_low (x / 128) 5 (by omega) (by omega) (by decide)
          have A15 : bits .and .u64 (x / 32768) 31 = x / 32768 % 32 := and_low (x / 32768) 5 (by omega) (by omega) (by decide)
          have A20 : bits .and .u64 (x / 1048576) 31 = x / 1048576 % 32 := and_low (x / 1048576) 5 (by omega) (by omega) (by decide)
          have hs := HS.out
          subst hs
          have LI0 := l2Imm_any f x h0 hbig
          obtain ⟨y4, hy4⟩ : ∃ y, y = immV f x := ⟨_, rfl⟩
          rw [← hy4] at LI0 IV
          have LI : Hid (∀ w : World, Calls Tryd.prog 65 #[.string f.str, .int .u64 x] w fun e w' => e = .returned (.int .i64 y4) ∧ w' = w) := LI0
          clear LI0 hy4 HS
          cases f
          all_goals (
            simp only [Fm.str] at c1' c1a LI ⊢
            go_wp2_with fail
            refine (LI.out _).mono ?_
            rintro e w3 ⟨rfl, hw3⟩
            have hw4 := hw3.symm
            subst hw4
            go_wp2_with (refine wpList_store_rowTo rfl 30 (.tmp 2) (.tmp 82) rfl rfl w.heap.size _ rfl rfl 30 _ (HG2a.out _) inst_size rfl (inst_one _ _ _ _ _) ?_)
            refine bodyPost_ret (results_row2 Tryd.results54 _ _ _ _ _ _ _ rfl (setRow_heap _ _ _ _ _ _ (HG2a.out _)) Tryd.underlying30 rfl inst_size) rfl ⟨?_, ?_⟩
            · rw [F.out, ← IV.out]; rfl
            · exact below_setRow (hb3.alloc hb3.size _) (Nat.le_refl _) _)
        | false =>
          have F : Hid (findRow x (98 - (k + 1)) (k + 1) = findRow x 98 0) := (findRow_miss x k hlt HMB.out.symm).symm.trans hf.out
          go_wp2_with fail
          go_roundw
          case rel => exact ⟨k + 1, by omega, by go_num, F, hT3, HG2, hb3⟩
          case measure => simp [intOf]; omega
      · have hk2 : k = 98 := by omega
        subst hk2
        have F : Hid (V = .tuple #[noIns.val, .bool false]) := HM.out hf.out.symm
        have G3 := G.out
        go_wp2_with (refine wpList_store_rowTo rfl 30 (.tmp 2) (.tmp 83) rfl rfl w.heap.size #[.int .i64 0, .int .i64 0, .int .i64 0, .int .i64 0, .int .i64 0] rfl rfl 30 _ G3 inst_size rfl (inst_one _ _ _ _ _) ?_)
        refine bodyPost_ret (results_row2 Tryd.results54 _ _ _ _ _ _ _ rfl (setRow_heap _ _ _ _ _ _ G3) Tryd.underlying30 rfl inst_size) rfl ⟨?_, ?_⟩
        · rw [F.out]; rfl
        · exact below_setRow hb2 (Nat.le_refl _) _
  · have d1 : (x / 4294967296 != 0) = true := by simp; omega
    have F : Hid (decV x = .tuple #[noIns.val, .bool false]) := decV_far x hbig
    obtain ⟨V, hV⟩ : ∃ V, V = decV x := ⟨_, rfl⟩
    rw [← hV] at F ⊢
    clear hV
    go_enter Tryd.func54, Tryd.ntmps54
    go_wp2_with fail
    refine bodyPost_ret (results_row2 Tryd.results54 _ _ _ _ _ _ _ rfl (none_row w) Tryd.underlying30 rfl inst_size) rfl ⟨?_, ?_⟩
    · rw [F.out]; rfl
    · exact (Below.refl _ _).alloc (Nat.le_refl _) _

end Go.Proofs.YtjjpklalihaanaaDoor
