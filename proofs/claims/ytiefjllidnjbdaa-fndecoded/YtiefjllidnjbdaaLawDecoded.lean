/- The walk of laws.FnDecoded: it returns true at every code, and writes nothing that was there. -/
import Derived.Test.YtiefjllidnjbdaaDrawJ
import Derived.Test.YtiefjllidnjbdaaLawC
import Derived.Test.YtiefjllidnjbdaaLawExactEncode
import Derived.Test.YtiefjllidnjbdaaDecD
import Derived.Test.YtiefjllidnjbdaaDecE
import Derived.Deep.RegionHeld3
namespace Go.Proofs.Ytiefjllidnjbdaa.fnDecoded
open Go.RowKit
set_option linter.unusedVariables false

set_option maxHeartbeats 400000 in
theorem run_sameInst (a b c d e : Int) (w : World) :
    (Op.equalIn 10000 35 (.agg #[.int .i64 a, .int .i64 b, .int .i64 c, .int .i64 d, .int .i64 e]) (.agg #[.int .i64 a, .int .i64 b, .int .i64 c, .int .i64 d, .int .i64 e])).run Try.prog w = .ok true w := by
  rw [run_equalIn_struct w 9999 _ _ _ (by rw [Program.fieldsOf, Try.underlying35]) inst_stood]
  simp only [Program.fieldsOf, Try.underlying35]
  have P : ∀ (k : Nat) (x1 x2 x3 x4 x5 v : Value), (#[x1, x2, x3, x4, x5] : Array Value)[k]? = some v → ∀ w, (part 2 #[x1, x2, x3, x4, x5] k).run Try.prog w = .ok v w := by
    intro k x1 x2 x3 x4 x5 v h w
    simp [part, isAgg, run_underlying Try.underlying2, h]
  have Q : ∀ (x y : Int) (w : World), (Op.equalIn 9999 2 (.int .i64 x) (.int .i64 y)).run Try.prog w = .ok (x == y) w := fun x y w => run_equalIn_int w 9998 2 .i64 .i64 x y Try.underlying2
  simp [Op.eqFields, Sem.run_bind, P 0 _ _ _ _ _ _ rfl, P 1 _ _ _ _ _ _ rfl, P 2 _ _ _ _ _ _ rfl, P 3 _ _ _ _ _ _ rfl, P 4 _ _ _ _ _ _ rfl, Q]

/-- A word that is decoded is encoded again. -/
theorem enc_of_dec {x : Int} {j : Ins} (h0 : 0 ≤ x) (h : dec x = some j) : encS j = (x, true) := by
  obtain ⟨ho, hr, _, hw⟩ := dec_words h0 h
  unfold encS
  rw [ho, hr, hw, h]
  simp

theorem enc_true {i : Ins} (h : (encS i).2 = true) : opB i.op = true ∧ dec (encS i).1 = some i := by
  unfold encS at h ⊢
  split at h
  · rename_i hc
    rw [if_pos hc]
    simp only [Bool.and_eq_true, decide_eq_true_eq] at hc
    exact ⟨hc.1.1, hc.2⟩
  · cases h

theorem enc_false {i : Ins} (h : (encS i).2 = false) : (encS i).1 = 0 := by
  unfold encS at h ⊢
  split at h
  · cases h
  · rename_i hc; rw [if_neg hc]

theorem name_back : ∀ k, k < 98 → findName (rowAt k).name 98 0 = (k : Int) + 1 := by
  have h : (List.range 98).all (fun k => findName (rowAt k).name 98 0 == (k : Int) + 1) = true := by kernel_rfl
  intro k hk
  have := List.all_eq_true.1 h k (by simpa using hk)
  exact eq_of_beq this

theorem form_one (f : Fm) : f.str.size = 1 := by cases f <;> rfl

theorem op_name {op : Int} (h : opB op = true) : findName (nameOf op) 98 0 = op ∧ (formOf op).size = 1 := by
  have h2 : 1 ≤ op ∧ op ≤ 98 := of_decide_eq_true h
  obtain ⟨k, rfl⟩ : ∃ k : Nat, op = (k : Int) + 1 := ⟨(op - 1).toNat, by omega⟩
  constructor
  · have := name_back k (by omega)
    unfold nameOf
    rw [h, if_pos rfl, show ((k : Int) + 1 - 1).toNat = k from by omega]
    exact this
  · unfold formOf
    rw [h, if_pos rfl]; exact form_one _

/-- The cells of an Inst that lies in a block. -/
theorem cells5 {w : World} {b : Nat} {o0 o1 o2 o3 o4 : Int} (h : w.heap[b]? = some (.cells #[.int .i64 o0, .int .i64 o1, .int .i64 o2, .int .i64 o3, .int .i64 o4] 35 (0, 0))) :
    w.cell? ⟨b, 0, none⟩ = some (.int .i64 o0) ∧ w.cell? ⟨b, 1, none⟩ = some (.int .i64 o1) ∧ w.cell? ⟨b, 2, none⟩ = some (.int .i64 o2) ∧ w.cell? ⟨b, 3, none⟩ = some (.int .i64 o3) ∧ w.cell? ⟨b, 4, none⟩ = some (.int .i64 o4) :=
  ⟨cell_of_row _ _ _ _ _ _ h, cell_of_row _ _ _ _ _ _ h, cell_of_row _ _ _ _ _ _ h, cell_of_row _ _ _ _ _ _ h, cell_of_row _ _ _ _ _ _ h⟩

theorem keep_row {w w' : World} {b : Nat} {o : Obj} (h : w.heap[b]? = some o) (hb : Below w.heap.size w w') : w'.heap[b]? = some o := by
  by_cases hl : b < w.heap.size
  · rw [hb.block b hl]; exact h
  · rw [Array.getElem?_eq_none (by omega)] at h; cases h

/-- A call that touches nothing that was there keeps the cells of two Insts. -/
theorem keep10 {f : FuncId} {args : Array Value} {v : Value} {W : World} (b1 b2 : Nat) (o0 o1 o2 o3 o4 : Int) (hC : Calls Try.prog f args W fun e w' => e = .returned v ∧ Below W.heap.size W w')
    (hS : (W.cell? ⟨b1, 0, none⟩ = some (.int .i64 o0) ∧ W.cell? ⟨b1, 1, none⟩ = some (.int .i64 o1) ∧ W.cell? ⟨b1, 2, none⟩ = some (.int .i64 o2) ∧ W.cell? ⟨b1, 3, none⟩ = some (.int .i64 o3) ∧ W.cell? ⟨b1, 4, none⟩ = some (.int .i64 o4)) ∧ (W.cell? ⟨b2, 0, none⟩ = some (.int .i64 o0) ∧ W.cell? ⟨b2, 1, none⟩ = some (.int .i64 o1) ∧ W.cell? ⟨b2, 2, none⟩ = some (.int .i64 o2) ∧ W.cell? ⟨b2, 3, none⟩ = some (.int .i64 o3) ∧ W.cell? ⟨b2, 4, none⟩ = some (.int .i64 o4))) :
    Calls Try.prog f args W fun e w' => e = .returned v ∧ Below W.heap.size W w' ∧ (w'.cell? ⟨b1, 0, none⟩ = some (.int .i64 o0) ∧ w'.cell? ⟨b1, 1, none⟩ = some (.int .i64 o1) ∧ w'.cell? ⟨b1, 2, none⟩ = some (.int .i64 o2) ∧ w'.cell? ⟨b1, 3, none⟩ = some (.int .i64 o3) ∧ w'.cell? ⟨b1, 4, none⟩ = some (.int .i64 o4)) ∧ (w'.cell? ⟨b2, 0, none⟩ = some (.int .i64 o0) ∧ w'.cell? ⟨b2, 1, none⟩ = some (.int .i64 o1) ∧ w'.cell? ⟨b2, 2, none⟩ = some (.int .i64 o2) ∧ w'.cell? ⟨b2, 3, none⟩ = some (.int .i64 o3) ∧ w'.cell? ⟨b2, 4, none⟩ = some (.int .i64 o4)) := by
  refine hC.mono fun e w' h => ⟨h.1, h.2, ?_⟩
  have K : ∀ (b k : Nat) (x : Value), W.cell? ⟨b, k, none⟩ = some x → w'.cell? ⟨b, k, none⟩ = some x := fun b k x hx => (h.2.cell (World.block_lt_of_cell? _ _ hx)).trans hx
  obtain ⟨⟨a0, a1, a2, a3, a4⟩, c0, c1, c2, c3, c4⟩ := hS
  exact ⟨⟨K _ _ _ a0, K _ _ _ a1, K _ _ _ a2, K _ _ _ a3, K _ _ _ a4⟩, K _ _ _ c0, K _ _ _ c1, K _ _ _ c2, K _ _ _ c3, K _ _ _ c4⟩

theorem row_lt {w : World} {b : Nat} {o : Obj} (h : w.heap[b]? = some o) : b < w.heap.size := by
  by_cases hl : b < w.heap.size
  · exact hl
  · rw [Array.getElem?_eq_none (by omega)] at h; cases h

theorem encI_c (i : Ins) (h : i.wf) (W : World) : Calls Try.prog 18 #[.agg #[.int .i64 i.op, .int .i64 i.rd, .int .i64 i.a, .int .i64 i.b, .int .i64 i.imm]] W fun e w' => e = .returned (.tuple #[.int .u64 (encS i).1, .bool (encS i).2]) ∧ Below W.heap.size W w' := by
  have h1 := implEncode_any fnExactEncode.bareDoes i h.1 W
  unfold encVI at h1
  rw [fnExactEncode.enc_eq] at h1
  exact h1

theorem encS_c (i : Ins) (h : i.wf) (W : World) : Calls Try.prog 20 #[.agg #[.int .i64 i.op, .int .i64 i.rd, .int .i64 i.a, .int .i64 i.b, .int .i64 i.imm]] W fun e w' => e = .returned (.tuple #[.int .u64 (encS i).1, .bool (encS i).2]) ∧ Below W.heap.size W w' :=
  specEncode_any i h.1 h.2.2.2.2 W

theorem encS_U (i : Ins) : U (encS i).1 := by
  unfold encS
  split
  · exact word_U i
  · constructor <;> decide

theorem decI_c {u : Int} {i : Ins} (hU : U u) (hd : dec u = some i) (W : World) : Calls Try.prog 16 #[.int .u64 u] W fun e w' => e = .returned (.tuple #[.agg #[.int .i64 i.op, .int .i64 i.rd, .int .i64 i.a, .int .i64 i.b, .int .i64 i.imm], .bool true]) ∧ Below W.heap.size W w' := by
  have h := implDecode_any u hU.1 hU.2 W
  have e : decV u = .tuple #[.agg #[.int .i64 i.op, .int .i64 i.rd, .int .i64 i.a, .int .i64 i.b, .int .i64 i.imm], .bool true] := by
    unfold decV; rw [hd]; rfl
  rw [e] at h
  exact h

set_option maxRecDepth 20000 in
set_option maxHeartbeats 6400000 in
theorem walk (a0 : Option Addr) (len0 cap0 : Nat) (z0 : List Int) (w : World) (w0 : IsRow .u8 w a0 len0 cap0 z0) :
    Calls Try.prog 4 #[.slice a0 len0 cap0] w fun e w' => e = .returned (.bool true) ∧ Below w.heap.size w w' := by
  by_cases hbig : 4096 < len0
  · have hb : decide (4096 < len0) = true := by simpa using hbig
    go_enter Try.func4, Try.ntmps4
    go_wp2_with fail
    refine (big_any a0 len0 cap0 _).mono ?_
    rintro e w1 ⟨rfl, hw1⟩
    subst hw1
    rw [hb]
    go_wp2_with fail
    go_ret
    exact ⟨rfl, Below.refl _ _⟩
  · have hb : decide (4096 < len0) = false := by simpa using hbig
    obtain ⟨zs, hcd⟩ := code_of w0 (by omega)
    have HD : Hid (Code w a0 len0 zs) := hcd
    have hguard := inst_guard
    clear hcd w0 hbig
    go_enter Try.func4, Try.ntmps4
    go_wp2_with fail
    refine (big_any a0 len0 cap0 _).mono ?_
    rintro e w1 ⟨rfl, hw1⟩
    have hw1' := hw1.symm
    subst hw1'
    rw [hb]
    clear hb
    go_wp2_with fail
    refine (DrawDecode_c cap0 _ HD.out).mono ?_
    rintro e w2 ⟨x, rfl, hx, HB2⟩
    obtain ⟨j, t, hV, ht1, ht0⟩ := decV_ins x
    have HI : Hid (∀ W : World, Calls Try.prog 16 #[.int .u64 x] W fun e w' => e = .returned (decV x) ∧ Below W.heap.size W w') := implDecode_any x hx.1 hx.2
    have HS : Hid (∀ W : World, Calls Try.prog 17 #[.int .u64 x] W fun e w' => e = .returned (decV x) ∧ Below W.heap.size W w') := specDecode_any x hx.1 hx.2
    rw [hV] at HI HS
    have HE : Hid (t = true → ∀ W : World, Calls Try.prog 18 #[.agg #[.int .i64 j.op, .int .i64 j.rd, .int .i64 j.a, .int .i64 j.b, .int .i64 j.imm]] W fun e w' => e = .returned (.tuple #[.int .u64 x, .bool true]) ∧ Below W.heap.size W w') := by
      intro ht W
      have hd := ht1 ht
      have hop : (Lit.int .i64 j.op).wf = true := by
        have ho := (dec_words hx.1 hd).1
        have h2 : 1 ≤ j.op ∧ j.op ≤ 98 := of_decide_eq_true ho
        exact wf64 (by omega) (by omega)
      have h := implEncode_any fnExactEncode.bareDoes j hop W
      unfold encVI at h
      rw [fnExactEncode.enc_eq, enc_of_dec hx.1 hd] at h
      exact h
    obtain ⟨j0, j1, j2, j3, j4⟩ := j
    simp only at HI HS HE
    have he := run_sameInst j0 j1 j2 j3 j4
    have dt : (t != t) = false := by simp
    have dx : (x != x) = false := by simp
    clear hV ht1 ht0 hx
    go_wp2_with fail
    refine (HI.out _).mono ?_
    rintro e w3 ⟨rfl, hb3⟩
    have B3 : Hid (Below w.heap.size w w3) := below_trans HB2.out hb3
    have r3 : (w3.alloc (.cells #[.int .i64 j0, .int .i64 j1, .int .i64 j2, .int .i64 j3, .int .i64 j4] 35)).heap[w3.heap.size]? = some (.cells #[.int .i64 j0, .int .i64 j1, .int .i64 j2, .int .i64 j3, .int .i64 j4] 35 (0, 0)) := heap_alloc_new _ _
    have HR3 : Hid ((w3.alloc (.cells #[.int .i64 j0, .int .i64 j1, .int .i64 j2, .int .i64 j3, .int .i64 j4] 35)).heap[w3.heap.size]? = some (.cells #[.int .i64 j0, .int .i64 j1, .int .i64 j2, .int .i64 j3, .int .i64 j4] 35 (0, 0))) := r3
    clear r3 HB2 hb3
    go_wp2_with fail
    refine (HS.out _).mono ?_
    rintro e w4 ⟨rfl, hb4⟩
    have R4 : Hid (w4.heap[w3.heap.size]? = some (.cells #[.int .i64 j0, .int .i64 j1, .int .i64 j2, .int .i64 j3, .int .i64 j4] 35 (0, 0))) := keep_row HR3.out hb4
    have B4 : Hid (Below w.heap.size w w4) := below_trans (B3.out.alloc B3.out.size _) hb4
    have hlt4 : w3.heap.size < w4.heap.size := by have := hb4.size; simp at this; omega
    obtain ⟨c0, c1, c2, c3, c4⟩ := cells5 R4.out
    clear HR3 B3 hb4
    cases t
    case' true =>
      go_wp2_with fail
      refine (HE.out (by first | rfl | trivial) _).mono ?_
      rintro e w5 ⟨rfl, hb5⟩
      have B5 : Hid (Below w.heap.size w w5) := below_trans (B4.out.alloc B4.out.size _) hb5
      clear hb5
      go_wp2_with fail
    case' false =>
      go_wp2_with fail
      have B5 : Hid (Below w.heap.size w (w4.alloc (.cells #[.int .i64 j0, .int .i64 j1, .int .i64 j2, .int .i64 j3, .int .i64 j4] 35))) := B4.out.alloc B4.out.size _
      generalize w4.alloc (.cells #[.int .i64 j0, .int .i64 j1, .int .i64 j2, .int .i64 j3, .int .i64 j4] 35) = w5 at *
    all_goals clear B4 R4 hlt4 c0 c1 c2 c3 c4 HE HI HS
    all_goals have HD5 : Hid (Code w5 a0 len0 zs) := ⟨HD.out.len, HD.out.few, HD.out.sl.below B5.out, HD.out.bd⟩
    all_goals refine (DrawEncode_c cap0 _ HD5.out).mono ?_
    all_goals rintro e w6 ⟨⟨o0, o1, o2, o3, o4⟩, rfl, hwf, HB6⟩
    all_goals simp only [Ins.val]
    all_goals have B6 : Hid (Below w.heap.size w w6) := below_trans B5.out HB6.out
    all_goals have HEI : Hid (∀ W : World, Calls Try.prog 18 #[.agg #[.int .i64 o0, .int .i64 o1, .int .i64 o2, .int .i64 o3, .int .i64 o4]] W fun e w' => e = .returned (.tuple #[.int .u64 (encS ⟨o0, o1, o2, o3, o4⟩).1, .bool (encS ⟨o0, o1, o2, o3, o4⟩).2]) ∧ Below W.heap.size W w') := encI_c ⟨o0, o1, o2, o3, o4⟩ hwf
    all_goals have HES : Hid (∀ W : World, Calls Try.prog 20 #[.agg #[.int .i64 o0, .int .i64 o1, .int .i64 o2, .int .i64 o3, .int .i64 o4]] W fun e w' => e = .returned (.tuple #[.int .u64 (encS ⟨o0, o1, o2, o3, o4⟩).1, .bool (encS ⟨o0, o1, o2, o3, o4⟩).2]) ∧ Below W.heap.size W w') := encS_c ⟨o0, o1, o2, o3, o4⟩ hwf
    all_goals have HT : Hid ((encS ⟨o0, o1, o2, o3, o4⟩).2 = true → opB o0 = true ∧ dec (encS ⟨o0, o1, o2, o3, o4⟩).1 = some ⟨o0, o1, o2, o3, o4⟩ ∧ U (encS ⟨o0, o1, o2, o3, o4⟩).1) := fun h => ⟨(enc_true h).1, (enc_true h).2, encS_U _⟩
    all_goals have HF : Hid ((encS ⟨o0, o1, o2, o3, o4⟩).2 = false → (encS ⟨o0, o1, o2, o3, o4⟩).1 = 0) := fun h => enc_false h
    all_goals have HOW : Hid ((Lit.int .i64 o0).wf = true) := hwf.1
    all_goals generalize (encS ⟨o0, o1, o2, o3, o4⟩).1 = u at *
    all_goals generalize (encS ⟨o0, o1, o2, o3, o4⟩).2 = ok at *
    all_goals have hu : (u != u) = false := by simp
    all_goals have hok : (ok != ok) = false := by simp
    all_goals have r6 : Hid ((w6.alloc (.cells #[.int .i64 o0, .int .i64 o1, .int .i64 o2, .int .i64 o3, .int .i64 o4] 35)).heap[w6.heap.size]? = some (.cells #[.int .i64 o0, .int .i64 o1, .int .i64 o2, .int .i64 o3, .int .i64 o4] 35 (0, 0))) := heap_alloc_new _ _
    all_goals clear hwf HB6 B5 HD5 HD
    all_goals go_wp2_with fail
    all_goals refine (HEI.out _).mono ?_
    all_goals rintro e w7 ⟨rfl, hb7⟩
    all_goals have R7 : Hid (w7.heap[w6.heap.size]? = some (.cells #[.int .i64 o0, .int .i64 o1, .int .i64 o2, .int .i64 o3, .int .i64 o4] 35 (0, 0))) := keep_row r6.out hb7
    all_goals have B7 : Hid (Below w.heap.size w w7) := below_trans (B6.out.alloc B6.out.size _) hb7
    all_goals obtain ⟨c0, c1, c2, c3, c4⟩ := cells5 R7.out
    all_goals clear r6 B6 hb7
    all_goals go_wp2_with fail
    all_goals refine (HES.out _).mono ?_
    all_goals rintro e w8 ⟨rfl, hb8⟩
    all_goals have R8 : Hid (w8.heap[w6.heap.size]? = some (.cells #[.int .i64 o0, .int .i64 o1, .int .i64 o2, .int .i64 o3, .int .i64 o4] 35 (0, 0))) := keep_row R7.out hb8
    all_goals have B8 : Hid (Below w.heap.size w w8) := below_trans B7.out hb8
    all_goals clear c0 c1 c2 c3 c4 R7 B7 hb8 HES HEI
    all_goals cases ok
    case false =>
      have h0 := HF.out rfl
      subst h0
      go_wp2_with fail
      go_ret
      exact ⟨rfl, B8.out⟩
    case false =>
      have h0 := HF.out rfl
      subst h0
      go_wp2_with fail
      go_ret
      exact ⟨rfl, B8.out⟩
    all_goals obtain ⟨hop, hdec, hU⟩ := HT.out rfl
    all_goals have HDD : Hid (∀ W : World, Calls Try.prog 16 #[.int .u64 u] W fun e w' => e = .returned (.tuple #[.agg #[.int .i64 o0, .int .i64 o1, .int .i64 o2, .int .i64 o3, .int .i64 o4], .bool true]) ∧ Below W.heap.size W w') := decI_c hU hdec
    all_goals have HNM : Hid (∀ W : World, Calls Try.prog 22 #[.int .i64 o0] W fun e w' => e = .returned (.string (nameOf o0)) ∧ Below W.heap.size W w') := implName_any o0 HOW.out
    all_goals have HOO : Hid (∀ W : World, Calls Try.prog 21 #[.string (nameOf o0)] W fun e w' => e = .returned (.int .i64 o0) ∧ Below W.heap.size W w') := opOf_c (nameOf o0) o0 (op_name hop).1
    all_goals have HFO : Hid (∀ W : World, Calls Try.prog 23 #[.int .i64 o0] W fun e w' => e = .returned (.string (formOf o0)) ∧ Below W.heap.size W w') := implForm_any o0 HOW.out
    all_goals have hfs : (formOf o0).size = 1 := (op_name hop).2
    all_goals have he2 := run_sameInst o0 o1 o2 o3 o4
    all_goals have doo : (o0 == o0) = true := by simp
    all_goals clear hop hdec hU HT HF HOW he
    all_goals generalize nameOf o0 = nm at *
    all_goals generalize formOf o0 = fm at *
    all_goals go_wp2_with fail
    all_goals refine (HDD.out _).mono ?_
    all_goals rintro e w9 ⟨rfl, hb9⟩
    all_goals have R9 : Hid (w9.heap[w6.heap.size]? = some (.cells #[.int .i64 o0, .int .i64 o1, .int .i64 o2, .int .i64 o3, .int .i64 o4] 35 (0, 0))) := keep_row R8.out hb9
    all_goals have B9 : Hid (Below w.heap.size w w9) := below_trans B8.out hb9
    all_goals clear R8 B8 hb9 HDD
    all_goals have hlt9 : w6.heap.size < w9.heap.size := row_lt R9.out
    all_goals obtain ⟨c0, c1, c2, c3, c4⟩ := cells5 R9.out
    all_goals go_wp2_with fail
    all_goals go_region_held3 (fun w' => (w'.cell? ⟨w9.heap.size, 0, none⟩ = some (.int .i64 o0) ∧ w'.cell? ⟨w9.heap.size, 1, none⟩ = some (.int .i64 o1) ∧ w'.cell? ⟨w9.heap.size, 2, none⟩ = some (.int .i64 o2) ∧ w'.cell? ⟨w9.heap.size, 3, none⟩ = some (.int .i64 o3) ∧ w'.cell? ⟨w9.heap.size, 4, none⟩ = some (.int .i64 o4)) ∧ (w'.cell? ⟨w6.heap.size, 0, none⟩ = some (.int .i64 o0) ∧ w'.cell? ⟨w6.heap.size, 1, none⟩ = some (.int .i64 o1) ∧ w'.cell? ⟨w6.heap.size, 2, none⟩ = some (.int .i64 o2) ∧ w'.cell? ⟨w6.heap.size, 3, none⟩ = some (.int .i64 o3) ∧ w'.cell? ⟨w6.heap.size, 4, none⟩ = some (.int .i64 o4))) (go_keep) (first | (go_at_call 22; (refine (keep10 w9.heap.size w6.heap.size o0 o1 o2 o3 o4 (HNM.out _) ?_).mono ?_; (first | assumption | (simp [*])); rintro e wx ⟨rfl, hbwx, hkwx⟩)) | (go_at_call 21; (refine (keep10 w9.heap.size w6.heap.size o0 o1 o2 o3 o4 (HOO.out _) ?_).mono ?_; (first | assumption | (simp [*])); rintro e wy ⟨rfl, hbwy, hkwy⟩)) | (go_at_call 23; (refine (keep10 w9.heap.size w6.heap.size o0 o1 o2 o3 o4 (HFO.out _) ?_).mono ?_; (first | assumption | (simp [*])); rintro e wz ⟨rfl, hbwz, hkwz⟩)))
    all_goals go_wp2_with fail
    all_goals go_ret
    all_goals refine ⟨rfl, below_trans (below_trans (below_trans (w1 := (w9.alloc (.cells #[.int .i64 o0, .int .i64 o1, .int .i64 o2, .int .i64 o3, .int .i64 o4] 35)).drew) ?_ hbwx) hbwy) hbwz⟩
    all_goals exact (B9.out.alloc B9.out.size _).drew

end Go.Proofs.Ytiefjllidnjbdaa.fnDecoded
