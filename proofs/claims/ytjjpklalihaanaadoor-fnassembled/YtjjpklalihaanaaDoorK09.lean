/- Own lemmas. -/
import Derived.Test.YtjjpklalihaanaaDoorK04
import Derived.Test.YtjjpklalihaanaaDoorK08
import Derived.Deep.RegionHeld3
namespace Go.Proofs.YtjjpklalihaanaaDoor
open Go.RowKit
set_option linter.unusedVariables false

def IW (i : Ins) : Prop := (Lit.int .i64 i.op).wf = true ∧ (Lit.int .i64 i.rd).wf = true ∧ (Lit.int .i64 i.a).wf = true ∧ (Lit.int .i64 i.b).wf = true ∧ (Lit.int .i64 i.imm).wf = true

theorem wf_bds {x : Int} (h : (Lit.int .i64 x).wf = true) : -9223372036854775808 ≤ x ∧ x ≤ 9223372036854775807 := by
  have hmin : IntKind.i64.min = -9223372036854775808 := rfl
  have hmax : IntKind.i64.max = 9223372036854775807 := rfl
  simp only [Lit.wf, Bool.and_eq_true, decide_eq_true_eq] at h
  omega

def shParts : Fm → List Nat
  | .r => [0, 1, 2]
  | .i | .h | .w | .c => [0, 1, 3]
  | .s | .b => [1, 2, 3]
  | .u | .j => [0, 3]
  | .a => [0, 1, 2, 3]
  | .x => []

def shPart (i : Ins) : Nat → List UInt8
  | 0 => 120 :: Lib.itoa i.rd
  | 1 => 120 :: Lib.itoa i.a
  | 2 => 120 :: Lib.itoa i.b
  | _ => Lib.itoa i.imm

def shTail (i : Ins) : List Nat → List UInt8
  | [] => []
  | p :: ps => 32 :: (shPart i p ++ shTail i ps)

def shText (i : Ins) : List UInt8 := (nameOf i.op).data.toList ++ shTail i (shParts (rowOp i.op).fm)

def showL (i : Ins) : List UInt8 := if (encS i).2 then shText i else []

def shCode : Nat → UInt8
  | 0 => 100
  | 1 => 97
  | 2 => 98
  | _ => 105

def shShape (f : Fm) : ByteArray := ⟨((shParts f).map shCode).toArray⟩

theorem shTail_snoc (i : Ins) (p : Nat) : ∀ ps, shTail i (ps ++ [p]) = shTail i ps ++ 32 :: shPart i p := by
  intro ps
  induction ps with
  | nil => simp [shTail]
  | cons q ps ih => simp [shTail, ih]

theorem shPart_len (i : Ins) (h : IW i) (p : Nat) : (shPart i p).length ≤ 22 := by
  have hb := wf_bds h.2.1
  have hc := wf_bds h.2.2.1
  have hd := wf_bds h.2.2.2.1
  have he := wf_bds h.2.2.2.2
  have h1 := Lib.itoa_length_le i.rd hb.1 hb.2
  have h2 := Lib.itoa_length_le i.a hc.1 hc.2
  have h3 := Lib.itoa_length_le i.b hd.1 hd.2
  have h4 := Lib.itoa_length_le i.imm he.1 he.2
  unfold shPart
  split <;> (try simp only [List.length_cons]) <;> omega

theorem shTail_len (i : Ins) (h : IW i) : ∀ ps : List Nat, (shTail i ps).length ≤ 23 * ps.length := by
  intro ps
  induction ps with
  | nil => simp [shTail]
  | cons q ps ih =>
    have := shPart_len i h q
    simp only [shTail, List.length_cons, List.length_append]
    omega

theorem shParts_len (f : Fm) : (shParts f).length ≤ 4 := by cases f <;> decide

theorem shParts_at (f : Fm) (k : Nat) (h : k < (shParts f).length) : ∃ p, (shParts f)[k]? = some p ∧ (p = 0 ∨ p = 1 ∨ p = 2 ∨ p = 3) ∧ (shParts f).take (k + 1) = (shParts f).take k ++ [p] := by
  refine ⟨(shParts f)[k], List.getElem?_eq_getElem h, ?_, ?_⟩
  · have hm : (shParts f)[k] ∈ shParts f := List.getElem_mem h
    generalize (shParts f)[k] = p at hm
    cases f <;> simp [shParts] at hm <;> omega
  · rw [List.take_succ_eq_append_getElem h]

theorem name_len (op : Int) : (nameOf op).data.toList.length ≤ 20 := by
  have h : (List.range 98).all (fun k => decide ((rowAt k).name.data.toList.length ≤ 20)) = true := by kernel_rfl
  unfold nameOf
  split
  · rename_i hb
    have h2 : 1 ≤ op ∧ op ≤ 98 := of_decide_eq_true hb
    have := List.all_eq_true.1 h (op - 1).toNat (by simp; omega)
    exact of_decide_eq_true this
  · simp

theorem shText_len (i : Ins) (h : IW i) : (shText i).length ≤ 120 := by
  have h1 := name_len i.op
  have h2 := shTail_len i h (shParts (rowOp i.op).fm)
  have h3 := shParts_len (rowOp i.op).fm
  simp only [shText, List.length_append]
  omega

theorem formOf_true {op : Int} (h : opB op = true) : formOf op = (rowOp op).fm.str := by simp [formOf, h, rowOp]

theorem encS_opB {i : Ins} (h : (encS i).2 = true) : opB i.op = true := by
  unfold encS at h
  split at h
  · rename_i hc
    simp only [Bool.and_eq_true] at hc
    exact hc.1.1
  · cases h

theorem encI_cc (i : Ins) (h : IW i) (W : World) : Calls Tryd.prog 22 #[.agg #[.int .i64 i.op, .int .i64 i.rd, .int .i64 i.a, .int .i64 i.b, .int .i64 i.imm]] W fun e w' => e = .returned (.tuple #[.int .u64 (encS i).1, .bool (encS i).2]) ∧ Below W.heap.size W w' := by
  have h1 := implEncode_any fnExactEncode.bareDoes i h.1 W
  unfold encVI at h1
  rw [fnExactEncode.enc_eq] at h1
  exact h1

theorem encS_cc (i : Ins) (h : IW i) (W : World) : Calls Tryd.prog 24 #[.agg #[.int .i64 i.op, .int .i64 i.rd, .int .i64 i.a, .int .i64 i.b, .int .i64 i.imm]] W fun e w' => e = .returned (.tuple #[.int .u64 (encS i).1, .bool (encS i).2]) ∧ Below W.heap.size W w' :=
  specEncode_any i h.1 h.2.2.2.2 W

theorem l13Shape_any (f : Fm) (w : World) : Calls Tryd.prog 38 #[.string f.str] w fun e w' => e = .returned (.string (shShape f)) ∧ w' = w := by
  cases f <;> simp only [Fm.str] <;> go_enter Tryd.func38, Tryd.ntmps38 <;> go_wp2 <;> go_ret <;> exact ⟨rfl, rfl⟩

theorem ins_row {w : World} {b : Nat} {i : Ins} (h : w.heap[b]? = some (.cells #[.int .i64 i.op, .int .i64 i.rd, .int .i64 i.a, .int .i64 i.b, .int .i64 i.imm] 30 (0, 0))) :
    w.cell? ⟨b, 0, none⟩ = some (.int .i64 i.op) ∧ w.cell? ⟨b, 1, none⟩ = some (.int .i64 i.rd) ∧ w.cell? ⟨b, 2, none⟩ = some (.int .i64 i.a) ∧ w.cell? ⟨b, 3, none⟩ = some (.int .i64 i.b) ∧ w.cell? ⟨b, 4, none⟩ = some (.int .i64 i.imm) :=
  ⟨cell_of_row _ _ _ _ _ _ h, cell_of_row _ _ _ _ _ _ h, cell_of_row _ _ _ _ _ _ h, cell_of_row _ _ _ _ _ _ h, cell_of_row _ _ _ _ _ _ h⟩

theorem row_keep {w w' : World} {b : Nat} {o : Obj} (h : w.heap[b]? = some o) (hb : Below w.heap.size w w') : w'.heap[b]? = some o := by
  by_cases hl : b < w.heap.size
  · rw [hb.block b hl]; exact h
  · rw [Array.getElem?_eq_none (by omega)] at h; cases h

set_option maxRecDepth 20000 in
set_option maxHeartbeats 1600000 in
theorem specShow_any (i : Ins) (h : IW i) (w : World) : Calls Tryd.prog 15 #[.agg #[.int .i64 i.op, .int .i64 i.rd, .int .i64 i.a, .int .i64 i.b, .int .i64 i.imm]] w fun e w' => e = .returned (.string ⟨(showL i).toArray⟩) ∧ Below w.heap.size w w' := by
  have HE : Hid (∀ W : World, _) := encS_cc i h
  have HO : Hid ((encS i).2 = true → opB i.op = true) := encS_opB
  have HS : Hid (showL i = if (encS i).2 then shText i else []) := rfl
  obtain ⟨⟨x, t⟩, hxt⟩ : ∃ xt, xt = encS i := ⟨_, rfl⟩
  rw [← hxt] at HE HO HS
  clear hxt
  have hrow0 : (w.alloc (.cells #[.int .i64 i.op, .int .i64 i.rd, .int .i64 i.a, .int .i64 i.b, .int .i64 i.imm] 30 (0, 0))).heap[w.heap.size]? = some (.cells #[.int .i64 i.op, .int .i64 i.rd, .int .i64 i.a, .int .i64 i.b, .int .i64 i.imm] 30 (0, 0)) := heap_alloc_new _ _
  have HR0 : Hid (_ = _) := hrow0
  clear hrow0
  go_enter Tryd.func15, Tryd.ntmps15
  go_wp2_with fail
  refine (HE.out _).mono ?_
  rintro e w1 ⟨rfl, hb1⟩
  cases t with
  | false =>
    go_wp2_with fail
    go_ret
    exact ⟨by rw [HS.out]; rfl, below_trans ((Below.refl _ _).alloc (Nat.le_refl _) _) hb1⟩
  | true =>
    have HR1 : Hid (_ = _) := row_keep HR0.out hb1
    obtain ⟨c0, c1, c2, c3, c4⟩ := ins_row HR1.out
    clear c1 c2 c3 c4
    go_wp2_with fail
    refine (specName_any i.op h.1 _).mono ?_
    rintro e w2 ⟨rfl, hb2⟩
    have HR2 : Hid (_ = _) := row_keep HR1.out hb2
    have HB2 : Hid (Below w.heap.size w w2) := below_trans (below_trans ((Below.refl _ _).alloc (Nat.le_refl _) _) hb1) hb2
    clear c0
    obtain ⟨c0, c1, c2, c3, c4⟩ := ins_row HR2.out
    clear c1 c2 c3 c4
    obtain ⟨nm, hnm0⟩ : ∃ nm, nm = nameOf i.op := ⟨_, rfl⟩
    have HN : Hid (nm = nameOf i.op) := hnm0
    rw [← hnm0]
    clear hnm0
    go_wp2_with fail
    refine (specForm_any i.op h.1 _).mono ?_
    rintro e w3 ⟨rfl, hb3⟩
    have HF : Hid (∃ f, f = (rowOp i.op).fm ∧ formOf i.op = f.str) := ⟨_, rfl, formOf_true (HO.out trivial)⟩
    obtain ⟨f, hf, hff⟩ := HF.out
    rw [hff]
    have HFm : Hid (f = (rowOp i.op).fm) := hf
    clear HF hf hff
    have HR3 : Hid (_ = _) := row_keep HR2.out hb3
    have HB3 : Hid (Below w.heap.size w w3) := below_trans HB2.out hb3
    clear hb1 hb2 hb3 HB2 HR2 HR1 HR0 c0 HE HO
    go_wp2_with fail
    refine (l13Shape_any f _).mono ?_
    rintro e w4 ⟨rfl, hw4⟩
    have hw4' := hw4.symm
    subst hw4'
    clear hw4
    have hz : (shShape f).size = (shParts f).length := by simp [shShape, ByteArray.size]
    obtain ⟨F, hF0⟩ : ∃ F, F = shShape f := ⟨_, rfl⟩
    rw [← hF0] at hz ⊢
    have HFs : Hid (F = shShape f) := hF0
    have HZ : Hid (F.size = (shParts f).length) := hz
    have hF4 : F.size ≤ 4 := by rw [hz]; exact shParts_len f
    clear hF0 hz
    go_wp2_with fail
    go_loopw [7, 5] (fun kv sv wr => ∃ (k : Nat) (S : ByteArray), kv = .int .i64 k ∧ sv = .string S ∧ k ≤ F.size ∧ Hid (S.data.toList = nm.data.toList ++ shTail i ((shParts f).take k)) ∧ Hid (wr.heap[w.heap.size]? = some (.cells #[.int .i64 i.op, .int .i64 i.rd, .int .i64 i.a, .int .i64 i.b, .int .i64 i.imm] 30 (0, 0))) ∧ Hid (Below w.heap.size w wr))
      (fun kv _ _ => F.size - (intOf kv).toNat)
    case atStart => exact ⟨0, nm, rfl, rfl, Nat.zero_le _, (by simp [shTail] : nm.data.toList = nm.data.toList ++ shTail i ((shParts f).take 0)), HR3, HB3⟩
    case round =>
      obtain ⟨k, S, rfl, rfl, hk, hS, hR, hB⟩ := hrel
      obtain ⟨c0, c1, c2, c3, c4⟩ := ins_row hR.out
      by_cases hlt : k < F.size
      · have hk4 : k < (shParts f).length := by rw [← HZ.out]; exact hlt
        obtain ⟨p, hp, hpc, htk⟩ := shParts_at f k hk4
        have hch : ∀ c : Nat, (shCode p).toNat = c → (F[k]'hlt).toNat = c := by
          intro c hcc
          rw [← hcc]
          have e1 : F.data.toList[k]? = some (shCode p) := by rw [HFs.out]; simp [shShape, hp]
          have e2 : F.data.toList[k]? = some (F[k]'hlt) := by
            rw [Array.getElem?_toList, Array.getElem?_eq_getElem (by exact hlt)]; rfl
          rw [e1] at e2
          rw [Option.some.inj e2]
        have hSl : S.size ≤ 200 := by
          have e : S.size = S.data.toList.length := by rw [Array.length_toList]; rfl
          have h1 := name_len i.op
          have h2 := shTail_len i h ((shParts f).take k)
          have h3 := shParts_len f
          rw [e, hS.out, HN.out, List.length_append]
          simp only [List.length_take] at h2
          omega
        have hg1 : ¬ 9223372036854775807 < S.size + 2 := by omega
        have hg0 : ¬ 9223372036854775807 < S.size + 1 := by omega
        rcases hpc with rfl | rfl | rfl | rfl
        · have hc := hch 100 rfl
          clear hch hp
          obtain ⟨T, hT0⟩ : ∃ T : ByteArray, T = ⟨(Lib.itoa i.rd).toArray⟩ := ⟨_, rfl⟩
          have HT : Hid (T = ⟨(Lib.itoa i.rd).toArray⟩) := hT0
          have HC : Hid (∀ W : World, Calls Tryd.prog 40 #[.int .i64 i.rd] W fun e w' => e = .returned (.string T) ∧ Below W.heap.size W w') := fun W => by rw [hT0]; exact l13Int_any i.rd (wf_bds h.2.1).1 (wf_bds h.2.1).2 W
          have hTl : T.size ≤ 21 := by rw [hT0]; simpa [ByteArray.size] using Lib.itoa_length_le i.rd (wf_bds h.2.1).1 (wf_bds h.2.1).2
          have hg2 : ¬ 9223372036854775807 < S.size + 2 + T.size := by omega
          have HN1 : Hid ((S ++ ⟨#[32, 120]⟩ ++ T).data.toList = nm.data.toList ++ shTail i ((shParts f).take (k + 1))) := by
            show (S ++ ⟨#[32, 120]⟩ ++ T).data.toList = nm.data.toList ++ shTail i ((shParts f).take (k + 1))
            rw [htk, shTail_snoc, ByteArray.data_append, ByteArray.data_append, Array.toList_append, Array.toList_append, hS.out, hT0]
            simp [shPart]
          clear hT0 hTl htk
          go_wp2_with fail
          refine (HC.out _).mono ?_
          rintro e w5 ⟨rfl, hb5⟩
          have hR5 : Hid (_ = _) := row_keep hR.out hb5
          have hB5 : Hid (Below w.heap.size w w5) := below_trans hB.out hb5
          clear hb5 hR hB HC hS
          go_wp2_with fail
          go_roundw
          case rel => exact ⟨k + 1, _, by go_num, rfl, by omega, HN1, hR5, hB5⟩
          case measure => simp [intOf]; omega
        · have hc := hch 97 rfl
          clear hch hp
          obtain ⟨T, hT0⟩ : ∃ T : ByteArray, T = ⟨(Lib.itoa i.a).toArray⟩ := ⟨_, rfl⟩
          have HT : Hid (T = ⟨(Lib.itoa i.a).toArray⟩) := hT0
          have HC : Hid (∀ W : World, Calls Tryd.prog 40 #[.int .i64 i.a] W fun e w' => e = .returned (.string T) ∧ Below W.heap.size W w') := fun W => by rw [hT0]; exact l13Int_any i.a (wf_bds h.2.2.1).1 (wf_bds h.2.2.1).2 W
          have hTl : T.size ≤ 21 := by rw [hT0]; simpa [ByteArray.size] using Lib.itoa_length_le i.a (wf_bds h.2.2.1).1 (wf_bds h.2.2.1).2
          have hg2 : ¬ 9223372036854775807 < S.size + 2 + T.size := by omega
          have HN1 : Hid ((S ++ ⟨#[32, 120]⟩ ++ T).data.toList = nm.data.toList ++ shTail i ((shParts f).take (k + 1))) := by
            show (S ++ ⟨#[32, 120]⟩ ++ T).data.toList = nm.data.toList ++ shTail i ((shParts f).take (k + 1))
            rw [htk, shTail_snoc, ByteArray.data_append, ByteArray.data_append, Array.toList_append, Array.toList_append, hS.out, hT0]
            simp [shPart]
          clear hT0 hTl htk
          go_wp2_with fail
          refine (HC.out _).mono ?_
          rintro e w5 ⟨rfl, hb5⟩
          have hR5 : Hid (_ = _) := row_keep hR.out hb5
          have hB5 : Hid (Below w.heap.size w w5) := below_trans hB.out hb5
          clear hb5 hR hB HC hS
          go_wp2_with fail
          go_roundw
          case rel => exact ⟨k + 1, _, by go_num, rfl, by omega, HN1, hR5, hB5⟩
          case measure => simp [intOf]; omega
        · have hc := hch 98 rfl
          clear hch hp
          obtain ⟨T, hT0⟩ : ∃ T : ByteArray, T = ⟨(Lib.itoa i.b).toArray⟩ := ⟨_, rfl⟩
          have HT : Hid (T = ⟨(Lib.itoa i.b).toArray⟩) := hT0
          have HC : Hid (∀ W : World, Calls Tryd.prog 40 #[.int .i64 i.b] W fun e w' => e = .returned (.string T) ∧ Below W.heap.size W w') := fun W => by rw [hT0]; exact l13Int_any i.b (wf_bds h.2.2.2.1).1 (wf_bds h.2.2.2.1).2 W
          have hTl : T.size ≤ 21 := by rw [hT0]; simpa [ByteArray.size] using Lib.itoa_length_le i.b (wf_bds h.2.2.2.1).1 (wf_bds h.2.2.2.1).2
          have hg2 : ¬ 9223372036854775807 < S.size + 2 + T.size := by omega
          have HN1 : Hid ((S ++ ⟨#[32, 120]⟩ ++ T).data.toList = nm.data.toList ++ shTail i ((shParts f).take (k + 1))) := by
            show (S ++ ⟨#[32, 120]⟩ ++ T).data.toList = nm.data.toList ++ shTail i ((shParts f).take (k + 1))
            rw [htk, shTail_snoc, ByteArray.data_append, ByteArray.data_append, Array.toList_append, Array.toList_append, hS.out, hT0]
            simp [shPart]
          clear hT0 hTl htk
          go_wp2_with fail
          refine (HC.out _).mono ?_
          rintro e w5 ⟨rfl, hb5⟩
          have hR5 : Hid (_ = _) := row_keep hR.out hb5
          have hB5 : Hid (Below w.heap.size w w5) := below_trans hB.out hb5
          clear hb5 hR hB HC hS
          go_wp2_with fail
          go_roundw
          case rel => exact ⟨k + 1, _, by go_num, rfl, by omega, HN1, hR5, hB5⟩
          case measure => simp [intOf]; omega
        · have hc := hch 105 rfl
          clear hch hp
          obtain ⟨T, hT0⟩ : ∃ T : ByteArray, T = ⟨(Lib.itoa i.imm).toArray⟩ := ⟨_, rfl⟩
          have HT : Hid (T = ⟨(Lib.itoa i.imm).toArray⟩) := hT0
          have HC : Hid (∀ W : World, Calls Tryd.prog 40 #[.int .i64 i.imm] W fun e w' => e = .returned (.string T) ∧ Below W.heap.size W w') := fun W => by rw [hT0]; exact l13Int_any i.imm (wf_bds h.2.2.2.2).1 (wf_bds h.2.2.2.2).2 W
          have hTl : T.size ≤ 21 := by rw [hT0]; simpa [ByteArray.size] using Lib.itoa_length_le i.imm (wf_bds h.2.2.2.2).1 (wf_bds h.2.2.2.2).2
          have hg2 : ¬ 9223372036854775807 < S.size + 1 + T.size := by omega
          have HN1 : Hid ((S ++ ⟨#[32]⟩ ++ T).data.toList = nm.data.toList ++ shTail i ((shParts f).take (k + 1))) := by
            show (S ++ ⟨#[32]⟩ ++ T).data.toList = nm.data.toList ++ shTail i ((shParts f).take (k + 1))
            rw [htk, shTail_snoc, ByteArray.data_append, ByteArray.data_append, Array.toList_append, Array.toList_append, hS.out, hT0]
            simp [shPart]
          clear hT0 hTl htk
          go_wp2_with fail
          refine (HC.out _).mono ?_
          rintro e w5 ⟨rfl, hb5⟩
          have hR5 : Hid (_ = _) := row_keep hR.out hb5
          have hB5 : Hid (Below w.heap.size w w5) := below_trans hB.out hb5
          clear hb5 hR hB HC hS
          go_wp2_with fail
          go_roundw
          case rel => exact ⟨k + 1, _, by go_num, rfl, by omega, HN1, hR5, hB5⟩
          case measure => simp [intOf]; omega
      · have hk2 : k = (shParts f).length := by rw [← HZ.out]; omega
        have HN2 : Hid (S = ⟨(showL i).toArray⟩) := by
          apply ByteArray.ext
          apply Array.toList_inj.1
          rw [hS.out, HS.out, if_pos trivial, hk2, List.take_length, HFm.out, HN.out]
          rfl
        clear hk2
        go_wp2_with fail
        go_ret
        exact ⟨by rw [← HN2.out]; rfl, hB.out⟩

end Go.Proofs.YtjjpklalihaanaaDoor
