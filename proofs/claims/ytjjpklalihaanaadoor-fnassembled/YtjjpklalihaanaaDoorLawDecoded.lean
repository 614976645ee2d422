/- The walk of laws.FnDecoded: it returns true at every code, and writes nothing that was there. -/
import Derived.Test.YtjjpklalihaanaaDoorDrawJ
import Derived.Test.YtjjpklalihaanaaDoorLawC
import Derived.Test.YtjjpklalihaanaaDoorLawExactEncode
import Derived.Test.YtjjpklalihaanaaDoorDecD
import Derived.Test.YtjjpklalihaanaaDoorDecE
import Derived.Deep.RegionHeld3
namespace Go.Proofs.YtjjpklalihaanaaDoor.fnDecoded
open Go.RowKit
set_option linter.unusedVariables false

set_option maxHeartbeats 400000 in
theorem run_sameInst (a b c d e : Int) (w : World) :
    (Op.equalIn 10000 30 (.agg #[.int .i64 a, .int .i64 b, .int .i64 c, .int .i64 d, .int .i64 e]) (.agg #[.int .i64 a, .int .i64 b, .int .i64 c, .int .i64 d, .int .i64 e])).run Tryd.prog w = .ok true w := by
  rw [run_equalIn_struct w 9999 _ _ _ (by rw [Program.fieldsOf, Tryd.underlying30]) inst_stood]
  simp only [Program.fieldsOf, Tryd.underlying30]
  have P : ∀ (k : Nat) (x1 x2 x3 x4 x5 v : Value), (#[x1, x2, x3, x4, x5] : Array Value)[k]? = some v → ∀ w, (part 2 #[x1, x2, x3, x4, x5] k).run Tryd.prog w = .ok v w := by
    intro k x1 x2 x3 x4 x5 v h w
    simp [part, isAgg, run_underlying Tryd.underlying2, h]
  have Q : ∀ (x y : Int) (w : World), (Op.equalIn 9999 2 (.int .i64 x) (.int .i64 y)).run Tryd.prog w = .ok (x == y) w := fun x y w => run_equalIn_int w 9998 2 .i64 .i64 x y Tryd.underlying2
  simp [Op.eqFields, Sem.run_bind, P 0 _ _ _ _ _ _ rfl, P 1 _ _ _ _ _ _ rfl, P 2 _ _ _ _ _ _ rfl, P 3 _ _ _ _ _ _ rfl, P 4 _ _ _ _ _ _ rfl, Q]

/-- A word that is decoded is encoded again. -/
theorem enc_of_dec {x : Int} {j : Ins} (h0 : 0 ≤ x) (h : dec x = some j) : encS j = (x, true) := by
  obtain ⟨ho, hr, _, hw⟩ := dec_words h0 h
  unfold encS
  rw [ho, hr, hw, h]
  simp

theorem enc_true {i : Ins} (h : (encS i).2 = true) : opB i.op = true ∧ dec (encS i).1 = some i := by
  unfold encS at h ⊢
  split at h
  · rename_i hc
    rw [if_pos hc]
    simp only [Bool.and_eq_true, decide_eq_true_eq] at hc
    exact ⟨hc.1.1, hc.2⟩
  · cases h

theorem enc_false {i : Ins} (h : (encS i).2 = false) : (encS i).1 = 0 := by
  unfold encS at h ⊢
  split at h
  · cases h
  · rename_i hc; rw [if_neg hc]

theorem name_back : ∀ k, k < 98 → findName (rowAt k).name 98 0 = (k : Int) + 1 := by
  have h : (List.range 98).all (fun k => findName (rowAt k).name 98 0 == (k : Int) + 1) = true := by kernel_rfl
  intro k hk
  have := List.all_eq_true.1 h k (by simpa using hk)
  exact eq_of_beq this

theorem form_one (f : Fm) : f.str.size = 1 := by cases f <;> rfl

theorem op_name {op : Int} (h : opB op = true) : findName (nameOf op) 98 0 = op ∧ (formOf op).size = 1 := by
  have h2 : 1 ≤ op ∧ op ≤ 98 := of_decide_eq_true h
  obtain ⟨k, rfl⟩ : ∃ k : Nat, op = (k : Int) + 1 := ⟨(op - 1).toNat, by omega⟩
  constructor
  · have := name_back k (by omega)
    unfold nameOf
    rw [h, if_pos rfl, show ((k : Int) + 1 - 1).toNat = k from by omega]
    exact this
  · unfold formOf
    rw [h, if_pos rfl]; exact form_one _

/-- The cells of an Inst that lies in a block. -/
theorem cells5 {w : World} {b : Nat} {o0 o1 o2 o3 o4 : Int} (h : w.heap[b]? = some (.cells #[.int .i64 o0, .int .i64 o1, .int .i64 o2, .int .i64 o3, .int .i64 o4] 30 (0, 0))) :
    w.cell? ⟨b, 0, none⟩ = some (.int .i64 o0) ∧ w.cell? ⟨b, 1, none⟩ = some (.int .i64 o1) ∧ w.cell? ⟨b, 2, none⟩ = some (.int .i64 o2) ∧ w.cell? ⟨b, 3, none⟩ = some (.int .i64 o3) ∧ w.cell? ⟨b, 4, none⟩ = some (.int .i64 o4) :=
  ⟨cell_of_row _ _ _ _ _ _ h, cell_of_row _ _ _ _ _ _ h, cell_of_row _ _ _ _ _ _ h, cell_of_row _ _ _ _ _ _ h, cell_of_row _ _ _ _ _ _ h⟩

theorem keep_row {w w' : World} {b : Nat} {o : Obj} (h : w.heap[b]? = some o) (hb : Below w.heap.size w w') : w'.heap[b]? = some o := by
  by_cases hl : b < w.heap.size
  · rw [hb.block b hl]; exact h
  · rw [Array.getElem?_eq_none (by omega)] at h; cases h

/-- A call that touches nothing that was there keeps the cells of two Insts. -/
theorem keep10 {f : FuncId} {args : Array Value} {v : Value} {W : World} (b1 b2 : Nat) (o0 o1 o2 o3 o4 : Int) (hC : Calls Tryd.prog f args W fun e w' => e = .returned v ∧ Below W.heap.size W w')
    (hS : (W.cell? ⟨b1, 0, none⟩ = some (.int .i64 o0) ∧ W.cell? ⟨b1, 1, none⟩ = some (.int .i64 o1) ∧ W.cell? ⟨b1, 2, none⟩ = some (.int .i64 o2) ∧ W.cell? ⟨b1, 3, none⟩ = some (.int .i64 o3) ∧ W.cell? ⟨b1, 4, none⟩ = some (.int .i64 o4)) ∧ (W.cell? ⟨b2, 0, none⟩ = some (.int .i64 o0) ∧ W.cell? ⟨b2, 1, none⟩ = some (.int .i64 o1) ∧ W.cell? ⟨b2, 2, none⟩ = some (.int .i64 o2) ∧ W.cell? ⟨b2, 3, none⟩ = some (.int .i64 o3) ∧ W.cell? ⟨b2, 4, none⟩ = some (.int .i64 o4))) :
    Calls Tryd.prog f args W fun e w' => e = .returned v ∧ Below W.heap.size W w' ∧ (w'.cell? ⟨b1, 0, none⟩ = some (.int .i64 o0) ∧ w'.cell? ⟨b1, 1, none⟩ = some (.int .i64 o1) ∧ w'.cell? ⟨b1, 2, none⟩ = some (.int .i64 o2) ∧ w'.cell? ⟨b1, 3, none⟩ = some (.int .i64 o3) ∧ w'.cell? ⟨b1, 4, none⟩ = some (.int .i64 o4)) ∧ (w'.cell? ⟨b2, 0, none⟩ = some (.int .i64 o0) ∧ w'.cell? ⟨b2, 1, none⟩ = some (.int .i64 o1) ∧ w'.cell? ⟨b2, 2, none⟩ = some (.int .i64 o2) ∧ w'.cell? ⟨b2, 3, none⟩ = some (.int .i64 o3) ∧ w'.cell? ⟨b2, 4, none⟩ = some (.int .i64 o4)) := by
  refine hC.mono fun e w' h => ⟨h.1, h.2, ?_⟩
  have K : ∀ (b k : Nat) (x : Value), W.cell? ⟨b, k, none⟩ = some x → w'.cell? ⟨b, k, none⟩ = some x := fun b k x hx => (h.2.cell (World.block_lt_of_cell? _ _ hx)).trans hx
  obtain ⟨⟨a0, a1, a2, a3, a4⟩, c0, c1, c2, c3, c4⟩ := hS
  exact ⟨⟨K _ _ _ a0, K _ _ _ a1, K _ _ _ a2, K _ _ _ a3, K _ _ _ a4⟩, K _ _ _ c0, K _ _ _ c1, K _ _ _ c2, K _ _ _ c3, K _ _ _ c4⟩

theorem row_lt {w : World} {b : Nat} {o : Obj} (h : w.heap[b]? = some o) : b < w.heap.size := by
  by_cases hl : b < w.heap.size
  · exact hl
  · rw [Array.getElem?_eq_none (by omega)] at h; cases h

theorem encI_c (i : Ins) (h : i.wf) (W : World) : Calls Tryd.prog 22 #[.agg #[.int .i64 i.op, .int .i64 i.rd, .int .i64 i.a, .int .i64 i.b, .int .i64 i.imm]] W fun e w' => e = .returned (.tuple #[.int .u64 (encS i).1, .bool (encS i).2]) ∧ Below W.heap.size W w' := by
  have h1 := implEncode_any fnExactEncode.bareDoes i h.1 W
  unfold encVI at h1
  rw [fnExactEncode.enc_eq] at h1
  exact h1

theorem encS_c (i : Ins) (h : i.wf) (W : World) : Calls Tryd.prog 24 #[.agg #[.int .i64 i.op, .int .i64 i.rd, .int .i64 i.a, .int .i64 i.b, .int .i64 i.imm]] W fun e w' => e = .returned (.tuple #[.int .u64 (encS i).1, .bool (encS i).2]) ∧ Below W.heap.size W w' :=
  specEncode_any i h.1 h.2.2.2.2 W

theorem encS_U (i : Ins) : U (encS i).1 := by
  unfold encS
  split
  · exact word_U i
  · constructor <;> decide

theorem decI_c {u : Int} {i : Ins} (hU : U u) (hd : dec u = some i) (W : World) : Calls Tryd.prog 9 #[.int .u64 u] W fun e w' => e = .returned (.tuple #[.agg #[.int .i64 i.op, .int .i64 i.rd, .int .i64 i.a, .int .i64 i.b, .int .i64 i.imm], .bool true]) ∧ Below W.heap.size W w' := by
  have h := implDecode_any u hU.1 hU.2 W
  have e : decV u = .tuple #[.agg #[.int .i64 i.op, .int .i64 i.rd, .int .i64 i.a, .int .i64 i.b, .int .i64 i.imm], .bool true] := by
    unfold decV; rw [hd]; rfl
  rw [e] at h
  exact h

end Go.Proofs.YtjjpklalihaanaaDoor.fnDecoded
