/- The program's state registers: their kinds, the table of them, what each kind's methods answer. -/
import Derived.Test.YtaicnnkcdpdhaajDoorWordsC
import Derived.Test.YtaicnnkcdpdhaajDoorCsrP
import Derived.Test.YtaicnnkcdpdhaajDoorDecC
import Derived.Stop.Asserts
import Derived.Handy
namespace Go.Proofs.YtaicnnkcdpdhaajDoor
open Go.RowKit
set_option linter.unusedVariables false

/-- What stands behind a place: the kinds of registers. -/
inductive CK where
  | plain (b : Int) | mst | mie | mip | satp | cfg | addr (e : Nat)

def CK.ty : CK → Nat
  | .plain _ => 61 | .mst => 59 | .mie => 62 | .mip => 63 | .satp => 64 | .cfg => 65 | .addr _ => 67

def CK.val : CK → Value
  | .plain b => .agg #[.int .u64 b] | .mst => .agg #[] | .mie => .agg #[] | .mip => .agg #[] | .satp => .agg #[] | .cfg => .agg #[] | .addr e => .agg #[.int .i64 e]

def cks : List (Int × CK) := [(768, .mst), (770, .plain 46079), (771, .plain 546), (772, .mie), (773, .plain 18446744073709551613), (832, .plain 18446744073709551615), (833, .plain 18446744073709551612), (834, .plain 9223372036854775823),
  (835, .plain 18446744073709551615), (836, .mip), (261, .plain 18446744073709551613), (320, .plain 18446744073709551615), (321, .plain 18446744073709551612), (322, .plain 9223372036854775823), (323, .plain 18446744073709551615), (384, .satp),
  (928, .cfg), (944, .addr 0), (945, .addr 1), (946, .addr 2), (947, .addr 3), (2818, .plain 18446744073709551615)]

def ckCells (r : Int × CK) : List Value := [.int .i64 r.1, .iface r.2.ty r.2.val]

def csrCells : Array Value := (cks.flatMap ckCells).toArray

def csrZero : Array Value := (List.replicate 22 [Value.int .i64 0, .nilIface]).flatten.toArray

theorem csrZero_size : csrZero.size = 44 := by kernel_rfl

theorem csrCells_size : csrCells.size = 44 := by kernel_rfl

theorem csrZero_info : (Tryd.prog.info? 50).bind (·.zero) = some (.agg csrZero) := by kernel_rfl

theorem csrCells_one : csrCells.all (·.oneCell') = true := by kernel_rfl

theorem csrRows_size : (Tryd.prog.info? 50).map (·.size) = some 44 := by kernel_rfl

/-- Literals, and values laid into interfaces, one behind the other: what the frame comes to. -/
def buildsM (P : Program) : List Oper → Act → Option Act
  | [], a => some a
  | o :: l, a =>
    match o.guard, o.op with
    | none, .build t parts =>
      match P.built t (parts.map fun (i, x) => (i, a.eval x)).toList with
      | some cells => buildsM P l (a.put o.dst (.agg cells))
      | none => none
    | none, .makeInterface t x => if P.concrete t = true then buildsM P l (a.put o.dst (.iface t (a.eval x))) else none
    | _, _ => none

theorem wpList_buildsM {P : Program} {ops : Array Oper} {Q : Exit → Act → World → Prop} {w : World} : ∀ (l rest : List Oper) (a a' : Act), buildsM P l a = some a' → wpList P ops Q rest a' w → wpList P ops Q (l ++ rest) a w := by
  intro l
  induction l with
  | nil => intro rest a a' h hr; simp [buildsM] at h; subst h; exact hr
  | cons o l ih =>
    intro rest a a' h hr
    unfold buildsM at h
    split at h
    · rename_i t parts hg ho
      split at h
      · rename_i cells hc
        exact wpList_buildTo hg t parts ho o.dst rfl cells hc (ih _ _ _ h hr)
      · cases h
    · rename_i t x hg ho
      split at h
      · rename_i hc
        exact wpList_valTo hg o.dst rfl (.iface t (a.eval x)) (by simp [execOp, ho, run_makeInterface w t _ hc]) (ih _ _ _ h hr)
      · cases h
    · cases h

theorem wpList_buildsMTo {P : Program} {ops : Array Oper} {Q : Exit → Act → World → Prop} {w : World} {l : List Oper} {a : Act} (n s t : Nat) (v x : Value)
    (h : (buildsM P (l.take n) a).map (fun a' => (a'.tmps.getD s undef, a'.tmps.getD t undef, a'.defers)) = some (v, x, []))
    (hr : ∀ a' : Act, a'.tmps.getD s undef = v → a'.tmps.getD t undef = x → a'.defers = [] → wpList P ops Q (l.drop n) a' w) : wpList P ops Q l a w := by
  rw [← List.take_append_drop n l]
  cases hb : buildsM P (l.take n) a with
  | none => rw [hb] at h; cases h
  | some a' =>
    rw [hb] at h
    simp only [Option.map_some, Option.some.injEq, Prod.mk.injEq] at h
    exact wpList_buildsM _ _ _ _ hb (hr a' h.1 h.2.1 h.2.2)

set_option maxRecDepth 100000 in
set_option maxHeartbeats 4000000 in
theorem csrRows_any (w : World) : Calls Tryd.prog 31 #[] w fun e w' => e = .returned (.agg csrCells) ∧ Below w.heap.size w w' := by
  go_enter Tryd.func31, Tryd.ntmps31
  apply wp_seq_k; intro K0 hK0
  apply wp_region_list
  refine wpList_allocZ rfl 50 rfl (some 0) rfl _ csrZero_info ?_
  apply wpList_nil
  refine hK0 _ _ ?_
  clear hK0 K0
  apply wp_seq_k; intro K0 hK0
  apply wp_region_lit
  refine wpList_buildsMTo 67 0 67 (.pointer (some ⟨w.heap.size, 0, none⟩)) (.agg csrCells) (by kernel_rfl) ?_
  intro a' h0 h99 hd
  have hg : (w.alloc (.cells (Value.agg csrZero).cells 50)).heap[w.heap.size]? = some (.cells csrZero 50 (0, 0)) := heap_alloc_new _ _
  refine wpList_store_rowTo rfl 50 (.tmp 0) (.tmp 67) rfl rfl w.heap.size csrCells h0 h99 50 csrZero hg (by rw [csrRows_size, csrCells_size]) (by rw [csrZero_size, csrCells_size]) csrCells_one ?_
  apply wpList_nil
  refine hK0 _ _ ?_
  clear hK0 K0
  apply wp_ret
  refine bodyPost_ret (results_cell_row Tryd.results31 _ _ _ _ _ _ _ h0 (setRow_heap _ _ _ _ _ _ hg) Tryd.underlying50 rfl (by rw [csrRows_size, csrCells_size])) hd ⟨rfl, ?_⟩
  exact below_setRow ((Below.refl _ _).alloc (Nat.le_refl _) _) (Nat.le_refl _) _

theorem csrRows_T (w : World) : Calls Tryd.prog 31 #[] w fun e w' => ∃ T, e = .returned T ∧ Hid (T = .agg csrCells) ∧ Below w.heap.size w w' :=
  (csrRows_any w).mono fun e w' h => ⟨.agg csrCells, h.1, (rfl : Value.agg csrCells = .agg csrCells), h.2⟩

theorem cks_len : cks.length = 22 := by rfl

def ckAt (k : Nat) : Int × CK := cks.getD k (0, .mst)

theorem ckAt_get (k : Nat) (h : k < 22) : cks[k]'(by rw [cks_len]; exact h) = ckAt k := by
  simp [ckAt, List.getD, List.getElem?_eq_getElem (show k < cks.length by rw [cks_len]; exact h)]

theorem csrCells_part (k : Nat) (h : k < 22) : csrCells.extract (k * 2) (k * 2 + 2) = (ckCells (ckAt k)).toArray := by
  have := flat_drop ckCells 2 cks (by intro x _; rfl) k (by rw [cks_len]; exact h)
  rw [ckAt_get k h] at this
  rw [← this]
  simp [csrCells]

theorem run_indexC (w : World) (kk : IntKind) (k : Nat) (hk : k < 22) : (Instr.index 50 (.agg csrCells) (.int kk (k : Int))).run Tryd.prog w = .ok (.agg #[.int .i64 (ckAt k).1, .iface (ckAt k).2.ty (ckAt k).2.val]) w := by
  have hs : (sizeOf 49).run Tryd.prog w = .ok 2 w := by
    obtain ⟨i0, hi, hz1⟩ : ∃ i, Tryd.prog.info? 49 = some i ∧ i.size = 2 := by
      have h : (Tryd.prog.info? 49).map (·.size) = some 2 := by kernel_rfl
      cases hq : Tryd.prog.info? 49 with
      | none => rw [hq] at h; cases h
      | some i => rw [hq] at h; exact ⟨i, rfl, by simpa using h⟩
    simp [sizeOf, typeInfo, hi, hz1]
  have ha : (isAgg 49).run Tryd.prog w = .ok true w := by
    simp [isAgg, run_underlying Tryd.underlying49]
  have hb : (0 : Int) ≤ (k : Int) ∧ (k : Int) < ((22 : Nat) : Int) := by omega
  unfold Instr.index
  simp only [asIntOf, Sem.run_bind, Sem.run_pure, Result.andThen_ok, run_underlying Tryd.underlying50]
  rw [if_pos hb]
  simp only [Sem.run_bind, hs, Result.andThen_ok, part, ha, Int.toNat_natCast, if_true, Sem.run_pure]
  rw [csrCells_part k hk]
  rfl

theorem wpList_indexC {ops : Array Oper} {rest : List Oper} {o : Oper} {a : Act} {w : World} {Q : Exit → Act → World → Prop} {T : Value} (hT : Hid (T = .agg csrCells)) (kk : IntKind) (k : Nat) (hk : k < 22) (r : Int × CK) (hr : Hid (r = ckAt k)) (hg : o.guard = none) (x i : Operand) (ho : o.op = .index 50 x i)
    (hx : a.eval x = T) (hi : a.eval i = .int kk (k : Int))
    (h : wpList Tryd.prog ops Q rest (a.put o.dst (.agg #[.int .i64 r.1, .iface r.2.ty r.2.val])) w) : wpList Tryd.prog ops Q (o :: rest) a w := by
  refine wpList_plain hg fun K hK => ?_
  have hrun : (execOp a.eval o).run Tryd.prog w = .ok (.value (.agg #[.int .i64 r.1, .iface r.2.ty r.2.val])) w := by
    simp [execOp, ho, hx, hi, hT.out, hr.out, run_indexC w kk k hk]
  unfold Oper.wp
  rw [hrun, Oper.upon_value]
  exact hK _ _ h

end Go.Proofs.YtaicnnkcdpdhaajDoor
