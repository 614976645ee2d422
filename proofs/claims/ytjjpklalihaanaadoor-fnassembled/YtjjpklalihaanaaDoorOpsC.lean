/- The program's map of names. -/
import Derived.Test.YtjjpklalihaanaaDoorEncB
import Derived.Test.YtjjpklalihaanaaDoorEncF
namespace Go.Proofs.YtjjpklalihaanaaDoor
open Go.RowKit
set_option linter.unusedVariables false

def opsE (i : Nat) : MapEntry := { key := .string (rowAt i).name, val := .int .i64 ((i : Int) + 1), born := i }

def opsEs (k : Nat) : Array MapEntry := ((List.range k).map opsE).toArray

theorem same_name (s : ByteArray) (k : Nat) : Instr.sameNow .string (.string s) (opsE k).key = some ((rowAt k).name.toList == s.toList) := by
  show some (s == (rowAt k).name) = _
  congr 1
  have h1 := MapKept.bytes_beq s (rowAt k).name
  by_cases h : s = (rowAt k).name
  · rw [h1.2 h, ← h]; simp
  · have h2 : (s == (rowAt k).name) = false := by
      cases hb : (s == (rowAt k).name) with
      | false => rfl
      | true => exact absurd (h1.1 hb) h
    rw [h2]
    symm
    rw [beq_eq_false_iff_ne]
    intro he
    rw [Go.ByteArray.toList_eq, Go.ByteArray.toList_eq] at he
    exact h (ByteArray.ext (Array.toList_inj.1 he.symm))

theorem findNow_ops (s : ByteArray) : ∀ n k m, ∃ r, Instr.findNow .string (.string s) ((List.range' k n).map opsE) m = some r ∧ ((findName s n k = 0 ∧ r = none) ∨ (findName s n k ≠ 0 ∧ ∃ i, r = some (i, .int .i64 (findName s n k)))) := by
  intro n
  induction n with
  | zero => intro k m; exact ⟨none, rfl, Or.inl ⟨rfl, rfl⟩⟩
  | succ n ih =>
    intro k m
    rw [List.range'_succ, List.map_cons]
    unfold Instr.findNow
    rw [same_name]
    unfold findName
    cases h : ((rowAt k).name.toList == s.toList) with
    | true => exact ⟨_, rfl, Or.inr ⟨by simp; omega, m, rfl⟩⟩
    | false => exact ih (k + 1) (m + 1)

theorem opsEs_push (k : Nat) : opsEs (k + 1) = (opsEs k).push { key := .string (rowAt k).name, val := .int .i64 ((k : Int) + 1), born := k } := by
  simp [opsEs, List.range_succ, opsE]

/-- No two names are alike. -/
theorem names_new : ∀ k, k < 98 → findName (rowAt k).name k 0 = 0 := by
  have h : (List.range 98).all (fun k => findName (rowAt k).name k 0 == 0) = true := by kernel_rfl
  intro k hk
  have := List.all_eq_true.1 h k (by simpa using hk)
  exact eq_of_beq this

theorem run_checkKeyS (e : Bool) (s : ByteArray) (w : World) : (Instr.checkKey e 10000 9 (.string s)).run Tryd.prog w = .ok () w := by kernel_rfl

theorem run_opsUpdate (w : World) (bm k : Nat) (hk : k < 98) (nm : ByteArray) (hnm : nm = (rowAt k).name) (hb : w.heap[bm]? = some (.map (opsEs k) k)) :
    (Instr.mapUpdate 46 (.map (some bm)) (.string nm) (.int .i64 ((k : Int) + 1))).run Tryd.prog w = .ok () (ChangeMaps.setBlock w bm (.map (opsEs (k + 1)) (k + 1))) := by
  have hf : (Instr.findKey 9 (.string nm) (opsEs k).toList).run Tryd.prog w = .ok none w := by
    obtain ⟨r, h1, h2⟩ := findNow_ops nm k 0 0
    rw [hnm, names_new k hk] at h2
    rw [h2.resolve_right (fun h => h.1 rfl) |>.2] at h1
    refine MapKept.run_findKey Tryd.underlying9 ?_
    rw [show (opsEs k).toList = (List.range' 0 k).map opsE from by rw [opsEs, List.range_eq_range']]
    exact h1
  rw [opsEs_push k, ← hnm]
  simp [Instr.mapUpdate, run_underlying Tryd.underlying46, MapKept.run_getObj_map hb, run_checkKeyS, hf, MapKept.run_setObj_map _ hb, Result.andThen, ChangeMaps.setBlock]

theorem i64_zero : (Tryd.prog.info? 2).bind (·.zero) = some (.int .i64 0) := by kernel_rfl

theorem run_opsLookup (w : World) (bm clock : Nat) (s : ByteArray) (hb : w.heap[bm]? = some (.map (opsEs 98) clock)) :
    (Instr.lookup 46 (.map (some bm)) (.string s) true).run Tryd.prog w = .ok (.tuple #[.int .i64 (findName s 98 0), .bool (findName s 98 0 != 0)]) w := by
  obtain ⟨r, h1, h2⟩ := findNow_ops s 98 0 0
  have hf : (Instr.findKey 9 (.string s) (opsEs 98).toList).run Tryd.prog w = .ok r w := by
    refine MapKept.run_findKey Tryd.underlying9 ?_
    rw [show (opsEs 98).toList = (List.range' 0 98).map opsE from by rw [opsEs, List.range_eq_range']]
    exact h1
  rcases h2 with ⟨h3, rfl⟩ | ⟨h3, i, rfl⟩
  · rw [h3]
    simp [Instr.lookup, run_underlying Tryd.underlying46, MapKept.run_getObj_map hb, run_checkKeyS, hf, run_zero i64_zero]
  · have hne : (findName s 98 0 != 0) = true := by simpa using h3
    rw [hne]
    simp [Instr.lookup, run_underlying Tryd.underlying46, MapKept.run_getObj_map hb, run_checkKeyS, hf]

/-- A map of all names lies in block bm. -/
def OpsAt (w : World) (bm : Nat) : Prop := ∃ clock, w.heap[bm]? = some (.map (opsEs 98) clock)

theorem OpsAt.keep {w w' : World} {bm : Nat} (h : OpsAt w bm) (hb : Below w.heap.size w w') : OpsAt w' bm := by
  obtain ⟨c, h⟩ := h; exact ⟨c, row_keep h hb⟩

theorem wpList_updS {ops : Array Oper} {rest : List Oper} {o : Oper} {A : Act} {w W0 w' : World} {Q : Exit → Act → World → Prop} {bm : Nat} {key val : Value} (H : Hid ((Instr.mapUpdate 46 (.map (some bm)) key val).run Tryd.prog W0 = .ok () w'))
    (hg : o.guard = none) (m k v : Operand) (ho : o.op = .mapUpdate 46 m k v) (hm : A.eval m = .map (some bm)) (hk : A.eval k = key) (hv : A.eval v = val) (hw : w = W0) (h : wpList Tryd.prog ops Q rest (A.put o.dst undef) w') : wpList Tryd.prog ops Q (o :: rest) A w := by
  subst hw
  refine wpList_plain hg fun K hK => ?_
  unfold Oper.wp
  simp [execOp, ho, hm, hk, hv, H.out, Result.andThen]
  exact hK _ _ h

theorem wpList_lookS {ops : Array Oper} {rest : List Oper} {o : Oper} {A : Act} {w : World} {Q : Exit → Act → World → Prop} {bm : Nat} {key V : Value} (H : Hid ((Instr.lookup 46 (.map (some bm)) key true).run Tryd.prog w = .ok V w)) (hg : o.guard = none) (x y : Operand) (ho : o.op = .lookup 46 x y true)
    (hx : A.eval x = .map (some bm)) (hy : A.eval y = key) (h : wpList Tryd.prog ops Q rest (A.put o.dst V) w) : wpList Tryd.prog ops Q (o :: rest) A w := by
  refine wpList_plain hg fun K hK => ?_
  have hrun : (execOp A.eval o).run Tryd.prog w = .ok (.value V) w := by
    simp [execOp, ho, hx, hy, H.out]
  unfold Oper.wp
  rw [hrun, Oper.upon_value]
  exact hK _ _ h

set_option maxRecDepth 20000 in
set_option maxHeartbeats 1600000 in
theorem opsByName_any (w : World) : Calls Tryd.prog 19 #[] w fun e w' => ∃ bm, e = .returned (.map (some bm)) ∧ Hid (OpsAt w' bm) ∧ Hid (w.heap.size ≤ bm) ∧ Below w.heap.size w w' := by
  have MK : ∀ w : World, (Instr.makeMap 46 none).run Tryd.prog w = .ok (.map (some w.heap.size)) (w.alloc (.map #[] 0)) := fun w => rfl
  go_enter Tryd.func19, Tryd.ntmps19
  go_wp2_with fail
  refine (opRows_T _).mono ?_
  rintro e w1 ⟨T, rfl, HT, hb⟩
  clear MK
  have M0 : Hid (w1.heap[w.heap.size]? = some (.map (opsEs 0) 0)) := by
    have h0 : (w.alloc (.map #[] 0)).heap[w.heap.size]? = some (.map #[] 0) := heap_alloc_new _ _
    exact row_keep h0 hb
  have hb0 : Below w.heap.size w w1 := below_trans ((Below.refl _ _).alloc (Nat.le_refl _) _) hb
  clear hb
  go_wp2_with fail
  go_loopw [6] (fun i wr => ∃ k : Nat, k ≤ 98 ∧ i = .int .i64 k ∧ Hid (wr.heap[w.heap.size]? = some (.map (opsEs k) k)) ∧ Below w.heap.size w wr)
    (fun i _ => 98 - (intOf i).toNat)
  case atStart => exact ⟨0, by omega, rfl, M0, hb0⟩
  case round =>
    obtain ⟨k, hk, rfl, M, hb2⟩ := hrel
    clear hb0 M0
    by_cases hlt : k < 98
    · obtain ⟨r, hr0⟩ : ∃ r, r = rowAt k := ⟨_, rfl⟩
      have hr : Hid (r = rowAt k) := hr0
      have HNM : Hid (r.name = (rowAt k).name) := by rw [hr0]; exact (rfl : _ = _)
      clear hr0
      obtain ⟨nm, f, o, m3, m⟩ := r
      obtain ⟨z, hz⟩ : ∃ z, z = Row.f3z ⟨nm, f, o, m3, m⟩ := ⟨_, rfl⟩
      have HIX : Hid (∀ w : World, (Instr.index 55 T (.int .i64 (k : Int))).run Tryd.prog w = .ok (.agg #[.string nm, .string f.str, .int .u64 o, .int .u64 z, .int .u64 m]) w) := by
        intro w
        rw [run_index_T HT .i64 k hlt _ hr w, hz]
      obtain ⟨fs, hfs⟩ : ∃ fs, fs = f.str := ⟨_, rfl⟩
      rw [← hfs] at HIX
      clear hr hz hfs
      have HNM2 : Hid (nm = (rowAt k).name) := HNM.out
      obtain ⟨w2, hw2⟩ : ∃ w2, w2 = wr.alloc (.cells #[.string nm, .string fs, .int .u64 o, .int .u64 z, .int .u64 m] 54) := ⟨_, rfl⟩
      have hbw : Below wr.heap.size wr w2 := by rw [hw2]; exact (Below.refl _ _).alloc (Nat.le_refl _) _
      have M2 := row_keep M.out hbw
      have hb3 := below_trans hb2 hbw
      have UP : Hid _ := run_opsUpdate w2 w.heap.size k hlt nm HNM2.out M2
      have MF : Hid ((ChangeMaps.setBlock w2 w.heap.size (.map (opsEs (k + 1)) (k + 1))).heap[w.heap.size]? = some (.map (opsEs (k + 1)) (k + 1))) := ChangeMaps.heap_setBlock_same M2 _
      have BF : Below w.heap.size w (ChangeMaps.setBlock w2 w.heap.size (.map (opsEs (k + 1)) (k + 1))) :=
        ⟨hb3.os, hb3.tape, hb3.output, by simpa [ChangeMaps.setBlock] using hb3.size, fun n hn => (ChangeMaps.heap_setBlock_other M2 _ (by omega)).trans (hb3.block n hn)⟩
      obtain ⟨w3, hw3⟩ : ∃ w3, w3 = ChangeMaps.setBlock w2 w.heap.size (.map (opsEs (k + 1)) (k + 1)) := ⟨_, rfl⟩
      rw [← hw3] at UP MF BF
      rw [hw2] at UP
      clear hw3 M2 hbw hb3 M hb2 hw2
      go_wp2_with (first | refine wpList_indexH HIX rfl _ _ rfl rfl rfl ?_ | refine wpList_updS UP rfl (.tmp 10) (.tmp 12) (.tmp 14) rfl rfl rfl rfl rfl ?_)
      go_roundw
      case rel => exact ⟨k + 1, by omega, by go_num, MF, BF⟩
      case measure => simp [intOf]; omega
    · have hk2 : k = 98 := by omega
      subst hk2
      have HO : Hid (OpsAt wr w.heap.size) := ⟨98, M.out⟩
      have HL : Hid (w.heap.size ≤ w.heap.size) := Nat.le_refl _
      clear M
      go_wp2_with fail
      go_ret
      exact ⟨w.heap.size, rfl, HO, HL, hb2⟩

end Go.Proofs.YtjjpklalihaanaaDoor
