/- Own lemmas. -/
import Derived.Test.YtilhcfhcdplicaaGreatDoorK01
import Derived.Test.YtilhcfhcdplicaaGreatDoorK03
import Derived.Test.YtilhcfhcdplicaaGreatDoorK04
import Derived.Test.YtilhcfhcdplicaaGreatDoorK05
import Derived.Test.YtilhcfhcdplicaaGreatDoorK06
import Derived.Test.YtilhcfhcdplicaaGreatDoorK07
import Derived.Test.YtilhcfhcdplicaaGreatDoorK10
import Derived.Test.YtilhcfhcdplicaaGreatDoorK11
import Derived.Stop.Asserts
import Derived.Handy
import Derived.Deep.RegionHeld3
namespace Go.Proofs.YtilhcfhcdplicaaGreatDoor
open Go.RowKit
set_option linter.unusedVariables false

def regsB (n : Nat) (x : List Int) : Bool := decide (n = 32) && (x.getD 0 0 == 0)

theorem l9Regs_any (a : Option Addr) (n c : Nat) (x : List Int) (w : World) (hx : x.length = n) (hs : Sl .u64 w a x) :
    Calls Tryz.prog 54 #[.slice a n c] w fun e w' => e = .returned (.bool (regsB n x)) ∧ w' = w := by
  by_cases h : n = 32
  · subst h
    obtain ⟨b, off, rfl, hb, hc⟩ := hs 0 (by omega)
    have F : Hid (regsB 32 x = (x.getD 0 0 == 0)) := by show _ = _; unfold regsB; simp
    have hc2 : w.cell? ⟨b, off, none⟩ = some (.int .u64 (x.getD 0 0)) := hc
    generalize regsB 32 x = V at *
    generalize x.getD 0 0 = y at *
    clear hs hx hc
    go_enter Tryz.func54, Tryz.ntmps54
    go_wp2_with fail
    go_ret
    exact ⟨by rw [F.out]; rfl, rfl⟩
  · have F : Hid (regsB n x = false) := by show _ = _; unfold regsB; rw [decide_eq_false h]; rfl
    have d : ((n : Int) == 32) = false := by simp; omega
    generalize regsB n x = V at *
    clear hs hx h
    go_enter Tryz.func54, Tryz.ntmps54
    go_wp2_with fail
    go_ret
    exact ⟨by rw [F.out]; rfl, rfl⟩

def bellsB (M : MV) : Bool := bits .and .u64 (M.cs.getD 9 0) 2184 == linesV M.d

def machB (M : MV) : Bool := (bits .and .u64 M.pc 3 == 0) && regsB M.x.length M.x && legalB M.cs.length M.cs M.pr && ramOkB M.ram.length && okD M.d.xs.length M.d.ys.length M.d.ir && (M.hl || (M.hd == 0)) && bellsB M

theorem legal_22 {n : Nat} {l : List Int} {p : Int} (h : legalB n l p = true) : n = 22 := by
  unfold legalB csrsOk at h
  simp only [Bool.and_eq_true, decide_eq_true_eq] at h
  exact h.1.1

set_option maxRecDepth 100000 in
set_option maxHeartbeats 6400000 in
theorem specMachineOk_any (M : MV) (A : MA) (w : World) (hl : MLen M) (hs : MSl w M A) :
    Calls Tryz.prog 18 #[.agg (mvc M A)] w fun e w' => e = .returned (.bool (machB M)) ∧ Below w.heap.size w w' := by
  have hR := fun W hb => l9Regs_any A.ax M.x.length A.cx _ W rfl (hs.x.below hb)
  have hL := fun W hb => specLegal_any A.ac M.cs.length A.cc _ M.pr W rfl (hs.cs.below hb)
  have hM := fun W (_ : Below w.heap.size w W) => specRamOk_any A.ar M.ram.length A.cr W hl.ram
  have hD := fun W (_ : Below w.heap.size w W) => specDevOk_any M.d.t M.d.cm M.d.so A.ai M.d.xs.length A.ci A.ao M.d.ys.length A.co M.d.ir W hl.xs hl.ys
  have hN := fun W (_ : Below w.heap.size w W) => l8Lines_any M.d.t M.d.cm M.d.so A.ai M.d.xs.length A.ci A.ao M.d.ys.length A.co M.d.ir W hl.xs
  unfold machB bellsB
  generalize h1 : (bits .and .u64 M.pc 3 == 0) = b1
  generalize regsB M.x.length M.x = b2 at *
  generalize h3 : legalB M.cs.length M.cs M.pr = b3 at *
  generalize ramOkB M.ram.length = b4 at *
  generalize okD M.d.xs.length M.d.ys.length M.d.ir = b5 at *
  generalize h6 : (M.hd == 0) = b6
  generalize h7 : (bits .and .u64 (M.cs.getD 9 0) 2184 == linesV M.d) = b7
  cases b3 with
  | false =>
    refine wk_go (S := Bs w [(mvc M A, 29)]) [(mvc M A, 29)] Tryz.func18 rfl (by kernel_rfl) (by kernel_rfl) ?_
    cases b1
    case' true => cases b2
    all_goals exact wk_end (t := 2) (v := .bool false) Bs.eng { eq := [(6, eqB h1)], cv := [(10, cvE hR), (17, cvE hL)] } 300 (Bs.start _ _) (by kernel_rfl) (by kernel_rfl) rfl (fun w' h => ⟨by simp, h.2⟩)
  | true =>
    have h22 := legal_22 h3
    obtain ⟨cb, co, hac, hcb, hcc⟩ := hs.cs 9 (by omega)
    obtain ⟨pc, x, pr, cs, ram, d, hd, hh, wt⟩ := M
    dsimp only at *
    refine wk_go (S := Bs w [(mvc ⟨pc, x, pr, cs, ram, d, hd, hh, wt⟩ A, 29)]) [(mvc ⟨pc, x, pr, cs, ram, d, hd, hh, wt⟩ A, 29)] Tryz.func18 rfl (by kernel_rfl) (by kernel_rfl) ?_
    have c9 : ∀ W, Bs w [(mvc ⟨pc, x, pr, cs, ram, d, hd, hh, wt⟩ A, 29)] W → W.cell? ⟨cb, co + 9, none⟩ = some (.int .u64 (cs.getD 9 0)) := fun W h => (h.2.cell (by exact hcb)).trans hcc
    cases b1
    case' true =>
      cases b2
      case' true =>
        cases b4
        case' true =>
          cases b5
          case' true => cases hh <;> cases b6 <;> cases b7
    all_goals exact wk_end (t := 2) (v := .bool _) Bs.eng { eq := [(6, eqB h1), (35, eqB h6), (47, eqB h7)], ov := [(41, ovX cs.length A.cc .i64 9 hac (by omega) Tryz.underlying25 (by kernel_rfl)), (42, ovL _ _ Tryz.underlying24 rfl c9)], cv := [(10, cvE hR), (17, cvE hL), (22, cvE hM), (27, cvW hD), (46, cvW hN)] } 300 (Bs.start _ _) (by kernel_rfl) (by kernel_rfl) rfl (fun w' h => ⟨rfl, h.2⟩)

inductive CK where
  | plain (b : Int) | mst | mie | mip | satp | cfg | addr (e : Nat)

def CK.ty : CK → Nat
  | .plain _ => 192 | .mst => 190 | .mie => 193 | .mip => 194 | .satp => 195 | .cfg => 196 | .addr _ => 198

def CK.val : CK → Value
  | .plain b => .agg #[.int .u64 b] | .mst => .agg #[] | .mie => .agg #[] | .mip => .agg #[] | .satp => .agg #[] | .cfg => .agg #[] | .addr e => .agg #[.int .i64 e]

def cks : List (Int × CK) := [(768, .mst), (770, .plain 46079), (771, .plain 546), (772, .mie), (773, .plain 18446744073709551613), (832, .plain 18446744073709551615), (833, .plain 18446744073709551612), (834, .plain 9223372036854775823),
  (835, .plain 18446744073709551615), (836, .mip), (261, .plain 18446744073709551613), (320, .plain 18446744073709551615), (321, .plain 18446744073709551612), (322, .plain 9223372036854775823), (323, .plain 18446744073709551615), (384, .satp),
  (928, .cfg), (944, .addr 0), (945, .addr 1), (946, .addr 2), (947, .addr 3), (2818, .plain 18446744073709551615)]

def ckCells (r : Int × CK) : List Value := [.int .i64 r.1, .iface r.2.ty r.2.val]

def csrCells : Array Value := (cks.flatMap ckCells).toArray

def csrZero : Array Value := (List.replicate 22 [Value.int .i64 0, .nilIface]).flatten.toArray

theorem csrZero_size : csrZero.size = 44 := by kernel_rfl

theorem csrCells_size : csrCells.size = 44 := by kernel_rfl

theorem csrZero_info : (Tryz.prog.info? 135).bind (·.zero) = some (.agg csrZero) := by kernel_rfl

theorem csrCells_one : csrCells.all (·.oneCell') = true := by kernel_rfl

theorem csrRows_size : (Tryz.prog.info? 135).map (·.size) = some 44 := by kernel_rfl

def buildsM (P : Program) : List Oper → Act → Option Act
  | [], a => some a
  | o :: l, a =>
    match o.guard, o.op with
    | none, .build t parts =>
      match P.built t (parts.map fun (i, x) => (i, a.eval x)).toList with
      | some cells => buildsM P l (a.put o.dst (.agg cells))
      | none => none
    | none, .makeInterface t x => if P.concrete t = true then buildsM P l (a.put o.dst (.iface t (a.eval x))) else none
    | _, _ => none

theorem wpList_buildsM {P : Program} {ops : Array Oper} {Q : Exit → Act → World → Prop} {w : World} : ∀ (l rest : List Oper) (a a' : Act), buildsM P l a = some a' → wpList P ops Q rest a' w → wpList P ops Q (l ++ rest) a w := by
  intro l
  induction l with
  | nil => intro rest a a' h hr; simp [buildsM] at h; subst h; exact hr
  | cons o l ih =>
    intro rest a a' h hr
    unfold buildsM at h
    split at h
    · rename_i t parts hg ho
      split at h
      · rename_i cells hc
        exact wpList_buildTo hg t parts ho o.dst rfl cells hc (ih _ _ _ h hr)
      · cases h
    · rename_i t x hg ho
      split at h
      · rename_i hc
        exact wpList_valTo hg o.dst rfl (.iface t (a.eval x)) (by simp [execOp, ho, run_makeInterface w t _ hc]) (ih _ _ _ h hr)
      · cases h
    · cases h

theorem wpList_buildsMTo {P : Program} {ops : Array Oper} {Q : Exit → Act → World → Prop} {w : World} {l : List Oper} {a : Act} (n s t : Nat) (v x : Value)
    (h : (buildsM P (l.take n) a).map (fun a' => (a'.tmps.getD s undef, a'.tmps.getD t undef, a'.defers)) = some (v, x, []))
    (hr : ∀ a' : Act, a'.tmps.getD s undef = v → a'.tmps.getD t undef = x → a'.defers = [] → wpList P ops Q (l.drop n) a' w) : wpList P ops Q l a w := by
  rw [← List.take_append_drop n l]
  cases hb : buildsM P (l.take n) a with
  | none => rw [hb] at h; cases h
  | some a' =>
    rw [hb] at h
    simp only [Option.map_some, Option.some.injEq, Prod.mk.injEq] at h
    exact wpList_buildsM _ _ _ _ hb (hr a' h.1 h.2.1 h.2.2)

set_option maxRecDepth 100000 in
set_option maxHeartbeats 4000000 in
theorem csrRows_any (w : World) : Calls Tryz.prog 111 #[] w fun e w' => e = .returned (.agg csrCells) ∧ Below w.heap.size w w' := by
  go_enter Tryz.func111, Tryz.ntmps111
  apply wp_seq_k; intro K0 hK0
  apply wp_region_list
  refine wpList_allocZ rfl 135 rfl (some 0) rfl _ csrZero_info ?_
  apply wpList_nil
  refine hK0 _ _ ?_
  clear hK0 K0
  apply wp_seq_k; intro K0 hK0
  apply wp_region_lit
  refine wpList_buildsMTo 67 0 67 (.pointer (some ⟨w.heap.size, 0, none⟩)) (.agg csrCells) (by kernel_rfl) ?_
  intro a' h0 h99 hd
  have hg : (w.alloc (.cells (Value.agg csrZero).cells 135)).heap[w.heap.size]? = some (.cells csrZero 135 (0, 0)) := heap_alloc_new _ _
  refine wpList_store_rowTo rfl 135 (.tmp 0) (.tmp 67) rfl rfl w.heap.size csrCells h0 h99 135 csrZero hg (by rw [csrRows_size, csrCells_size]) (by rw [csrZero_size, csrCells_size]) csrCells_one ?_
  apply wpList_nil
  refine hK0 _ _ ?_
  clear hK0 K0
  apply wp_ret
  refine bodyPost_ret (results_cell_row Tryz.results111 _ _ _ _ _ _ _ h0 (setRow_heap _ _ _ _ _ _ hg) Tryz.underlying135 rfl (by rw [csrRows_size, csrCells_size])) hd ⟨rfl, ?_⟩
  exact below_setRow ((Below.refl _ _).alloc (Nat.le_refl _) _) (Nat.le_refl _) _

theorem csrRows_T (w : World) : Calls Tryz.prog 111 #[] w fun e w' => ∃ T, e = .returned T ∧ Hid (T = .agg csrCells) ∧ Below w.heap.size w w' :=
  (csrRows_any w).mono fun e w' h => ⟨.agg csrCells, h.1, (rfl : Value.agg csrCells = .agg csrCells), h.2⟩

theorem cks_len : cks.length = 22 := by rfl

def ckAt (k : Nat) : Int × CK := cks.getD k (0, .mst)

theorem ckAt_get (k : Nat) (h : k < 22) : cks[k]'(by rw [cks_len]; exact h) = ckAt k := by
  simp [ckAt, List.getD, List.getElem?_eq_getElem (show k < cks.length by rw [cks_len]; exact h)]

theorem csrCells_part (k : Nat) (h : k < 22) : csrCells.extract (k * 2) (k * 2 + 2) = (ckCells (ckAt k)).toArray := by
  have := flat_drop ckCells 2 cks (by intro x _; rfl) k (by rw [cks_len]; exact h)
  rw [ckAt_get k h] at this
  rw [← this]
  simp [csrCells]

theorem run_indexC (w : World) (kk : IntKind) (k : Nat) (hk : k < 22) : (Instr.index 135 (.agg csrCells) (.int kk (k : Int))).run Tryz.prog w = .ok (.agg #[.int .i64 (ckAt k).1, .iface (ckAt k).2.ty (ckAt k).2.val]) w := by
  have hs : (sizeOf 134).run Tryz.prog w = .ok 2 w := by
    obtain ⟨i0, hi, hz1⟩ : ∃ i, Tryz.prog.info? 134 = some i ∧ i.size = 2 := by
      have h : (Tryz.prog.info? 134).map (·.size) = some 2 := by kernel_rfl
      cases hq : Tryz.prog.info? 134 with
      | none => rw [hq] at h; cases h
      | some i => rw [hq] at h; exact ⟨i, rfl, by simpa using h⟩
    simp [sizeOf, typeInfo, hi, hz1]
  have ha : (isAgg 134).run Tryz.prog w = .ok true w := by
    simp [isAgg, run_underlying Tryz.underlying134]
  have hb : (0 : Int) ≤ (k : Int) ∧ (k : Int) < ((22 : Nat) : Int) := by omega
  unfold Instr.index
  simp only [asIntOf, Sem.run_bind, Sem.run_pure, Result.andThen_ok, run_underlying Tryz.underlying135]
  rw [if_pos hb]
  simp only [Sem.run_bind, hs, Result.andThen_ok, part, ha, Int.toNat_natCast, if_true, Sem.run_pure]
  rw [csrCells_part k hk]
  rfl

theorem wpList_indexC {ops : Array Oper} {rest : List Oper} {o : Oper} {a : Act} {w : World} {Q : Exit → Act → World → Prop} {T : Value} (hT : Hid (T = .agg csrCells)) (kk : IntKind) (k : Nat) (hk : k < 22) (r : Int × CK) (hr : Hid (r = ckAt k)) (hg : o.guard = none) (x i : Operand) (ho : o.op = .index 135 x i)
    (hx : a.eval x = T) (hi : a.eval i = .int kk (k : Int))
    (h : wpList Tryz.prog ops Q rest (a.put o.dst (.agg #[.int .i64 r.1, .iface r.2.ty r.2.val])) w) : wpList Tryz.prog ops Q (o :: rest) a w := by
  refine wpList_plain hg fun K hK => ?_
  have hrun : (execOp a.eval o).run Tryz.prog w = .ok (.value (.agg #[.int .i64 r.1, .iface r.2.ty r.2.val])) w := by
    simp [execOp, ho, hx, hi, hT.out, hr.out, run_indexC w kk k hk]
  unfold Oper.wp
  rw [hrun, Oper.upon_value]
  exact hK _ _ h

end Go.Proofs.YtilhcfhcdplicaaGreatDoor

namespace Go.Proofs.YtilhcfhcdplicaaGreatDoor
open Go.RowKit
set_option linter.unusedVariables false

def modeB (x : Int) : Bool := (fld x 60 4 == 0) || (fld x 60 4 == 8)

def byteI (x : Int) (k : Nat) : Int := if (bits .and .u64 (bits .and .u64 (fld x (8 * k) 8) 159) 1 == 0) = true then bits .andNot .u64 (bits .and .u64 (fld x (8 * k) 8) 159) 2 else bits .and .u64 (fld x (8 * k) 8) 159

def cfgI (x : Int) : Nat → Int
  | 0 => 0
  | k + 1 => bits .or .u64 (cfgI x k) (IntKind.u64.wrap (byteI x k * 2 ^ (8 * k)))

def fitV : CK → Int → Int
  | .plain b, x => bits .and .u64 x b
  | .mst, x => if (bits .and .u64 x 6144 == 4096) = true then bits .andNot .u64 (bits .and .u64 x 924074) 6144 else bits .and .u64 x 924074
  | .mie, x => bits .and .u64 x 2730
  | .mip, x => bits .and .u64 x 2730
  | .satp, x => if modeB x = true then x else 0
  | .cfg, x => cfgI x 4
  | .addr _, x => bits .and .u64 x 18014398509481983

def reachI (c : Int) (e : Nat) : Int := fld c (8 * e + 3) 2

def CK.fitF : CK → Nat
  | .plain _ => 321 | .mst => 319 | .mie => 322 | .mip => 324 | .satp => 327 | .cfg => 330 | .addr _ => 333

theorem satpModeOk_any (x : Int) (h0 : 0 ≤ x) (h1 : x < 18446744073709551616) (w : World) : Calls Tryz.prog 329 #[.int .u64 x] w fun e w' => e = .returned (.bool (modeB x)) ∧ w' = w.drew := by
  have HB : Hid (∀ w, Calls Tryz.prog 47 #[.int .u64 x, .int .i64 60, .int .i64 4] w fun e w' => e = .returned (.int .u64 (fld x 60 4)) ∧ w' = w.drew) := fun w => bitsAt_any x 60 4 h0 h1 (by omega) (by omega) w
  have F : Hid (modeB x = ((fld x 60 4 == 0) || (fld x 60 4 == 8))) := (rfl : modeB x = _)
  generalize fld x 60 4 = y at *
  cases d0 : (y == 0) with
  | true =>
    rw [d0] at F
    go_enter Tryz.func329, Tryz.ntmps329
    go_wp2_with fail
    refine (HB.out _).mono ?_
    rintro e w1 ⟨rfl, hw1⟩
    subst hw1
    go_wp2_with fail
    go_ret
    exact ⟨by rw [F.out]; rfl, rfl⟩
  | false =>
    rw [d0] at F
    go_enter Tryz.func329, Tryz.ntmps329
    go_wp2_with fail
    refine (HB.out _).mono ?_
    rintro e w1 ⟨rfl, hw1⟩
    subst hw1
    go_wp2_with fail
    go_ret
    exact ⟨by rw [F.out]; rfl, rfl⟩

theorem pmpByte_any (x : Int) (k : Nat) (hk : k < 5) (h0 : 0 ≤ x) (h1 : x < 18446744073709551616) (w : World) : Calls Tryz.prog 114 #[.int .u64 x, .int .i64 k] w fun e w' => e = .returned (.int .u64 (fld x (8 * k) 8)) ∧ w' = w.drew := by
  obtain ⟨q, hq⟩ : ∃ q, 8 * k = q := ⟨_, rfl⟩
  have hm : wrap64 (8 * (k : Int)) = (q : Int) := by unfold wrap64; omega
  rw [hq]
  have HB : Hid (∀ w, Calls Tryz.prog 47 #[.int .u64 x, .int .i64 q, .int .i64 8] w fun e w' => e = .returned (.int .u64 (fld x q 8)) ∧ w' = w.drew) := fun w => bitsAt_any x q 8 h0 h1 (by omega) (by omega) w
  clear hq hk
  generalize fld x q 8 = y at *
  go_enter Tryz.func114, Tryz.ntmps114
  go_wp2_with fail
  refine (HB.out _).mono ?_
  rintro e w1 ⟨rfl, hw1⟩
  subst hw1
  go_wp2_with fail
  go_ret
  exact ⟨rfl, rfl⟩

theorem pmpReach_any (x : Int) (k : Nat) (hk : k < 5) (h0 : 0 ≤ x) (h1 : x < 18446744073709551616) (w : World) : Calls Tryz.prog 165 #[.int .u64 x, .int .i64 k] w fun e w' => e = .returned (.int .u64 (reachI x k)) ∧ w' = w.drew := by
  obtain ⟨q, hq⟩ : ∃ q, 8 * k + 3 = q := ⟨_, rfl⟩
  obtain ⟨q2, hq2⟩ : ∃ q2, 8 * k = q2 := ⟨_, rfl⟩
  have hm : wrap64 (8 * (k : Int)) = (q2 : Int) := by unfold wrap64; omega
  have hm2 : wrap64 ((q2 : Int) + 3) = (q : Int) := by unfold wrap64; omega
  unfold reachI
  rw [hq]
  have HB : Hid (∀ w, Calls Tryz.prog 47 #[.int .u64 x, .int .i64 q, .int .i64 2] w fun e w' => e = .returned (.int .u64 (fld x q 2)) ∧ w' = w.drew) := fun w => bitsAt_any x q 2 h0 h1 (by omega) (by omega) w
  clear hq hq2 hk
  generalize fld x q 2 = y at *
  go_enter Tryz.func165, Tryz.ntmps165
  go_wp2_with fail
  refine (HB.out _).mono ?_
  rintro e w1 ⟨rfl, hw1⟩
  subst hw1
  go_wp2_with fail
  go_ret
  exact ⟨rfl, rfl⟩

theorem fit_plain (b x : Int) (w : World) : Calls Tryz.prog 321 #[.agg #[.int .u64 b], .int .u64 x] w fun e w' => e = .returned (.int .u64 (bits .and .u64 x b)) ∧ Below w.heap.size w w' := by
  go_enter Tryz.func321, Tryz.ntmps321
  go_wp2_with fail
  go_ret
  exact ⟨rfl, (Below.refl _ _).alloc (Nat.le_refl _) _⟩

theorem fit_addr (e : Nat) (x : Int) (w : World) : Calls Tryz.prog 333 #[.agg #[.int .i64 e], .int .u64 x] w fun e w' => e = .returned (.int .u64 (bits .and .u64 x 18014398509481983)) ∧ Below w.heap.size w w' := by
  go_enter Tryz.func333, Tryz.ntmps333
  go_wp2_with fail
  go_ret
  exact ⟨rfl, (Below.refl _ _).alloc (Nat.le_refl _) _⟩

theorem fit_mie (x : Int) (w : World) : Calls Tryz.prog 322 #[.agg #[], .int .u64 x] w fun e w' => e = .returned (.int .u64 (bits .and .u64 x 2730)) ∧ Below w.heap.size w w' := by
  go_enter Tryz.func322, Tryz.ntmps322
  go_wp2_with fail
  go_ret
  exact ⟨rfl, by go_grown⟩

theorem fit_mip (x : Int) (w : World) : Calls Tryz.prog 324 #[.agg #[], .int .u64 x] w fun e w' => e = .returned (.int .u64 (bits .and .u64 x 2730)) ∧ Below w.heap.size w w' := by
  go_enter Tryz.func324, Tryz.ntmps324
  go_wp2_with fail
  go_ret
  exact ⟨rfl, by go_grown⟩

theorem fit_mst (x : Int) (w : World) : Calls Tryz.prog 319 #[.agg #[], .int .u64 x] w fun e w' => e = .returned (.int .u64 (fitV .mst x)) ∧ Below w.heap.size w w' := by
  have F0 : fitV .mst x = if (bits .and .u64 x 6144 == 4096) = true then bits .andNot .u64 (bits .and .u64 x 924074) 6144 else bits .and .u64 x 924074 := rfl
  cases d : (bits .and .u64 x 6144 == 4096) with
  | true =>
    rw [if_pos d] at F0
    have F : Hid (fitV .mst x = bits .andNot .u64 (bits .and .u64 x 924074) 6144) := F0
    clear F0
    go_enter Tryz.func319, Tryz.ntmps319
    go_wp2_with fail
    go_ret
    exact ⟨by rw [F.out]; rfl, by go_grown⟩
  | false =>
    rw [if_neg (by rw [d]; decide)] at F0
    have F : Hid (fitV .mst x = bits .and .u64 x 924074) := F0
    clear F0
    go_enter Tryz.func319, Tryz.ntmps319
    go_wp2_with fail
    go_ret
    exact ⟨by rw [F.out]; rfl, by go_grown⟩

theorem fit_satp (x : Int) (h0 : 0 ≤ x) (h1 : x < 18446744073709551616) (w : World) : Calls Tryz.prog 327 #[.agg #[], .int .u64 x] w fun e w' => e = .returned (.int .u64 (fitV .satp x)) ∧ Below w.heap.size w w' := by
  have HB : Hid (∀ w, Calls Tryz.prog 329 #[.int .u64 x] w fun e w' => e = .returned (.bool (modeB x)) ∧ w' = w.drew) := fun w => satpModeOk_any x h0 h1 w
  have F0 : fitV .satp x = if modeB x = true then x else 0 := rfl
  cases d : modeB x with
  | true =>
    rw [if_pos d] at F0
    rw [d] at HB
    have F : Hid (fitV .satp x = x) := F0
    clear F0
    go_enter Tryz.func327, Tryz.ntmps327
    go_wp2_with fail
    refine (HB.out _).mono ?_
    rintro e w1 ⟨rfl, hw1⟩
    subst hw1
    go_wp2_with fail
    go_ret
    exact ⟨by rw [F.out]; rfl, by go_grown⟩
  | false =>
    rw [if_neg (by rw [d]; decide)] at F0
    rw [d] at HB
    have F : Hid (fitV .satp x = 0) := F0
    clear F0
    go_enter Tryz.func327, Tryz.ntmps327
    go_wp2_with fail
    refine (HB.out _).mono ?_
    rintro e w1 ⟨rfl, hw1⟩
    subst hw1
    go_wp2_with fail
    go_ret
    exact ⟨by rw [F.out]; rfl, by go_grown⟩

set_option maxHeartbeats 800000 in
theorem fit_cfg (x : Int) (h0 : 0 ≤ x) (h1 : x < 18446744073709551616) (w : World) : Calls Tryz.prog 330 #[.agg #[], .int .u64 x] w fun e w' => e = .returned (.int .u64 (fitV .cfg x)) ∧ Below w.heap.size w w' := by
  have HB : Hid (∀ k : Nat, k < 5 → ∀ w, Calls Tryz.prog 114 #[.int .u64 x, .int .i64 k] w fun e w' => e = .returned (.int .u64 (fld x (8 * k) 8)) ∧ w' = w.drew) := fun k hk w => pmpByte_any x k hk h0 h1 w
  have FE : Hid (fitV .cfg x = cfgI x 4) := (rfl : fitV .cfg x = _)
  go_enter Tryz.func330, Tryz.ntmps330
  go_wp2_with fail
  go_loopw [5, 8] (fun y i wr => ∃ k : Nat, k ≤ 4 ∧ i = .int .i64 k ∧ y = .int .u64 (cfgI x k) ∧ Below w.heap.size w wr)
    (fun _ i _ => 4 - (intOf i).toNat)
  case atStart => exact ⟨0, by omega, rfl, rfl, by go_grown⟩
  case round =>
    obtain ⟨k, hk, rfl, rfl, hbel⟩ := hrel
    by_cases hlt : k < 4
    · have F0 : cfgI x (k + 1) = bits .or .u64 (cfgI x k) (IntKind.u64.wrap (byteI x k * 2 ^ (8 * k))) := rfl
      unfold byteI at F0
      have HB2 := HB.out k (by omega)
      generalize fld x (8 * k) 8 = z at *
      obtain ⟨q, hq⟩ : ∃ q, 8 * k = q := ⟨_, rfl⟩
      have hm : wrap64 (8 * (k : Int)) = (q : Int) := by unfold wrap64; omega
      have hq64 : q < 64 := by omega
      rw [hq] at F0
      have d : decide ((k : Int) < 4) = true := by simp; omega
      obtain ⟨b, hb⟩ : ∃ b, bits .and .u64 z 159 = b := ⟨_, rfl⟩
      obtain ⟨y, hy⟩ : ∃ y, y = cfgI x k := ⟨_, rfl⟩
      rw [hb, ← hy] at F0
      rw [← hy]
      cases hc : (bits .and .u64 b 1 == 0) with
      | true =>
        rw [if_pos hc] at F0
        have F : Hid (cfgI x (k + 1) = bits .or .u64 y (IntKind.u64.wrap (bits .andNot .u64 b 2 * 2 ^ q))) := F0
        have HB3 : Hid (∀ w, Calls Tryz.prog 114 #[.int .u64 x, .int .i64 k] w fun e w' => e = .returned (.int .u64 z) ∧ w' = w.drew) := HB2
        have HQ : Hid (8 * k = q) := hq
        clear F0 hy HB2 hq
        go_wp2_with fail
        refine (HB3.out _).mono ?_
        rintro e w1 ⟨rfl, hw1⟩
        subst hw1
        go_wp2_with fail
        go_roundw
        case rel => exact ⟨k + 1, by omega, by go_num, by rw [F.out, HQ.out], hbel.drew⟩
        case measure => simp [intOf]; omega
      | false =>
        rw [if_neg (by rw [hc]; decide)] at F0
        have F : Hid (cfgI x (k + 1) = bits .or .u64 y (IntKind.u64.wrap (b * 2 ^ q))) := F0
        have HB3 : Hid (∀ w, Calls Tryz.prog 114 #[.int .u64 x, .int .i64 k] w fun e w' => e = .returned (.int .u64 z) ∧ w' = w.drew) := HB2
        have HQ : Hid (8 * k = q) := hq
        clear F0 hy HB2 hq
        go_wp2_with fail
        refine (HB3.out _).mono ?_
        rintro e w1 ⟨rfl, hw1⟩
        subst hw1
        go_wp2_with fail
        go_roundw
        case rel => exact ⟨k + 1, by omega, by go_num, by rw [F.out, HQ.out], hbel.drew⟩
        case measure => simp [intOf]; omega
    · have hk4 : k = 4 := by omega
      subst hk4
      generalize cfgI x 4 = y at *
      go_wp2_with fail
      go_ret
      exact ⟨by rw [FE.out]; rfl, hbel⟩

theorem fit_any (k : CK) (x : Int) (h0 : 0 ≤ x) (h1 : x < 18446744073709551616) (w : World) : Calls Tryz.prog k.fitF #[k.val, .int .u64 x] w fun e w' => e = .returned (.int .u64 (fitV k x)) ∧ Below w.heap.size w w' := by
  cases k with
  | plain b => exact fit_plain b x w
  | mst => exact fit_mst x w
  | mie => exact fit_mie x w
  | mip => exact fit_mip x w
  | satp => exact fit_satp x h0 h1 w
  | cfg => exact fit_cfg x h0 h1 w
  | addr e => exact fit_addr e x w

end Go.Proofs.YtilhcfhcdplicaaGreatDoor

namespace Go.Proofs.YtilhcfhcdplicaaGreatDoor
open Go.RowKit
set_option linter.unusedVariables false

end Go.Proofs.YtilhcfhcdplicaaGreatDoor

namespace Go.Proofs.YtilhcfhcdplicaaGreatDoor
open Go.RowKit
set_option linter.unusedVariables false

def fitsRest (l : List Int) : Nat → Nat → Bool
  | 0, _ => true
  | n + 1, k => (fitV (ckAt k).2 (l.getD k 0) == l.getD k 0) && fitsRest l n (k + 1)

def fitsOk (n : Nat) (l : List Int) : Bool := decide (n = 22) && fitsRest l 22 0

theorem fitsRest_yes (l : List Int) (k : Nat) (hk : k < 22) (h : (fitV (ckAt k).2 (l.getD k 0) == l.getD k 0) = true) : fitsRest l (22 - k) k = fitsRest l (22 - (k + 1)) (k + 1) := by
  rw [show 22 - k = (22 - (k + 1)) + 1 from by omega, fitsRest, h, Bool.true_and]

theorem fitsRest_no (l : List Int) (k : Nat) (hk : k < 22) (h : (fitV (ckAt k).2 (l.getD k 0) == l.getD k 0) = false) : fitsRest l (22 - k) k = false := by
  rw [show 22 - k = (22 - (k + 1)) + 1 from by omega, fitsRest, h, Bool.false_and]

theorem fit_found (k : CK) (w : World) : (method 430 k.ty k.val "loop.example/g00134/impl.fit").run Tryz.prog w = .ok (k.fitF, k.val) w := by cases k <;> kernel_rfl

theorem enters_g {n : Nat} (h : (Tryz.prog.funcs[n]?).map (fun fn => (fn.name == "runtime.NumGoroutine", fn.body.isSome)) = some (false, true)) (args : Array Value) (w : World) : (callFunc n args).run Tryz.prog w = .ok (.enter n args) w := by
  cases hf : Tryz.prog.funcs[n]? with
  | none => rw [hf] at h; cases h
  | some fn =>
    rw [hf] at h
    simp only [Option.map_some, Option.some.injEq, Prod.mk.injEq] at h
    have h1 : fn.name ≠ "runtime.NumGoroutine" := by simpa using h.1
    obtain ⟨c, hc⟩ := Option.isSome_iff_exists.mp h.2
    simp [callFunc, hf, h1, hc, mark]

theorem fit_enters (k : CK) : (Tryz.prog.funcs[k.fitF]?).map (fun fn => (fn.name == "runtime.NumGoroutine", fn.body.isSome)) = some (false, true) := by cases k <;> kernel_rfl

theorem fit_keeps (k : CK) (x : Int) (h0 : 0 ≤ x) (h1 : x < 18446744073709551616) (w : World) (p q : Addr) (u v : Value) (hp : w.cell? p = some u ∧ w.cell? q = some v) :
    Calls Tryz.prog k.fitF #[k.val, .int .u64 x] w fun e w' => e = .returned (.int .u64 (fitV k x)) ∧ Below w.heap.size w w' ∧ w'.cell? p = some u ∧ w'.cell? q = some v :=
  (fit_any k x h0 h1 w).mono fun e w' h => ⟨h.1, h.2, (h.2.cell (World.block_lt_of_cell? _ _ hp.1)).trans hp.1, (h.2.cell (World.block_lt_of_cell? _ _ hp.2)).trans hp.2⟩

set_option maxRecDepth 100000 in
set_option maxHeartbeats 800000 in
theorem implCsrsOk_any (a : Option Addr) (n cap : Nat) (l : List Int) (w : World) (hz : l.length = n) (hs : Sl .u64 w a l) (hl : ∀ j, 0 ≤ l.getD j 0 ∧ l.getD j 0 < 18446744073709551616) :
    Calls Tryz.prog 59 #[.slice a n cap] w fun e w' => e = .returned (.bool (fitsOk n l)) ∧ Below w.heap.size w w' := by
  by_cases hn : n = 22
  · have hok : fitsOk n l = fitsRest l 22 0 := by simp [fitsOk, hn]
    rw [hok]
    have HZ : Hid (l.length = n) := hz
    have HL : Hid (∀ j, 0 ≤ l.getD j 0 ∧ l.getD j 0 < 18446744073709551616) := hl
    subst hn
    clear hz hok hl
    go_enter Tryz.func59, Tryz.ntmps59
    go_wp2_with fail
    refine (csrRows_T _).mono ?_
    rintro e w1 ⟨T, rfl, HT, hb⟩
    go_wp2_with fail
    go_loopw [9] (fun i wr => ∃ k : Nat, k ≤ 22 ∧ i = .int .i64 k ∧ Hid (fitsRest l (22 - k) k = fitsRest l 22 0) ∧ Below w.heap.size w wr)
      (fun i _ => 22 - (intOf i).toNat)
    case atStart => exact ⟨0, by omega, rfl, (rfl : fitsRest l (22 - 0) 0 = fitsRest l 22 0), hb⟩
    case round =>
      obtain ⟨k, hk, rfl, hf, hbel⟩ := hrel
      by_cases hlt : k < 22
      · obtain ⟨b, off, rfl, hb0, hc⟩ := hs k (by rw [HZ.out]; exact hlt)
        have hx := HL.out k
        obtain ⟨r, hr⟩ : ∃ r, r = ckAt k := ⟨_, rfl⟩
        have HR : Hid (r = ckAt k) := hr
        have Yes : (fitV r.2 (l.getD k 0) == l.getD k 0) = true → Hid (fitsRest l (22 - (k + 1)) (k + 1) = fitsRest l 22 0) := fun h => (fitsRest_yes l k hlt (by rw [← hr]; exact h)).symm.trans hf.out
        have No : (fitV r.2 (l.getD k 0) == l.getD k 0) = false → Hid (fitsRest l 22 0 = false) := fun h => hf.out.symm.trans (fitsRest_no l k hlt (by rw [← hr]; exact h))
        have YES : Hid ((fitV r.2 (l.getD k 0) == l.getD k 0) = true → Hid (fitsRest l (22 - (k + 1)) (k + 1) = fitsRest l 22 0)) := Yes
        have NO : Hid ((fitV r.2 (l.getD k 0) == l.getD k 0) = false → Hid (fitsRest l 22 0 = false)) := No
        clear hr Yes No
        have dk : decide ((k : Int) < 22) = true := by simp; omega
        have hk0 : (0 : Int) ≤ (k : Int) := by omega
        have hk1 : (k : Int) < 22 := by omega
        have mf := fit_found r.2
        have en := enters_g (fit_enters r.2)
        have hcx : wr.cell? ⟨b, off + k, none⟩ = some (.int .u64 (l.getD k 0)) := (hbel.cell (by exact hb0)).trans hc
        generalize l.getD k 0 = x at *
        go_wp2_with (first | refine wpList_indexC HT .i64 k hlt r HR rfl (.tmp 8) (.tmp 9) rfl rfl rfl ?_)
        go_region_held3 (fun w' => w'.cell? ⟨wr.heap.size, 1, none⟩ = some (.iface r.2.ty r.2.val) ∧ w'.cell? ⟨b, off + k, none⟩ = some (.int .u64 x)) (go_keep) (first | (refine (fit_keeps r.2 x hx.1 hx.2 _ ⟨wr.heap.size, 1, none⟩ ⟨b, off + k, none⟩ (.iface r.2.ty r.2.val) (.int .u64 x) ?_).mono ?_; (first | assumption | (simp [*])); rintro e w2 ⟨rfl, hb2, hp2, hq2⟩))
        have B2 : Hid (Below w.heap.size w w2) := by
          show Below _ _ _
          refine below_trans (w1 := (wr.alloc (Obj.cells #[.int .i64 r.1, .iface r.2.ty r.2.val] 134)).drew) ?_ hb2
          exact (hbel.alloc hbel.size _).drew
        clear hb2 hp2 hq2 mf en
        obtain ⟨y, hy⟩ : ∃ y, fitV r.2 x = y := ⟨_, rfl⟩
        rw [hy] at YES NO ⊢
        clear hy
        cases d : (y == x) with
        | true =>
          have F := YES.out d
          have d2 : (y != x) = false := by simp [bne, d]
          clear YES NO d
          rw [d2]
          go_wp2_with fail
          go_roundw
          case rel => exact ⟨k + 1, by omega, by go_num, F, B2.out⟩
          case measure => simp [intOf]; omega
        | false =>
          have F := NO.out d
          have d2 : (y != x) = true := by simp [bne, d]
          clear YES NO d
          rw [d2]
          go_wp2_with fail
          go_ret
          exact ⟨by rw [F.out]; rfl, B2.out⟩
      · have hk2 : k = 22 := by omega
        subst hk2
        have F : Hid (fitsRest l 22 0 = true) := hf.out.symm
        go_wp2_with fail
        go_ret
        exact ⟨by rw [F.out]; rfl, hbel⟩
  · have F : Hid (fitsOk n l = false) := by show _ = _; simp [fitsOk, hn]
    have d : ((n : Int) != 22) = true := by simp; omega
    clear hz hs
    go_enter Tryz.func59, Tryz.ntmps59
    go_wp2_with fail
    go_ret
    exact ⟨by rw [F.out]; rfl, Below.refl _ _⟩

structure Vw where
  at_ : Int
  num : Int
  rd : Int
  wr : Int
  ok : Bool

def Vw.cells (v : Vw) : Array Value := #[.int .i64 v.num, .int .u64 v.rd, .int .u64 v.wr]

theorem heap_setCell {w : World} {g : Nat} {cs : Array Value} {t : TypeId} {fr : Nat × Nat} (h : w.heap[g]? = some (.cells cs t fr)) (i : Nat) (v : Value) :
    (w.setCell ⟨g, i, none⟩ v).heap[g]? = some (.cells (cs.setIfInBounds i v) t fr) := by
  simp [World.setCell, Array.getElem?_modify, h]

end Go.Proofs.YtilhcfhcdplicaaGreatDoor

namespace Go.Proofs.YtilhcfhcdplicaaGreatDoor
open Go.RowKit
set_option linter.unusedVariables false

theorem privOk_any (p : Int) (w : World) : Calls Tryz.prog 106 #[.int .i64 p] w fun e w' => e = .returned (.bool (privB p)) ∧ w' = w := by
  have F : Hid (privB p = ((p == 0) || (p == 1) || (p == 3))) := (rfl : privB p = _)
  cases d0 : (p == 0) with
  | true =>
    rw [d0] at F
    go_enter Tryz.func106, Tryz.ntmps106
    go_wp2_with fail
    go_ret
    exact ⟨by rw [F.out]; rfl, rfl⟩
  | false =>
    cases d1 : (p == 1) with
    | true =>
      rw [d0, d1] at F
      go_enter Tryz.func106, Tryz.ntmps106
      go_wp2_with fail
      go_ret
      exact ⟨by rw [F.out]; rfl, rfl⟩
    | false =>
      rw [d0, d1] at F
      go_enter Tryz.func106, Tryz.ntmps106
      go_wp2_with fail
      go_ret
      exact ⟨by rw [F.out]; rfl, rfl⟩

end Go.Proofs.YtilhcfhcdplicaaGreatDoor

namespace Go.Proofs.YtilhcfhcdplicaaGreatDoor
open Go.RowKit
set_option linter.unusedVariables false

end Go.Proofs.YtilhcfhcdplicaaGreatDoor

namespace Go.Proofs.YtilhcfhcdplicaaGreatDoor
open Go.RowKit
set_option linter.unusedVariables false

theorem bit11 : ∀ i, i < 64 → ∀ (p q : Bool) (o : Bool), (((if i = 0 then p else if i = 1 then q else o) && bt 924074 (i + 11)) && bt 3 i) = bt ((if p = true then 1 else 0) + (if q = true then 2 else 0)) i := by decide +kernel

theorem bit12 : ∀ i, i < 64 → ∀ (p q : Bool) (o : Bool), ((if i = 11 then p else if i = 12 then q else o) && bt 6144 i) = bt ((if p = true then 2048 else 0) + (if q = true then 4096 else 0)) i := by decide +kernel

theorem mst_eq (x : Int) (h : U x) : fitV .mst x = mst x := by
  have e1 : bits .and .u64 (bits .and .u64 x 924074 / 2048) 3 = (if bt x 11 = true then 1 else 0) + (if bt x 12 = true then 2 else 0) := by
    refine bt_ext _ _ (U_bits _ _ _) (by constructor <;> (cases bt x 11 <;> cases bt x 12 <;> decide)) fun i hi => ?_
    have hd := bt_div (bits .and .u64 x 924074) (U_bits _ _ _) 11 i
    rw [show ((2 : Int) ^ 11) = 2048 from by decide] at hd
    rw [bt_and, hd, bt_and, ← bit11 i hi (bt x 11) (bt x 12) (bt x (i + 11))]
    by_cases h0 : i = 0
    · subst h0; rfl
    · by_cases h1 : i = 1
      · subst h1; rfl
      · rw [if_neg h0, if_neg h1]
  have e2 : bits .and .u64 x 6144 = (if bt x 11 = true then 2048 else 0) + (if bt x 12 = true then 4096 else 0) := by
    refine bt_ext _ _ (U_bits _ _ _) (by constructor <;> (cases bt x 11 <;> cases bt x 12 <;> decide)) fun i hi => ?_
    rw [bt_and, ← bit12 i hi (bt x 11) (bt x 12) (bt x i)]
    by_cases h0 : i = 11
    · subst h0; rfl
    · by_cases h1 : i = 12
      · subst h1; rfl
      · rw [if_neg h0, if_neg h1]
  show (if (bits .and .u64 x 6144 == 4096) = true then bits .andNot .u64 (bits .and .u64 x 924074) 6144 else bits .and .u64 x 924074) = mst x
  unfold mst
  rw [e1, e2]
  cases bt x 11 <;> cases bt x 12 <;> rfl

theorem lit2 : ∀ i, i < 64 → ∀ a : Bool, (a && bt 18446744073709551613 i) = (a && !bt 2 i) := by decide +kernel

theorem lit3 : ∀ i, i < 64 → ∀ a : Bool, (a && bt 18446744073709551612 i) = (a && !bt 3 i) := by decide +kernel

theorem litAll : ∀ i, i < 64 → bt 18446744073709551615 i = true := by decide +kernel

theorem lit159 : ∀ i, i < 64 → ∀ a : Bool, ((decide (i < 8) && a) && bt 159 i) = (a && bt 159 i) := by decide +kernel

theorem not2 (x : Int) : bits .and .u64 x 18446744073709551613 = bits .andNot .u64 x 2 :=
  bt_ext _ _ (U_bits _ _ _) (U_bits _ _ _) fun i hi => by rw [bt_and, bt_andNot _ _ _ hi]; exact lit2 i hi _

theorem not3 (x : Int) : bits .and .u64 x 18446744073709551612 = bits .andNot .u64 x 3 :=
  bt_ext _ _ (U_bits _ _ _) (U_bits _ _ _) fun i hi => by rw [bt_and, bt_andNot _ _ _ hi]; exact lit3 i hi _

theorem and_all (x : Int) (h : U x) : bits .and .u64 x 18446744073709551615 = x :=
  bt_ext _ _ (U_bits _ _ _) h fun i hi => by rw [bt_and, litAll i hi, Bool.and_true]

theorem byte_eq (x : Int) (h : U x) (k : Nat) : byteI x k = cfgByte x k := by
  have e : bits .and .u64 (fld x (8 * k) 8) 159 = bits .and .u64 (x / 2 ^ (8 * k)) 159 :=
    bt_ext _ _ (U_bits _ _ _) (U_bits _ _ _) fun i hi => by
      rw [bt_and, bt_and, bt_fld x h _ _ _ (by omega), bt_div x h]; exact lit159 i hi _
  unfold byteI cfgByte
  rw [e]

theorem cfg_eq (x : Int) (h : U x) (k : Nat) : cfgI x k = cfgSum x k := by
  induction k with
  | zero => rfl
  | succ k ih => rw [cfgI, cfgSum, ih, byte_eq x h]

theorem fit_legal (x : Int) (h : U x) (k : Nat) (hk : k < 22) (h9 : k ≠ 9) (h15 : k ≠ 15) : fitV (ckAt k).2 x = legal k x := by
  have : k = 0 ∨ k = 1 ∨ k = 2 ∨ k = 3 ∨ k = 4 ∨ k = 5 ∨ k = 6 ∨ k = 7 ∨ k = 8 ∨ k = 10 ∨ k = 11 ∨ k = 12 ∨ k = 13 ∨ k = 14 ∨ k = 16 ∨ k = 17 ∨ k = 18 ∨ k = 19 ∨ k = 20 ∨ k = 21 := by omega
  rcases this with rfl | rfl | rfl | rfl | rfl | rfl | rfl | rfl | rfl | rfl | rfl | rfl | rfl | rfl | rfl | rfl | rfl | rfl | rfl | rfl
  · exact mst_eq x h
  · rfl
  · rfl
  · rfl
  · exact not2 x
  · exact and_all x h
  · exact not3 x
  · rfl
  · exact and_all x h
  · exact not2 x
  · exact and_all x h
  · exact not3 x
  · rfl
  · exact and_all x h
  · exact cfg_eq x h 4
  · rfl
  · rfl
  · rfl
  · rfl
  · exact and_all x h

theorem mode_eq (x : Int) (h : U x) : modeB x = ((x / 1152921504606846976 == 0) || (x / 1152921504606846976 == 8)) := by
  have e : fld x 60 4 = x / 1152921504606846976 := by
    unfold fld
    rw [show ((2 : Int) ^ 60) = 1152921504606846976 from by decide, show ((2 : Int) ^ 4) = 16 from by decide]
    have := h.1; have := h.2
    omega
  unfold modeB
  rw [e]

theorem ok_fit (x : Int) (h : U x) (k : Nat) (hk : k < 22) : (fitV (ckAt k).2 x == x) = okAt k x := by
  by_cases h9 : k = 9
  · subst h9; rfl
  · by_cases h15 : k = 15
    · subst h15
      show (fitV .satp x == x) = ((x / 1152921504606846976 == 0) || (x / 1152921504606846976 == 8))
      rw [← mode_eq x h]
      show ((if modeB x = true then x else 0) == x) = modeB x
      cases hm : modeB x with
      | true => simp
      | false =>
        have hx : x ≠ 0 := by
          rintro rfl
          revert hm
          decide
        simp only [Bool.false_eq_true, if_false, beq_eq_false_iff_ne]
        exact fun h => hx h.symm
    · rw [fit_legal x h k hk h9 h15]
      unfold okAt
      rw [if_neg h9, if_neg h15]

theorem fitsRest_eq (l : List Int) (hl : ∀ j, U (l.getD j 0)) : ∀ n k, k + n ≤ 22 → fitsRest l n k = okRest l n k := by
  intro n
  induction n with
  | zero => intro k _; rfl
  | succ n ih =>
    intro k hk
    rw [fitsRest, okRest, ok_fit _ (hl k) k (by omega), ih (k + 1) (by omega)]

theorem fitsOk_eq (m : Nat) (l : List Int) (hl : ∀ j, U (l.getD j 0)) : fitsOk m l = csrsOk m l := by
  unfold fitsOk csrsOk
  rw [fitsRest_eq l hl 22 0 (by omega)]

theorem at_fld (l : List Int) (h : U (l.getD 16 0)) (k : Nat) : cfgAt l k = fld (l.getD 16 0) (8 * k) 8 := bitsAt_eq _ (8 * k) 8 h.1 h.2 (by omega)

theorem reach_fld (l : List Int) (h : U (l.getD 16 0)) (k : Nat) (hk : k < 4) : reachI (l.getD 16 0) k = bits .and .u64 (cfgAt l k / 8) 3 := by
  rw [at_fld l h]
  have h3 := and_low (fld (l.getD 16 0) (8 * k) 8 / 8) 2 (by have := (fld_bd (l.getD 16 0) (8 * k) 8).1; omega) (by have hu := U_fld (l.getD 16 0) (8 * k) 8 (by omega); have h1 := hu.1; have h2 := hu.2; omega) (by omega)
  rw [show ((2 : Int) ^ 2 - 1) = 3 from by decide, show ((2 : Int) ^ 2) = 4 from by decide] at h3
  rw [h3]
  unfold reachI fld
  rw [Int.pow_add, show ((2 : Int) ^ 3) = 8 from by decide, show ((2 : Int) ^ 2) = 4 from by decide, show ((2 : Int) ^ 8) = 256 from by decide, ← Int.ediv_ediv_of_nonneg (Int.le_of_lt (Int.pow_pos (by omega)))]
  generalize l.getD 16 0 / 2 ^ (8 * k) = z
  omega

theorem okRest_at (l : List Int) : ∀ n k, okRest l n k = true → ∀ j, k ≤ j → j < k + n → okAt j (l.getD j 0) = true := by
  intro n
  induction n with
  | zero => intro k _ j h1 h2; omega
  | succ n ih =>
    intro k h j h1 h2
    rw [okRest, Bool.and_eq_true] at h
    by_cases hj : j = k
    · subst hj; exact h.1
    · exact ih (k + 1) h.2 j (by omega) (by omega)

theorem right_at {m : Nat} {l : List Int} (h : csrsOk m l = true) (j : Nat) (hj : j < 22) : okAt j (l.getD j 0) = true := by
  simp only [csrsOk, Bool.and_eq_true, decide_eq_true_eq] at h
  exact okRest_at l 22 0 h.2 j (by omega) (by omega)

theorem mst_test (x : Int) : (bits .and .u64 x 6144 == 4096) = (!bt x 11 && bt x 12) := by
  have e2 : bits .and .u64 x 6144 = (if bt x 11 = true then 2048 else 0) + (if bt x 12 = true then 4096 else 0) := by
    refine bt_ext _ _ (U_bits _ _ _) (by constructor <;> (cases bt x 11 <;> cases bt x 12 <;> decide)) fun i hi => ?_
    rw [bt_and, ← bit12 i hi (bt x 11) (bt x 12) (bt x i)]
    by_cases h0 : i = 11
    · subst h0; rfl
    · by_cases h1 : i = 12
      · subst h1; rfl
      · rw [if_neg h0, if_neg h1]
  rw [e2]
  cases bt x 11 <;> cases bt x 12 <;> rfl

theorem mst_def (x : Int) (h : U x) : mst x = if (!bt x 11 && bt x 12) = true then bits .andNot .u64 (bits .and .u64 x 924074) 6144 else bits .and .u64 x 924074 := by
  rw [← mst_eq x h, ← mst_test]
  rfl

theorem m11 : bt 924074 11 = true ∧ bt 924074 12 = true ∧ bt 6144 11 = true ∧ bt 6144 12 = true ∧ bt 786722 11 = false ∧ bt 786722 12 = false := by decide +kernel

theorem mst_ok (x : Int) (h : U x) : mst x = x ↔ bits .and .u64 x 924074 = x ∧ (!bt x 11 && bt x 12) = false := by
  rw [mst_def x h]
  constructor
  · intro e
    cases hc : (!bt x 11 && bt x 12) with
    | true =>
      rw [hc, if_pos rfl] at e
      have : bt x 12 = false := by rw [← e, bt_andNot _ _ _ (by omega), m11.2.2.2.1]; simp
      rw [this, Bool.and_false] at hc
      cases hc
    | false => rw [hc, if_neg (by decide)] at e; exact ⟨e, rfl⟩
  · rintro ⟨e, hc⟩
    rw [hc, if_neg (by decide)]; exact e

end Go.Proofs.YtilhcfhcdplicaaGreatDoor

namespace Go.Proofs.YtilhcfhcdplicaaGreatDoor
open Go.RowKit
set_option linter.unusedVariables false

theorem addr_bd {l : List Int} (hl : ∀ j, U (l.getD j 0)) (hok : csrsOk 22 l = true) (j : Nat) (hj : 17 ≤ j) (hj2 : j ≤ 20) : 0 ≤ l.getD j 0 ∧ l.getD j 0 < 18014398509481984 := by
  have h := right_at hok j (by omega)
  have hu := hl j
  have e : bits .and .u64 (l.getD j 0) 18014398509481983 = l.getD j 0 := by
    have hj3 : j = 17 ∨ j = 18 ∨ j = 19 ∨ j = 20 := by omega
    have h2 : (bits .and .u64 (l.getD j 0) 18014398509481983 == l.getD j 0) = true := by
      rcases hj3 with rfl | rfl | rfl | rfl <;> exact h
    simpa using h2
  have f := and_low (l.getD j 0) 54 hu.1 hu.2 (by omega)
  have g : (2 : Int) ^ 54 - 1 = 18014398509481983 := by decide
  rw [g, e] at f
  have p54 : (2 : Int) ^ 54 = 18014398509481984 := by decide
  rw [p54] at f
  refine ⟨hu.1, ?_⟩
  have := Int.emod_lt_of_pos (l.getD j 0) (show (0 : Int) < 18014398509481984 by omega)
  omega

theorem trail_le (a : Int) : ∀ n k, trailN a n k ≤ n + k := by
  intro n
  induction n with
  | zero => intro k; show k ≤ 0 + k; omega
  | succ n ih =>
    intro k
    unfold trailN
    split
    · have := ih (k + 1); omega
    · omega

theorem bt_mask (m : Nat) (hm : m ≤ 54) (i : Nat) (hi : i < 64) : bt (IntKind.u64.wrap (IntKind.u64.wrap (2 ^ m) - 1)) i = decide (i < m) := by
  have k : ∀ m, m ≤ 54 → ∀ i, i < 64 → bt (IntKind.u64.wrap (IntKind.u64.wrap (2 ^ m) - 1)) i = decide (i < m) := by decide +kernel
  exact k m hm i hi

theorem andNot_low (a : Int) (h : U a) (m : Nat) (hm : m ≤ 54) : bits .andNot .u64 a (IntKind.u64.wrap (IntKind.u64.wrap (2 ^ m) - 1)) = a / 2 ^ m * 2 ^ m := by
  have hp : (0 : Int) < 2 ^ m := Int.pow_pos (by omega)
  have hq := U_div a h m
  have hle : a / 2 ^ m * 2 ^ m ≤ a := Int.ediv_mul_le _ (by omega)
  have hge : 0 ≤ a / 2 ^ m * 2 ^ m := Int.mul_nonneg hq.1 (by omega)
  have hw : IntKind.u64.wrap (a / 2 ^ m * 2 ^ m) = a / 2 ^ m * 2 ^ m := by
    have := h.2
    rw [IntKind.wrap_u64]
    exact Int.emod_eq_of_lt hge (by omega)
  refine bt_ext _ _ (U_bits _ _ _) ⟨hge, by have := h.2; omega⟩ fun i hi => ?_
  rw [bt_andNot _ _ _ hi, bt_mask m hm i hi, ← hw, bt_shl _ hq, bt_div a h]
  by_cases hmi : m ≤ i
  · have h1 : decide (i < m) = false := decide_eq_false (by omega)
    rw [h1, decide_eq_true hmi, decide_eq_true hi, Nat.sub_add_cancel hmi]
    simp
  · have h1 : decide (i < m) = true := decide_eq_true (by omega)
    rw [h1, decide_eq_false hmi]
    simp

end Go.Proofs.YtilhcfhcdplicaaGreatDoor

namespace Go.Proofs.YtilhcfhcdplicaaGreatDoor
open Go.RowKit
set_option linter.unusedVariables false

theorem below_app {w w' : World} {o : Obj} (h : (w.alloc o).grownBy w' (Value.slice (some ⟨w.heap.size, 0, none⟩) 0 0).ownBlock) : Below w.heap.size w w' := by
  refine Below.grown ((Below.refl _ _).alloc (Nat.le_refl _) _) h ?_ ?_
  · simp
  · intro k hk; simp [Value.ownBlock] at hk; omega

theorem bitAt_bt (x : Int) (h : U x) (i : Nat) : bitAt x i = if bt x i = true then 1 else 0 := by
  have e1 : ∀ i, i < 64 → ∀ (p o : Bool), ((if i = 0 then p else o) && bt 1 i) = bt (if p = true then 1 else 0) i := by decide +kernel
  unfold bitAt
  have e : ∀ y : Int, bits .and .u64 y 1 = if bt y 0 = true then 1 else 0 := by
    intro y
    refine bt_ext _ _ (U_bits _ _ _) (by split <;> (constructor <;> decide)) fun j hj => ?_
    rw [bt_and, ← e1 j hj (bt y 0) (bt y j)]
    by_cases h0 : j = 0
    · subst h0; rfl
    · rw [if_neg h0]
  rw [e, bt_div x h, Nat.zero_add]

theorem pageC_ne (k : Int) : pageC k ≠ 0 := by unfold pageC; split <;> (try split) <;> decide

theorem faultC_ne (k : Int) : faultC k ≠ 0 := by unfold faultC; split <;> (try split) <;> decide

theorem leaf_led (l : List Int) (p va kind e x : Int) (lv : Nat) (h : (leafV l p va kind e x lv).code = 0) :
    offB e lv = false ∧ noKind l kind e = false ∧ noPriv l p kind e = false ∧ (((wantV e kind != e) = true ∧ permRest l 1 x (lastOf x 8) 3 4 0 = true ∧ leafV l p va kind e x lv = ⟨leadV e va lv, 0, true, x, wantV e kind⟩) ∨ ((wantV e kind != e) = false ∧ leafV l p va kind e x lv = ⟨leadV e va lv, 0, false, 0, 0⟩)) := by
  unfold leafV at h ⊢
  cases h1 : offB e lv with
  | true => rw [h1, if_pos rfl] at h; exact absurd h (pageC_ne kind)
  | false =>
    rw [h1, if_neg (by decide)] at h
    cases h2 : noKind l kind e with
    | true => rw [h2, if_pos rfl] at h; exact absurd h (pageC_ne kind)
    | false =>
      rw [h2, if_neg (by decide)] at h
      cases h3 : noPriv l p kind e with
      | true => rw [h3, if_pos rfl] at h; exact absurd h (pageC_ne kind)
      | false =>
        rw [h3, if_neg (by decide)] at h
        refine ⟨rfl, rfl, rfl, ?_⟩
        cases h4 : (wantV e kind != e) with
        | true =>
          rw [h4, if_pos rfl] at h
          cases h5 : permRest l 1 x (lastOf x 8) 3 4 0 with
          | true => exact .inl ⟨rfl, rfl, rfl⟩
          | false => rw [h5, if_neg (by decide)] at h; exact absurd h (faultC_ne kind)
        | false => exact .inr ⟨rfl, rfl⟩

theorem walkL_ends (zs : List Int) (n : Nat) (l : List Int) (p va kind : Int) : ∀ lv T, lv ≤ 2 →
    ((walkL zs n l p va kind lv T).code = 0 ∧ (∃ e k, k ≤ 2 ∧ (walkL zs n l p va kind lv T).addr = leadV e va k) ∧ ((walkL zs n l p va kind lv T).marked = false → walkL zs n l p va kind lv T = ⟨(walkL zs n l p va kind lv T).addr, 0, false, 0, 0⟩)) ∨
    ((walkL zs n l p va kind lv T).code ≠ 0 ∧ (walkL zs n l p va kind lv T).addr = 0 ∧ (walkL zs n l p va kind lv T).marked = false) := by
  have leaf : ∀ e x k, k ≤ 2 → ((leafV l p va kind e x k).code = 0 ∧ (∃ e' k', k' ≤ 2 ∧ (leafV l p va kind e x k).addr = leadV e' va k') ∧ ((leafV l p va kind e x k).marked = false → leafV l p va kind e x k = ⟨(leafV l p va kind e x k).addr, 0, false, 0, 0⟩)) ∨ ((leafV l p va kind e x k).code ≠ 0 ∧ (leafV l p va kind e x k).addr = 0 ∧ (leafV l p va kind e x k).marked = false) := by
    intro e x k hk
    by_cases hc : (leafV l p va kind e x k).code = 0
    · obtain ⟨_, _, _, ⟨_, _, hL⟩ | ⟨_, hL⟩⟩ := leaf_led _ _ _ _ _ _ _ hc
      · rw [hL]; exact .inl ⟨rfl, ⟨e, k, hk, rfl⟩, fun h => by cases h⟩
      · rw [hL]; exact .inl ⟨rfl, ⟨e, k, hk, rfl⟩, fun _ => rfl⟩
    · refine .inr ⟨hc, ?_⟩
      unfold leafV at hc ⊢
      split
      · exact ⟨rfl, rfl⟩
      · rename_i h1
        rw [if_neg h1] at hc
        split
        · exact ⟨rfl, rfl⟩
        · rename_i h2
          rw [if_neg h2] at hc
          split
          · exact ⟨rfl, rfl⟩
          · rename_i h3
            rw [if_neg h3] at hc
            split
            · rename_i h4
              rw [if_pos h4] at hc
              split
              · rename_i h5
                rw [if_pos h5] at hc
                exact absurd rfl hc
              · exact ⟨rfl, rfl⟩
            · rename_i h4
              rw [if_neg h4] at hc
              exact absurd rfl hc
  intro lv
  induction lv with
  | zero =>
    intro T _
    rw [walkL]
    split
    · split
      · split
        · exact .inr ⟨pageC_ne kind, rfl, rfl⟩
        · split
          · exact .inr ⟨pageC_ne kind, rfl, rfl⟩
          · exact leaf _ _ _ (by omega)
      · exact .inr ⟨faultC_ne kind, rfl, rfl⟩
    · exact .inr ⟨faultC_ne kind, rfl, rfl⟩
  | succ lv ih =>
    intro T hlv
    rw [walkL]
    split
    · split
      · split
        · exact .inr ⟨pageC_ne kind, rfl, rfl⟩
        · split
          · split
            · exact .inr ⟨pageC_ne kind, rfl, rfl⟩
            · exact ih _ (by omega)
          · exact leaf _ _ _ (by omega)
      · exact .inr ⟨faultC_ne kind, rfl, rfl⟩
    · exact .inr ⟨faultC_ne kind, rfl, rfl⟩

structure MW (M : MV) : Prop where
  cs : ∀ j, U (M.cs.getD j 0)
  ram : ∀ y ∈ M.ram, (Lit.int .u8 y).wf = true
  xs : ∀ y ∈ M.d.xs, (Lit.int .u8 y).wf = true
  ys : ∀ y ∈ M.d.ys, (Lit.int .u8 y).wf = true

theorem MIn.mw {w : World} {M : MV} {A : MA} (h : MIn w M A) : MW M := ⟨fun j => word_bd9 h.wcs j, h.wram, h.wxs, h.wys⟩

theorem wf8q_bd {y : Int} (h : (Lit.int .u8 y).wf = true) : 0 ≤ y ∧ y ≤ 255 := by
  simpa [Lit.wf, IntKind.min, IntKind.max, IntKind.signed, IntKind.bits] using h

theorem bd_wf8 {y : Int} (h : 0 ≤ y ∧ y ≤ 255) : (Lit.int .u8 y).wf = true := by
  simpa [Lit.wf, IntKind.min, IntKind.max, IntKind.signed, IntKind.bits] using h

theorem put_wf (zs : List Int) (h : ∀ y ∈ zs, (Lit.int .u8 y).wf = true) (f : Nat) (x : Int) (k : Nat) : ∀ y ∈ put zs f x k, (Lit.int .u8 y).wf = true := fun y hy => bd_wf8 (put_bd zs (fun z hz => wf8q_bd (h z hz)) f x k y hy)

theorem mark_wf (zs : List Int) (h : ∀ y ∈ zs, (Lit.int .u8 y).wf = true) (F : Fd) : ∀ y ∈ markB zs F, (Lit.int .u8 y).wf = true := by
  unfold markB
  split
  · exact put_wf zs h _ _ _
  · exact h

theorem mach_parts {M : MV} (h : machB M = true) : M.cs.length = 22 ∧ csrsOk 22 M.cs = true ∧ privB M.pr = true ∧ ramOkB M.ram.length = true ∧ okD M.d.xs.length M.d.ys.length M.d.ir = true ∧ bellsB M = true := by
  unfold machB at h
  simp only [Bool.and_eq_true] at h
  obtain ⟨⟨⟨⟨⟨⟨_, _⟩, h3⟩, h4⟩, h5⟩, _⟩, h7⟩ := h
  have h22 := legal_22 h3
  have h6 := h3
  unfold legalB at h6
  rw [Bool.and_eq_true] at h6
  rw [h22] at h6
  exact ⟨h22, h6.1, h6.2, h4, h5, h7⟩

theorem bit2m (s : Int) (h : U s) : s / 2048 % 4 = (if bt s 11 = true then 1 else 0) + 2 * (if bt s 12 = true then 1 else 0) := by
  have e1 : bitAt s 11 = s / 2 ^ 11 % 2 ^ 1 := by
    have hd := U_div s h 11
    exact and_low (s / 2 ^ 11) 1 hd.1 hd.2 (by omega)
  have e2 : bitAt s 12 = s / 2 ^ 12 % 2 ^ 1 := by
    have hd := U_div s h 12
    exact and_low (s / 2 ^ 12) 1 hd.1 hd.2 (by omega)
  have q1 := bitAt_bt s h 11
  have q2 := bitAt_bt s h 12
  rw [← q1, ← q2, e1, e2]
  omega

theorem mpp_priv (s : Int) (hU : U s) (h0 : okAt 0 s = true) : privB (wrap64 (bits .and .u64 (s / 2048) 3)) = true := by
  have hm : mst s = s := by
    unfold okAt legal at h0
    simpa using h0
  have hc := ((mst_ok _ hU).1 hm).2
  have hd := U_div s hU 11
  have e0 := and_low (s / 2 ^ 11) 2 hd.1 hd.2 (by omega)
  have e : bits .and .u64 (s / 2048) 3 = s / 2048 % 4 := e0
  rw [e, bit2m s hU]
  revert hc
  cases bt s 11 <;> cases bt s 12 <;> intro hc
  · decide +kernel
  · cases hc
  · decide +kernel
  · decide +kernel

theorem eff_priv {l : List Int} (hU : U (l.getD 0 0)) (hok : csrsOk 22 l = true) {p : Int} (hp : privB p = true) (kind : Int) : privB (effV l p kind) = true := by
  unfold effV
  split
  · have h0 : okAt 0 (l.getD 0 0) = true := by
      unfold csrsOk okRest at hok
      simp only [Bool.and_eq_true] at hok
      exact hok.2.1
    exact mpp_priv _ hU h0
  · exact hp

theorem walkV_U (zs : List Int) (n : Nat) (l : List Int) (p va kind : Int) (h : U va) : U (walkV zs n l p va kind).addr := by
  unfold walkV
  split
  · exact h
  · split
    · exact ⟨by show (0 : Int) ≤ 0; omega, by show (0 : Int) < _; omega⟩
    · rcases walkL_ends zs n l p va kind 2 (topT l) (by omega) with ⟨_, ⟨e, k, _, h2⟩, _⟩ | ⟨_, h2, _⟩
      · rw [h2]; exact U_bits _ _ _
      · rw [h2]; exact ⟨by omega, by omega⟩

theorem last_small (x s : Int) (h1 : 1 ≤ s) (h8 : s ≤ 8) : lastOf x s = IntKind.u64.wrap (IntKind.u64.wrap (x + s) - 1) := by
  unfold lastOf
  rw [show IntKind.u64.wrap s = s by rw [IntKind.wrap_u64]; omega]

theorem implLegal_any (a : Option Addr) (n cap : Nat) (l : List Int) (p : Int) (w : World) (hz : l.length = n) (hs : Sl .u64 w a l) (hl : ∀ j, U (l.getD j 0)) :
    Calls Tryz.prog 49 #[.slice a n cap, .int .i64 p] w fun e w' => e = .returned (.bool (legalB n l p)) ∧ Below w.heap.size w w' := by
  have HO : Hid (Calls Tryz.prog 59 #[.slice a n cap] w fun e w' => e = .returned (.bool (csrsOk n l)) ∧ Below w.heap.size w w') := by
    have := implCsrsOk_any a n cap l w hz hs hl
    rw [fitsOk_eq n l hl] at this
    exact this
  have HP : Hid (∀ w, Calls Tryz.prog 106 #[.int .i64 p] w fun e w' => e = .returned (.bool (privB p)) ∧ w' = w) := privOk_any p
  have F : Hid (legalB n l p = (csrsOk n l && privB p)) := (rfl : legalB n l p = _)
  clear hs hz hl
  generalize csrsOk n l = q at *
  generalize privB p = r at *
  cases q with
  | false =>
    go_enter Tryz.func49, Tryz.ntmps49
    go_wp2_with fail
    refine HO.out.mono ?_
    rintro e w1 ⟨rfl, hb⟩
    go_wp2_with fail
    go_ret
    exact ⟨by rw [F.out]; rfl, hb⟩
  | true =>
    go_enter Tryz.func49, Tryz.ntmps49
    go_wp2_with fail
    refine HO.out.mono ?_
    rintro e w1 ⟨rfl, hb⟩
    go_wp2_with fail
    refine (HP.out _).mono ?_
    rintro e w2 ⟨rfl, hw2⟩
    subst hw2
    go_wp2_with fail
    go_ret
    exact ⟨by rw [F.out]; rfl, hb⟩

end Go.Proofs.YtilhcfhcdplicaaGreatDoor
