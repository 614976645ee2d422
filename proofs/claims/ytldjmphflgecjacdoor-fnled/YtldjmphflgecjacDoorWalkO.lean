/- The program's Walk: what it gives up with is caught at the face. The program's Walk, whole. -/
import Derived.Test.YtldjmphflgecjacDoorWalkL
import Derived.Recover
namespace Go.Proofs.YtldjmphflgecjacDoor
open Go.RowKit
set_option linter.unusedVariables false

theorem codeOf_any (c : Int) (w : World) : Calls Tryd.prog 47 #[.iface 91 (.int .i64 c)] w fun r w' => r = .returned (.int .i64 c) ∧ w' = w := by
  have ta : ∀ (c : Int) (w : World), (Instr.typeAssert (.iface 91 (.int .i64 c)) 20 91 false).run Tryd.prog w = .ok (.int .i64 c) w := fun c w => by kernel_rfl
  go_enter Tryd.func47, Tryd.ntmps47
  go_wp2_with fail
  go_ret
  exact ⟨rfl, rfl⟩

theorem catch_idle (p q r s : Addr) (w : World) :
    CallsD Tryd.prog 46 #[.pointer (some p), .pointer (some q), .pointer (some r), .pointer (some s)] .returning w fun e u' w' => e = .returned (.tuple #[]) ∧ u' = .returning ∧ w' = w := by
  have hne : ∀ w, (binOp .neq 20 .nilIface .nilIface).run Tryd.prog w = .ok (.bool false) w := fun w => by kernel_rfl
  refine callsD_of_wpS Tryd.func46 rfl fun c₀ cs hu => ?_
  apply wpS_seq
  apply wpS_region
  simp [wpOpsS, go_sem, recoverD, hu, Tryd.ntmps46, Exit.thenS]
  refine wpS_of_wp ?_
  go_wp2_with fail
  cases c₀
  simp_all [bodyPostS, results, Tryd.results46]

/-- The face's variables: the memory, where it leads, the code, the memory behind it. -/
structure Face (w : World) (B g n rc : Nat) : Prop where
  r0 : w.heap[B]? = some (.cells #[.slice (some ⟨g, 0, none⟩) n rc] 22 (0, 0))
  r1 : ∃ v, w.heap[B + 1]? = some (.cells #[v] 25 (0, 0))
  r2 : ∃ v, w.heap[B + 1 + 1]? = some (.cells #[v] 2 (0, 0))
  r3 : ∃ v, w.heap[B + 1 + 1 + 1]? = some (.cells #[v] 22 (0, 0))

theorem catch_panicking (B g n rc : Nat) (zs : List Int) (c : Int) (older : List PanicEntry) (w : World) (hF : Face w B g n rc) (hz : zs.length = n) (hn0 : 1 ≤ n) (hn : n ≤ 1048576) (hs : Sl .u8 w (some ⟨g, 0, none⟩) zs) :
    CallsD Tryd.prog 46 #[.pointer (some ⟨B, 0, none⟩), .pointer (some ⟨B + 1, 0, none⟩), .pointer (some ⟨B + 1 + 1, 0, none⟩), .pointer (some ⟨B + 1 + 1 + 1, 0, none⟩)] (.panicking ({ v := .iface 91 (.int .i64 c), recovered := false } :: older)) w fun e u' w' =>
      e = .returned (.tuple #[]) ∧ u' = .panicking ({ v := .iface 91 (.int .i64 c), recovered := true } :: older) ∧ ∃ (w8 : World) (a' : Option Addr) (c' : Nat), Fresh w w8 zs a' n c' ∧ w' = ((w8.setCell ⟨B + 1, 0, none⟩ (.int .u64 0)).setCell ⟨B + 1 + 1, 0, none⟩ (.int .i64 c)).setCell ⟨B + 1 + 1 + 1, 0, none⟩ (.slice a' n c') := by
  have hne : ∀ (v : Value) (w : World), (binOp .neq 20 (.iface 91 v) .nilIface).run Tryd.prog w = .ok (.bool true) w := fun v w => by kernel_rfl
  obtain ⟨r0, ⟨v1, r1⟩, ⟨v2, r2⟩, ⟨v3, r3⟩⟩ := hF
  have k0 : w.cell? ⟨B, 0, none⟩ = some (.slice (some ⟨g, 0, none⟩) n rc) := by simp [World.cell?, r0]
  have HCL : Hid (∀ w', Below w.heap.size w w' → Calls Tryd.prog 48 #[.slice (some ⟨g, 0, none⟩) n rc] w' fun r w'' => ∃ (a' : Option Addr) (c' : Nat), r = .returned (.slice a' n c') ∧ Hid (Fresh w w'' zs a' n c') ∧
      (w''.cell? ⟨B + 1, 0, none⟩ = some v1 ∧ w''.frozen? ⟨B + 1, 0, none⟩ = false) ∧ (w''.cell? ⟨B + 1 + 1, 0, none⟩ = some v2 ∧ w''.frozen? ⟨B + 1 + 1, 0, none⟩ = false) ∧ (w''.cell? ⟨B + 1 + 1 + 1, 0, none⟩ = some v3 ∧ w''.frozen? ⟨B + 1 + 1 + 1, 0, none⟩ = false)) := fun w' hb => (clone_any g n rc zs w' hz hn0 hn (hs.below hb)).mono fun r w'' ⟨a', c', e1, e2, e3⟩ => by
    have q1 := stays (below_trans hb e3) r1
    have q2 := stays (below_trans hb e3) r2
    have q3 := stays (below_trans hb e3) r3
    exact ⟨a', c', e1, ⟨own_low e2 hb.size, below_trans hb e3⟩, ⟨by simp [World.cell?, q1], by simp [World.frozen?, q1]⟩, ⟨by simp [World.cell?, q2], by simp [World.frozen?, q2]⟩, ⟨by simp [World.cell?, q3], by simp [World.frozen?, q3]⟩⟩
  have HCO : Hid (∀ w, Calls Tryd.prog 47 #[.iface 91 (.int .i64 c)] w fun r w' => r = .returned (.int .i64 c) ∧ w' = w) := codeOf_any c
  have BD : Below w.heap.size w w.drew := (Below.refl _ _).drew
  clear r0 r1 r2 r3 hz hn hs
  refine callsD_of_wpS Tryd.func46 rfl fun c₀ cs hu => ?_
  apply wpS_seq
  apply wpS_region
  simp [wpOpsS, go_sem, recoverD, hu, Tryd.ntmps46, Exit.thenS]
  refine wpS_of_wp ?_
  go_wp2_with fail
  · go_region_with (first | (go_at_call 47; with_reducible refine (HCO.out _).mono ?_; rintro e w1 ⟨rfl, hw1⟩; subst hw1) | (go_at_call 48; with_reducible refine (HCL.out _ BD).mono ?_; rintro e w8 ⟨a', c', rfl, fr8, ⟨j1, f1⟩, ⟨j2, f2⟩, ⟨j3, f3⟩⟩))
    all_goals exact ⟨rfl, _, rfl, _, results_none rfl _ _ _, rfl, rfl, w8, a', c', fr8.out, rfl⟩

/-- New memory stays so where a variable that lies elsewhere is written. -/
theorem own_set {w : World} {base n c : Nat} {t : TypeId} {a : Option Addr} {xs : List Value} (h : w.ownsRow base t 1 (.slice a n c) n xs) (p : Addr) (v : Value) (hp : p.block < base) : (w.setCell p v).ownsRow base t 1 (.slice a n c) n xs := by
  refine ⟨h.1, ?_⟩
  rcases h.2 with h2 | ⟨g, cap, cur, h1, h2, h3, h4⟩
  · exact .inl h2
  · exact .inr ⟨g, cap, cur, h1, h2, (Below.heap_setCell w p v g (by omega)).trans h3, h4⟩

theorem own_nilB (w : World) (base : Nat) : w.ownsRow base 5 1 (.slice none 0 0) 0 (([] : List Int).map (Value.int .u8)) := ⟨rfl, .inl ⟨rfl, rfl⟩⟩

theorem rows4 {w w2 : World} {o1 o2 o3 o4 : Obj} (hb : Below ((((w.alloc o1).alloc o2).alloc o3).alloc o4).heap.size ((((w.alloc o1).alloc o2).alloc o3).alloc o4) w2) :
    w2.heap[w.heap.size]? = some o1 ∧ w2.heap[w.heap.size + 1]? = some o2 ∧ w2.heap[w.heap.size + 1 + 1]? = some o3 ∧ w2.heap[w.heap.size + 1 + 1 + 1]? = some o4 := by
  have e2 := heap_alloc_new (w.alloc o1) o2
  have e3 := heap_alloc_new ((w.alloc o1).alloc o2) o3
  have e4 := heap_alloc_new (((w.alloc o1).alloc o2).alloc o3) o4
  rw [World.size_alloc] at e2
  rw [World.size_alloc, World.size_alloc] at e3
  rw [World.size_alloc, World.size_alloc, World.size_alloc] at e4
  exact ⟨stays hb ((Below.heap_alloc _ _ _ (by simp only [World.size_alloc]; omega)).trans ((Below.heap_alloc _ _ _ (by simp only [World.size_alloc]; omega)).trans ((Below.heap_alloc _ _ _ (by simp only [World.size_alloc]; omega)).trans (heap_alloc_new w o1)))),
    stays hb ((Below.heap_alloc _ _ _ (by simp only [World.size_alloc]; omega)).trans ((Below.heap_alloc _ _ _ (by simp only [World.size_alloc]; omega)).trans e2)), stays hb ((Below.heap_alloc _ _ _ (by simp only [World.size_alloc]; omega)).trans e3), stays hb e4⟩

theorem cell1 {w : World} {g : Nat} {v : Value} {t : TypeId} (h : w.heap[g]? = some (.cells #[v] t (0, 0))) : w.cell? ⟨g, 0, none⟩ = some v ∧ w.frozen? ⟨g, 0, none⟩ = false := ⟨by simp [World.cell?, h], by simp [World.frozen?, h]⟩

set_option maxRecDepth 100000 in
set_option maxHeartbeats 3200000 in
theorem implWalk_no (ra : Option Addr) (n rcap : Nat) (la : Option Addr) (m cap : Nat) (l : List Int) (p va kind : Int) (w : World) (hn : n ≤ 1048576) (hlz : l.length = m) (hl : Sl .u64 w la l) (hlU : ∀ j, U (l.getD j 0)) (hok : walkOk n m l p kind = false) :
    Calls Tryd.prog 13 #[.slice ra n rcap, .slice la m cap, .int .i64 p, .int .u64 va, .int .i64 kind] w fun e w' => e = .returned (.tuple #[.int .u64 0, .int .i64 (if kindIn kind = true then faultC kind else 1), .slice none 0 0]) ∧ Below w.heap.size w w' := by
  have HR : Hid (∀ w, Calls Tryd.prog 44 #[.slice ra n rcap] w fun e w' => e = .returned (.bool (ramOkB n)) ∧ w' = w) := fun w => implRamOk_any ra n rcap w hn
  have HG : Hid (∀ w', Below w.heap.size w w' → Calls Tryd.prog 24 #[.slice la m cap, .int .i64 p] w' fun e w'' => e = .returned (.bool (legalB m l p)) ∧ Below w'.heap.size w' w'') := fun w' hb => implLegal_any la m cap l p w' hlz (hl.below hb) hlU
  have HK : Hid (∀ w, Calls Tryd.prog 26 #[.int .i64 kind] w fun e w' => e = .returned (.bool (kindIn kind)) ∧ w' = w) := fun w => by
    have := kindOk_any kind w
    rw [kind_eq] at this
    exact this
  have HA : Hid (∀ w, Calls Tryd.prog 45 #[.int .i64 kind] w fun e w' => e = .returned (.int .i64 (if kindIn kind = true then faultC kind else 1)) ∧ w' = w) := fun w => by
    have := accessCode_any kind w
    have e : accC kind = if kindIn kind = true then faultC kind else 1 := by
      by_cases h : 1 ≤ kind ∧ kind ≤ 3
      · rw [accC_in kind h.1 h.2, if_pos (by unfold kindIn; simpa using h)]
      · rw [accC_out kind h, if_neg (by unfold kindIn; simpa using h)]
    rw [e] at this
    exact this
  have OK0 : (ramOkB n && legalB m l p && kindIn kind) = false := hok
  generalize (if kindIn kind = true then faultC kind else 1) = fk at *
  generalize kindIn kind = kb at *
  generalize ramOkB n = rb at *
  generalize legalB m l p = lb at *
  clear hl hlz hn hok hlU
  have hB4 : ∀ o1 o2 o3 o4, Below w.heap.size w ((((w.alloc o1).alloc o2).alloc o3).alloc o4) := fun o1 o2 o3 o4 => ((((Below.refl _ _).alloc (Nat.le_refl _) o1).alloc (by simp) o2).alloc (by simp; omega) o3).alloc (by simp; omega) o4
  cases rb with
  | false =>
    go_enter_defers Tryd.func13, Tryd.ntmps13
    go_wp2_with fail
    refine (HR.out _).mono ?_
    rintro e w1 ⟨rfl, hw1⟩
    subst hw1
    go_wp2_with fail
    refine (HA.out _).mono ?_
    rintro e w1 ⟨rfl, hw1⟩
    subst hw1
    go_wp2_with fail
    refine ⟨_, ?_, rfl, hB4 _ _ _ _⟩
    simp [results, Tryd.results13, go_sem]
  | true =>
    cases lb with
    | false =>
      go_enter_defers Tryd.func13, Tryd.ntmps13
      go_wp2_with fail
      refine (HR.out _).mono ?_
      rintro e w1 ⟨rfl, hw1⟩
      subst hw1
      go_wp2_with fail
      refine (HG.out _ (hB4 _ _ _ _)).mono ?_
      rintro e w2 ⟨rfl, hb2⟩
      obtain ⟨q0, q1, q2, q3⟩ := rows4 hb2
      have HB2 := hid_mk (below_trans (hB4 _ _ _ _) hb2)
      obtain ⟨j0, f0⟩ := cell1 q0
      obtain ⟨j1, f1⟩ := cell1 q1
      obtain ⟨j2, f2⟩ := cell1 q2
      obtain ⟨j3, f3⟩ := cell1 q3
      clear q0 q1 q2 q3 hb2
      go_wp2_with fail
      refine (HA.out _).mono ?_
      rintro e w3 ⟨rfl, hw3⟩
      have hw3' := hw3.symm
      subst hw3'
      go_wp2_with fail
      refine ⟨_, ?_, rfl, ((HB2.out.setCell (by simp) _).setCell (by simp; omega) _).setCell (by simp; omega) _⟩
      simp [results, Tryd.results13, go_sem, j1, j2, j3]
    | true =>
      cases kb with
      | false =>
        go_enter_defers Tryd.func13, Tryd.ntmps13
        go_wp2_with fail
        refine (HR.out _).mono ?_
        rintro e w1 ⟨rfl, hw1⟩
        subst hw1
        go_wp2_with fail
        refine (HG.out _ (hB4 _ _ _ _)).mono ?_
        rintro e w2 ⟨rfl, hb2⟩
        obtain ⟨q0, q1, q2, q3⟩ := rows4 hb2
        have HB2 := hid_mk (below_trans (hB4 _ _ _ _) hb2)
        obtain ⟨j0, f0⟩ := cell1 q0
        obtain ⟨j1, f1⟩ := cell1 q1
        obtain ⟨j2, f2⟩ := cell1 q2
        obtain ⟨j3, f3⟩ := cell1 q3
        clear q0 q1 q2 q3 hb2
        go_wp2_with fail
        refine (HK.out _).mono ?_
        rintro e w3 ⟨rfl, hw3⟩
        have hw3' := hw3.symm
        subst hw3'
        go_wp2_with fail
        refine (HA.out _).mono ?_
        rintro e w3 ⟨rfl, hw3⟩
        have hw3' := hw3.symm
        subst hw3'
        go_wp2_with fail
        refine ⟨_, ?_, rfl, ((HB2.out.setCell (by simp) _).setCell (by simp; omega) _).setCell (by simp; omega) _⟩
        simp [results, Tryd.results13, go_sem, j1, j2, j3]
      | true => cases OK0

end Go.Proofs.YtldjmphflgecjacDoor

namespace Go.Proofs.YtldjmphflgecjacDoor
open Go.RowKit
set_option linter.unusedVariables false

theorem leaf_fd (l : List Int) (p va k e x : Int) (lv : Nat) : (leafV l p va k e x lv).code = 0 ∨ ((leafV l p va k e x lv).addr = 0 ∧ (leafV l p va k e x lv).marked = false) := by
  unfold leafV
  split
  · exact .inr ⟨rfl, rfl⟩
  · split
    · exact .inr ⟨rfl, rfl⟩
    · split
      · exact .inr ⟨rfl, rfl⟩
      · split
        · split
          · exact .inl rfl
          · exact .inr ⟨rfl, rfl⟩
        · exact .inl rfl

theorem walkL_fd (zs : List Int) (n : Nat) (l : List Int) (p va k : Int) : ∀ (lv : Nat) (T : Int), (walkL zs n l p va k lv T).code = 0 ∨ ((walkL zs n l p va k lv T).addr = 0 ∧ (walkL zs n l p va k lv T).marked = false) := by
  intro lv
  induction lv with
  | zero =>
    intro T
    rw [walkL]
    split
    · split
      · split
        · exact .inr ⟨rfl, rfl⟩
        · split
          · exact .inr ⟨rfl, rfl⟩
          · exact leaf_fd _ _ _ _ _ _ _
      · exact .inr ⟨rfl, rfl⟩
    · exact .inr ⟨rfl, rfl⟩
  | succ lv ih =>
    intro T
    rw [walkL]
    split
    · split
      · split
        · exact .inr ⟨rfl, rfl⟩
        · split
          · split
            · exact .inr ⟨rfl, rfl⟩
            · exact ih _
          · exact leaf_fd _ _ _ _ _ _ _
      · exact .inr ⟨rfl, rfl⟩
    · exact .inr ⟨rfl, rfl⟩

/-- A walk that comes to nothing leads nowhere and marks nothing. -/
theorem walk_fd (zs : List Int) (n : Nat) (l : List Int) (p va k : Int) (h : ¬ (walkV zs n l p va k).code = 0) : (walkV zs n l p va k).addr = 0 ∧ markB zs (walkV zs n l p va k) = zs := by
  have h2 : (walkV zs n l p va k).code = 0 ∨ ((walkV zs n l p va k).addr = 0 ∧ (walkV zs n l p va k).marked = false) := by
    unfold walkV
    split
    · exact .inl rfl
    · split
      · exact .inr ⟨rfl, rfl⟩
      · exact walkL_fd _ _ _ _ _ _ _ _
  rcases h2 with h2 | ⟨h2, h3⟩
  · exact absurd h2 h
  · exact ⟨h2, by unfold markB; rw [h3]; rfl⟩

theorem same1 {w : World} {p : Addr} {u : Value} (v : Value) (h : w.cell? p = some u) : (w.setCell p v).cell? p = some v := World.cell?_setCell_same w p v h

theorem other1 {w : World} {p q : Addr} {u : Value} (v : Value) (h : w.cell? q = some u) (hne : p.block ≠ q.block) : (w.setCell p v).cell? q = some u := by
  rw [World.cell?_setCell_other w p q v (fun e => hne (by rw [e]))]
  exact h

set_option maxRecDepth 100000 in
set_option maxHeartbeats 3200000 in
theorem implWalk_yes (g n rcap : Nat) (zs : List Int) (b off cap : Nat) (l : List Int) (p va kind : Int) (w : World) (W : Wk w g n rcap zs b off cap l p va kind) :
    Calls Tryd.prog 13 #[.slice (some ⟨g, 0, none⟩) n rcap, .slice (some ⟨b, off, none⟩) 22 cap, .int .i64 p, .int .u64 va, .int .i64 kind] w fun e w' => ∃ (a' : Option Addr) (c : Nat), e = .returned (.tuple #[.int .u64 (walkV zs n l p va kind).addr, .int .i64 (walkV zs n l p va kind).code, .slice a' n c]) ∧
      w'.ownsRow w.heap.size 5 1 (.slice a' n c) n ((markB zs (walkV zs n l p va kind)).map (Value.int .u8)) ∧ Below w.heap.size w w' := by
  have hbd := ramOkB_bd W.hr
  have HW := hid_mk W
  have HR : Hid (∀ w, Calls Tryd.prog 44 #[.slice (some ⟨g, 0, none⟩) n rcap] w fun e w' => e = .returned (.bool true) ∧ w' = w) := fun w => by
    have := implRamOk_any (some ⟨g, 0, none⟩) n rcap w (by omega)
    rw [W.hr] at this
    exact this
  have HG : Hid (∀ w', Below w.heap.size w w' → Calls Tryd.prog 24 #[.slice (some ⟨b, off, none⟩) 22 cap, .int .i64 p] w' fun e w'' => e = .returned (.bool true) ∧ Below w'.heap.size w' w'') := fun w' hb => by
    have := implLegal_any (some ⟨b, off, none⟩) 22 cap l p w' W.hlz (W.hl.below hb) W.hU
    rw [W.hg] at this
    exact this
  have HK : Hid (∀ w, Calls Tryd.prog 26 #[.int .i64 kind] w fun e w' => e = .returned (.bool true) ∧ w' = w) := fun w => by
    have := kindOk_any kind w
    rw [kind_eq, decide_eq_true ⟨W.hk1, W.hk3⟩] at this
    exact this
  have HLD : Hid (∀ w', Below w.heap.size w w' → Calls Tryd.prog 49 #[.agg #[.slice (some ⟨g, 0, none⟩) n rcap, .slice (some ⟨b, off, none⟩) 22 cap, .int .i64 p, .int .u64 va, .int .i64 kind]] w' fun r w'' => fdQ (walkV zs n l p va kind) zs n w' r w'') := fun w' hb => lead_any g n rcap zs b off cap l p va kind w' (W.below hb)
  have hB4 : ∀ o1 o2 o3 o4, Below w.heap.size w ((((w.alloc o1).alloc o2).alloc o3).alloc o4) := fun o1 o2 o3 o4 => ((((Below.refl _ _).alloc (Nat.le_refl _) o1).alloc (by simp) o2).alloc (by simp; omega) o3).alloc (by simp; omega) o4
  have hmf : ∀ (fn : Fn) (first cap : Array Value) (w : World), (Instr.makeFunc fn first cap).run Tryd.prog w = .ok (.func fn first cap) w := fun _ _ _ _ => rfl
  have HNO := hid_mk (walk_fd zs n l p va kind)
  generalize walkV zs n l p va kind = V at *
  clear W
  go_enter_defers Tryd.func13, Tryd.ntmps13
  go_wp2_with fail
  refine (HR.out _).mono ?_
  rintro e w1 ⟨rfl, hw1⟩
  subst hw1
  go_wp2_with fail
  refine (HG.out _ (hB4 _ _ _ _)).mono ?_
  rintro e w2 ⟨rfl, hb2⟩
  obtain ⟨q0, q1, q2, q3⟩ := rows4 hb2
  have Q0 := hid_mk q0
  have Q1 := hid_mk q1
  have Q2 := hid_mk q2
  have Q3 := hid_mk q3
  have HB2 := hid_mk (below_trans (hB4 _ _ _ _) hb2)
  obtain ⟨j0, f0⟩ := cell1 q0
  clear q0 q1 q2 q3 hb2
  go_wp2_with fail
  refine (HK.out _).mono ?_
  rintro e w3 ⟨rfl, hw3⟩
  have hw3' := hw3.symm
  subst hw3'
  have HB3 := hid_mk (HB2.out.alloc HB2.out.size (.cells #[.slice (some ⟨g, 0, none⟩) n rcap, .slice (some ⟨b, off, none⟩) 22 cap, .int .i64 p, .int .u64 va, .int .i64 kind] 65))
  go_wp2_with fail
  refine (HLD.out _ HB3.out).mono ?_
  rintro r w4 hq
  unfold fdQ at hq
  by_cases hc : V.code = 0
  · rw [if_pos hc] at hq
    obtain ⟨a', c, rfl, fr⟩ := hq
    have FR := hid_mk fr
    have FS := hid_mk fr.2.size
    obtain ⟨j1, f1⟩ := cell1 (stays fr.2 (row_al Q1.out _))
    obtain ⟨j2, f2⟩ := cell1 (stays fr.2 (row_al Q2.out _))
    obtain ⟨j3, f3⟩ := cell1 (stays fr.2 (row_al Q3.out _))
    clear fr j0 f0
    obtain ⟨ad, had⟩ : ∃ ad, V.addr = ad := ⟨_, rfl⟩
    rw [had]
    have HAD := hid_mk had
    clear had
    go_wp2_with fail
    go_region
    go_wp2_with fail
    refine leaves_cons (f := 46) (args := #[.pointer (some ⟨w.heap.size, 0, none⟩), .pointer (some ⟨w.heap.size + 1, 0, none⟩), .pointer (some ⟨w.heap.size + 1 + 1, 0, none⟩), .pointer (some ⟨w.heap.size + 1 + 1 + 1, 0, none⟩)]) (by simp) (by simp [go_sem]) ?_
    refine (catch_idle _ _ _ _ _).mono ?_
    rintro e u' w9 ⟨rfl, rfl, rfl⟩
    have hn3 : w.heap.size + 1 + 1 + 1 < (w2.alloc (.cells #[.slice (some ⟨g, 0, none⟩) n rcap, .slice (some ⟨b, off, none⟩) 22 cap, .int .i64 p, .int .u64 va, .int .i64 kind] 65)).heap.size := by
      have := (Array.getElem?_eq_some_iff.1 Q3.out).1
      rw [World.size_alloc]
      omega
    have t1 := other1 (p := ⟨w.heap.size + 1 + 1 + 1, 0, none⟩) (.slice a' n c) (other1 (p := ⟨w.heap.size + 1 + 1, 0, none⟩) (.int .i64 0) (same1 (.int .u64 ad) (other1 (p := ⟨w.heap.size + 1 + 1 + 1, 0, none⟩) (.slice a' n c) (same1 (.int .u64 ad) j1) (by dsimp only; omega))) (by dsimp only; omega)) (by dsimp only; omega)
    have t2 := other1 (p := ⟨w.heap.size + 1 + 1 + 1, 0, none⟩) (.slice a' n c) (same1 (.int .i64 0) (other1 (p := ⟨w.heap.size + 1, 0, none⟩) (.int .u64 ad) (other1 (p := ⟨w.heap.size + 1 + 1 + 1, 0, none⟩) (.slice a' n c) (other1 (p := ⟨w.heap.size + 1, 0, none⟩) (.int .u64 ad) j2 (by dsimp only; omega)) (by dsimp only; omega)) (by dsimp only; omega))) (by dsimp only; omega)
    have t3 := same1 (.slice a' n c) (other1 (p := ⟨w.heap.size + 1 + 1, 0, none⟩) (.int .i64 0) (other1 (p := ⟨w.heap.size + 1, 0, none⟩) (.int .u64 ad) (same1 (.slice a' n c) (other1 (p := ⟨w.heap.size + 1, 0, none⟩) (.int .u64 ad) j3 (by dsimp only; omega))) (by dsimp only; omega)) (by dsimp only; omega))
    refine ⟨.tuple #[.int .u64 ad, .int .i64 0, .slice a' n c], ?_, a', c, by rw [hc, HAD.out], ?_, ?_⟩
    · generalize (((((w4.setCell ⟨w.heap.size + 1, 0, none⟩ (.int .u64 ad)).setCell ⟨w.heap.size + 1 + 1 + 1, 0, none⟩ (.slice a' n c)).setCell ⟨w.heap.size + 1, 0, none⟩ (.int .u64 ad)).setCell ⟨w.heap.size + 1 + 1, 0, none⟩ (.int .i64 0)).setCell ⟨w.heap.size + 1 + 1 + 1, 0, none⟩ (.slice a' n c)) = W9 at *
      simp [results, Tryd.results13, go_sem, t1, t2, t3]
    · have o1 := own_set FR.out.1 ⟨w.heap.size + 1, 0, none⟩ (.int .u64 ad) (by show w.heap.size + 1 < _; omega)
      have o2 := own_set o1 ⟨w.heap.size + 1 + 1 + 1, 0, none⟩ (.slice a' n c) hn3
      have o3 := own_set o2 ⟨w.heap.size + 1, 0, none⟩ (.int .u64 ad) (by show w.heap.size + 1 < _; omega)
      have o4 := own_set o3 ⟨w.heap.size + 1 + 1, 0, none⟩ (.int .i64 0) (by show w.heap.size + 1 + 1 < _; omega)
      have o5 := own_set o4 ⟨w.heap.size + 1 + 1 + 1, 0, none⟩ (.slice a' n c) hn3
      exact ownsRow_below (own_low o5 HB3.out.size) (Below.refl _ _).drew
    · exact ((((((below_trans HB3.out FR.out.2).setCell (by simp) _).setCell (by simp; omega) _).setCell (by simp) _).setCell (by simp; omega) _).setCell (by simp; omega) _).drew
  · rw [if_neg hc] at hq
    obtain ⟨rfl, hb4⟩ := hq
    have HB4 := hid_mk (below_trans HB3.out hb4)
    have HF : Hid (Face w4 w.heap.size g n rcap) := ⟨stays hb4 (row_al Q0.out _), ⟨_, stays hb4 (row_al Q1.out _)⟩, ⟨_, stays hb4 (row_al Q2.out _)⟩, ⟨_, stays hb4 (row_al Q3.out _)⟩⟩
    have HN := hid_mk (show w.heap.size + 1 + 1 + 1 < w4.heap.size from (Array.getElem?_eq_some_iff.1 (stays hb4 (row_al Q3.out (.cells #[.slice (some ⟨g, 0, none⟩) n rcap, .slice (some ⟨b, off, none⟩) 22 cap, .int .i64 p, .int .u64 va, .int .i64 kind] 65)))).1)
    refine leaves_cons (f := 46) (args := #[.pointer (some ⟨w.heap.size, 0, none⟩), .pointer (some ⟨w.heap.size + 1, 0, none⟩), .pointer (some ⟨w.heap.size + 1 + 1, 0, none⟩), .pointer (some ⟨w.heap.size + 1 + 1 + 1, 0, none⟩)]) (by simp) (by simp [go_sem]) ?_
    refine (catch_panicking w.heap.size g n rcap zs V.code [] w4 HF.out HW.out.hz (by omega) (by omega) (HW.out.hs.below HB4.out)).mono ?_
    rintro e u' w9 ⟨rfl, rfl, w8, a', c', fr8, rfl⟩
    obtain ⟨_, ⟨v1, r1⟩, ⟨v2, r2⟩, ⟨v3, r3⟩⟩ := HF.out
    obtain ⟨j1, _⟩ := cell1 (stays fr8.2 r1)
    obtain ⟨j2, _⟩ := cell1 (stays fr8.2 r2)
    obtain ⟨j3, _⟩ := cell1 (stays fr8.2 r3)
    obtain ⟨h1, h2⟩ := HNO.out hc
    rw [h1, h2]
    refine ⟨.tuple #[.int .u64 0, .int .i64 V.code, .slice a' n c'], ?_, a', c', rfl, ?_, ?_⟩
    · simp [results, Tryd.results13, go_sem, j1, j2, j3]
    · have o1 := own_set fr8.1 ⟨w.heap.size + 1, 0, none⟩ (.int .u64 0) (by have := HN.out; simp; omega)
      have o2 := own_set o1 ⟨w.heap.size + 1 + 1, 0, none⟩ (.int .i64 V.code) (by have := HN.out; simp; omega)
      exact own_low (own_set o2 ⟨w.heap.size + 1 + 1 + 1, 0, none⟩ (.slice a' n c') HN.out) HB4.out.size
    · exact (((below_trans HB4.out fr8.2).setCell (by simp) _).setCell (by simp; omega) _).setCell (by simp; omega) _

/-- A slice as the program itself makes one. -/
def Goodly (n : Nat) (a : Option Addr) (c : Nat) : Prop := (∀ b off, a = some ⟨b, off, none⟩ → off = 0) ∧ n ≤ c ∧ c ≤ maxLen

theorem own_good {w : World} {base n c : Nat} {t : TypeId} {a : Option Addr} {xs : List Value} (h : w.ownsRow base t 1 (.slice a n c) n xs) : Goodly n a c := by
  rcases h.2 with ⟨h1, h2⟩ | ⟨g, cap, cur, h1, _, _, h3, h4, _⟩
  · injection h1 with e1 e2 e3
    subst e1 e3
    exact ⟨fun b off e => (nomatch e), by omega, Nat.zero_le _⟩
  · injection h1 with e1 e2 e3
    subst e1 e3
    exact ⟨fun b off e => by cases e; rfl, h3, h4⟩

theorem good_own (g n : Nat) (h : n ≤ 1048576) : Goodly n (some ⟨g, 0, none⟩) n := ⟨fun b off e => by cases e; rfl, Nat.le_refl _, by unfold maxLen; omega⟩

theorem implWalk_any (ra : Option Addr) (n rcap : Nat) (zs : List Int) (la : Option Addr) (m cap : Nat) (l : List Int) (p va kind : Int) (w : World) (hz : zs.length = n) (hn : n ≤ 1048576) (hs : Sl .u8 w ra zs) (hw8 : ∀ y ∈ zs, (Lit.int .u8 y).wf = true)
    (hlz : l.length = m) (hl : Sl .u64 w la l) (hlU : ∀ j, U (l.getD j 0)) (hva : U va) (hT : Tab w) (hgd : Goodly n ra rcap) :
    Calls Tryd.prog 13 #[.slice ra n rcap, .slice la m cap, .int .i64 p, .int .u64 va, .int .i64 kind] w fun e w' => ∃ (a' : Option Addr) (c : Nat), e = .returned (.tuple #[.int .u64 (walkA zs n m l p va kind), .int .i64 (walkC zs n m l p va kind), .slice a' (walkB zs n m l p va kind).length c]) ∧
      w'.ownsRow w.heap.size 5 1 (.slice a' (walkB zs n m l p va kind).length c) (walkB zs n m l p va kind).length ((walkB zs n m l p va kind).map (Value.int .u8)) ∧ Below w.heap.size w w' := by
  unfold walkA walkC walkB
  cases hok : walkOk n m l p kind with
  | false =>
    simp only [Bool.false_eq_true, if_false]
    exact (implWalk_no ra n rcap la m cap l p va kind w hn hlz hl hlU hok).mono fun e w' h => ⟨none, 0, h.1, own_nilB w' _, h.2⟩
  | true =>
    simp only [if_true]
    rw [mark_len, hz]
    have hok2 : (ramOkB n && legalB m l p && kindIn kind) = true := hok
    simp only [Bool.and_eq_true] at hok2
    obtain ⟨⟨hr, hlg⟩, hkb⟩ := hok2
    have hk2 : 1 ≤ kind ∧ kind ≤ 3 := by simpa [kindIn] using hkb
    obtain ⟨rfl, hp⟩ := legalB_parts hlg
    have hbd := ramOkB_bd hr
    obtain ⟨b, off, rfl, _, _⟩ := hl 0 (by omega)
    obtain ⟨g, o, rfl, _, _⟩ := hs 0 (by omega)
    obtain ⟨hra, hrc, hrc2⟩ := hgd
    have ho := hra g o rfl
    subst ho
    exact implWalk_yes g n rcap zs b off cap l p va kind w ⟨hz, hr, hs, hw8, hrc, by unfold maxLen at hrc2; omega, hlz, hl, hlU, hlg, hva, hk2.1, hk2.2, hT⟩

end Go.Proofs.YtldjmphflgecjacDoor
