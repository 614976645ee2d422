/- The program's Region, and the first region that has one of the addresses: loops over the iterator. -/
import Derived.Test.YtaicnnkcdpdhaacDoorRegK
namespace Go.Proofs.YtaicnnkcdpdhaacDoor
open Go.RowKit Go.Shelf
set_option linter.unusedVariables false

attribute [local go_sem] Oper.semAt_some

theorem row_setAt {W : World} {g j : Nat} {cs : Array Value} {t : TypeId} (h : W.heap[g]? = some (.cells cs t (0, 0))) (v : Value) : (W.setCell ⟨g, j, none⟩ v).heap[g]? = some (.cells (cs.set! j v) t (0, 0)) := by
  have hlt := (Array.getElem?_eq_some_iff.1 h).1
  simp only [World.setCell]
  rw [Array.getElem?_modify]
  simp [h]

theorem row_setOff {W : World} {g B j : Nat} {o : Obj} (h : W.heap[g]? = some o) (hne : g ≠ B) (v : Value) : (W.setCell ⟨B, j, none⟩ v).heap[g]? = some o := by
  simp only [World.setCell]
  rw [Array.getElem?_modify, if_neg (by simpa using Ne.symm hne)]
  exact h

theorem row_put {W : World} {g D : Nat} {o o' : Obj} (h : W.heap[g]? = some o) (hne : g ≠ D) : (W.putObj D o').heap[g]? = some o :=
  ((grownBy_putObj' W D o').block g (Array.getElem?_eq_some_iff.1 h).1 (by simpa using hne)).trans h

theorem cell_at {W : World} {g : Nat} {cs : Array Value} {t : TypeId} {f : Nat × Nat} (h : W.heap[g]? = some (.cells cs t f)) (j : Nat) : W.cell? ⟨g, j, none⟩ = cs[j]? := by simp [World.cell?, h]

theorem row_alloc {W : World} {g : Nat} {o : Obj} (h : W.heap[g]? = some o) (o' : Obj) : (W.alloc o').heap[g]? = some o := (Below.heap_alloc W o' g (Array.getElem?_eq_some_iff.1 h).1).trans h

set_option maxRecDepth 100000 in
set_option maxHeartbeats 4000000 in
theorem firstMet_any (b off cap : Nat) (l : List Int) (x y : Int) (w : World) (hbw : b < w.heap.size) (hs : ∀ j, j < 22 → w.cell? ⟨b, off + j, none⟩ = some (.int .u64 (l.getD j 0))) (hl : ∀ j, U (l.getD j 0)) (hT : Tab w) :
    Calls Tryd.prog 19 #[.slice (some ⟨b, off, none⟩) 22 cap, .int .u64 x, .int .u64 y] w fun e w' => e = .returned (.tuple #[.agg #[.int .u64 (metV l x y).1, .int .u64 (metV l x y).2.1, .int .u64 (metV l x y).2.2.1], .bool (metV l x y).2.2.2]) ∧ Below w.heap.size w w' := by
  have HS : Hid (∀ j, j < 22 → w.cell? ⟨b, off + j, none⟩ = some (.int .u64 (l.getD j 0))) := hs
  have HL : Hid (∀ j, U (l.getD j 0)) := hl
  have HT : Hid (Tab w) := hT
  clear hs hl hT
  refine (callsIn_wide (n := 3)).1 ?_
  refine callsIn_of_wp_marks Tryd.func19 rfl trivial ?_ rfl
  simp only [Tryd.ntmps19, List.size_toArray, List.length_cons, List.length_nil, Nat.reduceAdd, Nat.reduceSub, Array.replicate_succ, Array.replicate_zero, List.push_toArray, List.append_toArray, List.nil_append, List.cons_append]
  gi_wp2_with fail
  refine ⟨trivial, (regions_in _ _ _ _ _).mono ?_⟩
  rintro e W6 ⟨rfl, rfl⟩
  gi_wp2_with fail
  have bX := ((((Boxed.new w 25 (.int .u64 x)).alloc (.cells #[.int .u64 y] 25)).alloc (.cells #[.int .u64 0, .int .u64 0, .int .u64 0] 38)).alloc (.cells #[.bool false] 4)).alloc (.cells #[.slice (some ⟨b, off, none⟩) 22 cap] 24)
  have bY := (((Boxed.new (w.alloc (.cells #[.int .u64 x] 25)) 25 (.int .u64 y)).alloc (.cells #[.int .u64 0, .int .u64 0, .int .u64 0] 38)).alloc (.cells #[.bool false] 4)).alloc (.cells #[.slice (some ⟨b, off, none⟩) 22 cap] 24)
  have bR := row_alloc (row_alloc (World.alloc_heap_new ((w.alloc (.cells #[.int .u64 x] 25)).alloc (.cells #[.int .u64 y] 25)) (.cells #[.int .u64 0, .int .u64 0, .int .u64 0] 38)) (.cells #[.bool false] 4)) (.cells #[.slice (some ⟨b, off, none⟩) 22 cap] 24)
  have bB := (Boxed.new (((w.alloc (.cells #[.int .u64 x] 25)).alloc (.cells #[.int .u64 y] 25)).alloc (.cells #[.int .u64 0, .int .u64 0, .int .u64 0] 38)) 4 (.bool false)).alloc (.cells #[.slice (some ⟨b, off, none⟩) 22 cap] 24)
  have bS := Boxed.new ((((w.alloc (.cells #[.int .u64 x] 25)).alloc (.cells #[.int .u64 y] 25)).alloc (.cells #[.int .u64 0, .int .u64 0, .int .u64 0] 38)).alloc (.cells #[.bool false] 4)) 24 (.slice (some ⟨b, off, none⟩) 22 cap)
  simp only [World.size_alloc] at bY bR bB bS
  have hB6 : Below w.heap.size w (((((w.alloc (.cells #[.int .u64 x] 25)).alloc (.cells #[.int .u64 y] 25)).alloc (.cells #[.int .u64 0, .int .u64 0, .int .u64 0] 38)).alloc (.cells #[.bool false] 4)).alloc (.cells #[.slice (some ⟨b, off, none⟩) 22 cap] 24)) := (((((Below.refl _ w).alloc (Nat.le_refl _) _).alloc (by simp) _).alloc (by simp; omega) _).alloc (by simp; omega) _).alloc (by simp; omega) _
  have hz6 : (((((w.alloc (.cells #[.int .u64 x] 25)).alloc (.cells #[.int .u64 y] 25)).alloc (.cells #[.int .u64 0, .int .u64 0, .int .u64 0] 38)).alloc (.cells #[.bool false] 4)).alloc (.cells #[.slice (some ⟨b, off, none⟩) 22 cap] 24)).heap.size = w.heap.size + 5 := by simp
  obtain ⟨W6, hW6⟩ : ∃ W6, ((((w.alloc (.cells #[.int .u64 x] 25)).alloc (.cells #[.int .u64 y] 25)).alloc (.cells #[.int .u64 0, .int .u64 0, .int .u64 0] 38)).alloc (.cells #[.bool false] 4)).alloc (.cells #[.slice (some ⟨b, off, none⟩) 22 cap] 24) = W6 := ⟨_, rfl⟩
  rw [hW6] at bX bY bR bB bS hB6 hz6 ⊢
  clear hW6
  have hT6 : Tab W6 := HT.out.below hB6
  have hs6 : ∀ j, j < 22 → W6.cell? ⟨b, off + j, none⟩ = some (.int .u64 (l.getD j 0)) := fun j hj => (hB6.cell (p := ⟨b, off + j, none⟩) hbw).trans (HS.out j hj)
  have hg5 : 0 < w.heap.size := HT.out.lt
  refine wpIn_rangeFunc_ownH rfl (by omega) (gf := 43) (lb := #[.pointer (some ⟨w.heap.size + 1 + 1 + 1 + 1, 0, none⟩)]) rfl trivial (enters_of Tryd.func43 (by kernel_rfl) rfl)
    (regions_stops 2 (w.heap.size + 1 + 1 + 1 + 1) (w.heap.size + 5) b off cap l HL.out (by omega) (by omega) (by omega) W6 (by omega) hT6 bS.cell hs6) belowK_t (belowK_b (by omega)) (Below.refl _ _) (fun _ => rfl)
    (fun pre W => ((∀ p ∈ pre, meetsB x y p = false) ∧ Boxed W w.heap.size 25 (.int .u64 x) ∧ Boxed W (w.heap.size + 1) 25 (.int .u64 y) ∧ W.heap[w.heap.size + 1 + 1]? = some (.cells #[.int .u64 0, .int .u64 0, .int .u64 0] 38 (0, 0)) ∧ Boxed W (w.heap.size + 1 + 1 + 1) 4 (.bool false) ∧ w.heap.size + 5 ≤ W.heap.size) ∧ Below w.heap.size w W)
    (fun c pre W => (c = .ret ∧ ∃ ini last, pre = ini ++ [last] ∧ (∀ p ∈ ini, meetsB x y p = false) ∧ meetsB x y last = true ∧ W.heap[w.heap.size + 1 + 1]? = some (.cells #[.int .u64 last.2.1, .int .u64 last.2.2.1, .int .u64 last.2.2.2] 38 (0, 0)) ∧ Boxed W (w.heap.size + 1 + 1 + 1) 4 (.bool true)) ∧ Below w.heap.size w W)
    (OwnFrom.and (fun s A B row hs hg hr => ⟨hs.1, row_kept hs.2.1 hg (fun r e => (hr r e).2), row_kept hs.2.2.1 hg (fun r e => (hr r e).2), row_kept hs.2.2.2.1 hg (fun r e => (hr r e).2), row_kept hs.2.2.2.2.1 hg (fun r e => (hr r e).2), Nat.le_trans hs.2.2.2.2.2 hg.size⟩) (ownFrom_below (Nat.le_refl _) (by omega)))
    (fun c => OwnFrom.and (fun s A B row hs hg hr => by obtain ⟨hc, ini, last, e1, e2, e3, e4, e5⟩ := hs; exact ⟨hc, ini, last, e1, e2, e3, row_kept e4 hg (fun r e => (hr r e).2), row_kept e5 hg (fun r e => (hr r e).2)⟩) (ownFrom_below (Nat.le_refl _) (by omega)))
    ⟨⟨by simp, bX, bY, bR, bB, by omega⟩, hB6⟩
    (fun q a' W => ∃ Bx, w.heap.size + 4 ≤ Bx ∧ W.heap[Bx]? = some (.cells #[.int .u64 q.2.1, .int .u64 q.2.2.1, .int .u64 q.2.2.2] 38 (0, 0)) ∧ a' = { tmps := #[.slice (some ⟨b, off, none⟩) 22 cap, .int .u64 x, .int .u64 y, undef, .pointer (some ⟨w.heap.size, 0, none⟩), .pointer (some ⟨w.heap.size + 1, 0, none⟩), .pointer (some ⟨w.heap.size + 1 + 1, 0, none⟩), .pointer (some ⟨w.heap.size + 1 + 1 + 1, 0, none⟩), undef, .pointer (some ⟨Bx, 0, none⟩), .slice (some ⟨b, off, none⟩) 22 cap, .func (.func 43) #[] #[.pointer (some ⟨w.heap.size + 1 + 1 + 1 + 1, 0, none⟩)], .int .i64 (q.1 : Int), .agg #[.int .u64 q.2.1, .int .u64 q.2.2.1, .int .u64 q.2.2.2], undef, undef, undef, undef, undef, undef, undef, undef, undef, undef, undef, undef], defers := [] })
    (fun q a' _ X Y row hs hg hr => by obtain ⟨Bx, h1, h2, h3⟩ := hs; exact ⟨Bx, h1, row_kept h2 hg (fun r e => (hr r e).2), h3⟩)
    ?assign ?body ?done ?stop
  case assign =>
    rintro lp pre q W K ⟨⟨hp, bX1, bY1, bR1, bB1, hs1⟩, hB1⟩ hK
    simp only [encR]
    gi_wp2_with fail
    exact hK _ _ ((KeepsOthers.alloc _ _).from _) ((Below.refl _ W).alloc hs1 _) ⟨⟨hp, bX1.alloc _, bY1.alloc _, row_alloc bR1 _, bB1.alloc _, by simp; omega⟩, hB1.alloc hB1.size _⟩ ⟨W.heap.size, bB1.lt, World.alloc_heap_new W _, rfl⟩
  case body =>
    rintro lp pre q a' W hlp ⟨r, hr⟩ ⟨⟨hp, bX1, bY1, bR1, bB1, hs1⟩, hB1⟩ ⟨Bx, hBx, bQ, rfl⟩ hlt
    have q0 : W.cell? ⟨Bx, 0, none⟩ = some (.int .u64 q.2.1) := by simp [World.cell?, bQ]
    have q1 : W.cell? ⟨Bx, 1, none⟩ = some (.int .u64 q.2.2.1) := by simp [World.cell?, bQ]
    have q2 : W.cell? ⟨Bx, 2, none⟩ = some (.int .u64 q.2.2.2) := by simp [World.cell?, bQ]
    have cX := bX1.cell
    have cY := bY1.cell
    have FM : Hid (meetsB x y q = (decide (q.2.1 ≤ y) && decide (x ≤ q.2.2.1))) := (rfl : meetsB x y q = _)
    cases h1 : decide (q.2.1 ≤ y) with
    | false =>
      rw [h1] at FM
      have hq : Hid (meetsB x y q = false) := FM.out
      gi_wp2_with fail
      exact ⟨KeepsFrom.refl _ _, Below.refl _ _, ⟨fun p hp' => (List.mem_append.1 hp').elim (hp p) (fun e => by simp at e; subst e; exact hq.out), bX1, bY1, bR1, bB1, hs1⟩, hB1⟩
    | true =>
      rw [h1] at FM
      cases h2 : decide (x ≤ q.2.2.1) with
      | false =>
        rw [h2] at FM
        have hq : Hid (meetsB x y q = false) := FM.out
        gi_wp2_with fail
        exact ⟨KeepsFrom.refl _ _, Below.refl _ _, ⟨fun p hp' => (List.mem_append.1 hp').elim (hp p) (fun e => by simp at e; subst e; exact hq.out), bX1, bY1, bR1, bB1, hs1⟩, hB1⟩
      | true =>
        rw [h2] at FM
        have hq : Hid (meetsB x y q = true) := FM.out
        have r0 : W.cell? ⟨w.heap.size + 1 + 1, 0, none⟩ = some (.int .u64 0) := by simp [World.cell?, bR1]
        have r1 : W.cell? ⟨w.heap.size + 1 + 1, 1, none⟩ = some (.int .u64 0) := by simp [World.cell?, bR1]
        have r2 : W.cell? ⟨w.heap.size + 1 + 1, 2, none⟩ = some (.int .u64 0) := by simp [World.cell?, bR1]
        have g0 : W.frozen? ⟨w.heap.size + 1 + 1, 0, none⟩ = false := by simp [World.frozen?, bR1]
        have g1 : W.frozen? ⟨w.heap.size + 1 + 1, 1, none⟩ = false := by simp [World.frozen?, bR1]
        have g2 : W.frozen? ⟨w.heap.size + 1 + 1, 2, none⟩ = false := by simp [World.frozen?, bR1]
        have cB := bB1.cell
        have fB := bB1.frozen
        have Z1 : Hid (KeepsFrom W6.heap.size W ((((W.setCell ⟨w.heap.size + 1 + 1, 0, none⟩ (.int .u64 q.2.1)).setCell ⟨w.heap.size + 1 + 1, 1, none⟩ (.int .u64 q.2.2.1)).setCell ⟨w.heap.size + 1 + 1, 2, none⟩ (.int .u64 q.2.2.2)).setCell ⟨w.heap.size + 1 + 1 + 1, 0, none⟩ (.bool true))) := ((((KeepsOthers.setCell W _ _).trans (KeepsOthers.setCell _ _ _)).trans (KeepsOthers.setCell _ _ _)).trans (KeepsOthers.setCell _ _ _)).from _
        have Z2 : Hid (((((W.setCell ⟨w.heap.size + 1 + 1, 0, none⟩ (.int .u64 q.2.1)).setCell ⟨w.heap.size + 1 + 1, 1, none⟩ (.int .u64 q.2.2.1)).setCell ⟨w.heap.size + 1 + 1, 2, none⟩ (.int .u64 q.2.2.2)).setCell ⟨w.heap.size + 1 + 1 + 1, 0, none⟩ (.bool true)).heap[w.heap.size + 1 + 1]? = some (.cells #[.int .u64 q.2.1, .int .u64 q.2.2.1, .int .u64 q.2.2.2] 38 (0, 0))) := row_setOff (row_setAt (row_setAt (row_setAt bR1 _) _) _) (by omega) _
        have Z3 : Hid (Boxed ((((W.setCell ⟨w.heap.size + 1 + 1, 0, none⟩ (.int .u64 q.2.1)).setCell ⟨w.heap.size + 1 + 1, 1, none⟩ (.int .u64 q.2.2.1)).setCell ⟨w.heap.size + 1 + 1, 2, none⟩ (.int .u64 q.2.2.2)).setCell ⟨w.heap.size + 1 + 1 + 1, 0, none⟩ (.bool true)) (w.heap.size + 1 + 1 + 1) 4 (.bool true)) := Boxed.set _ (v := .bool false) (row_setOff (row_setOff (row_setOff bB1 (by omega) _) (by omega) _) (by omega) _)
        have Z4 : Hid (Below w.heap.size w ((((W.setCell ⟨w.heap.size + 1 + 1, 0, none⟩ (.int .u64 q.2.1)).setCell ⟨w.heap.size + 1 + 1, 1, none⟩ (.int .u64 q.2.2.1)).setCell ⟨w.heap.size + 1 + 1, 2, none⟩ (.int .u64 q.2.2.2)).setCell ⟨w.heap.size + 1 + 1 + 1, 0, none⟩ (.bool true))) := (((hB1.setCell (p := ⟨w.heap.size + 1 + 1, 0, none⟩) (by simp; omega) _).setCell (p := ⟨w.heap.size + 1 + 1, 1, none⟩) (by simp; omega) _).setCell (p := ⟨w.heap.size + 1 + 1, 2, none⟩) (by simp; omega) _).setCell (p := ⟨w.heap.size + 1 + 1 + 1, 0, none⟩) (by simp; omega) _
        gi_wp2_with fail
        exact ⟨Z1.out, ⟨rfl, pre, q, rfl, hp, hq.out, Z2.out, Z3.out⟩, Z4.out⟩
  case done =>
    rintro D ys W hD rfl ⟨⟨hp, bX1, bY1, bR1, bB1, hs1⟩, hB1⟩ hK
    have FN : Hid (metV l x y = (0, 0, 0, false)) := by show metV l x y = _; unfold metV; rw [find_done hp]
    have r0 : W.cell? ⟨w.heap.size + 1 + 1, 0, none⟩ = some (.int .u64 0) := by simp [World.cell?, bR1]
    have r1 : W.cell? ⟨w.heap.size + 1 + 1, 1, none⟩ = some (.int .u64 0) := by simp [World.cell?, bR1]
    have r2 : W.cell? ⟨w.heap.size + 1 + 1, 2, none⟩ = some (.int .u64 0) := by simp [World.cell?, bR1]
    have g0 : W.frozen? ⟨w.heap.size + 1 + 1, 0, none⟩ = false := by simp [World.frozen?, bR1]
    have g1 : W.frozen? ⟨w.heap.size + 1 + 1, 1, none⟩ = false := by simp [World.frozen?, bR1]
    have g2 : W.frozen? ⟨w.heap.size + 1 + 1, 2, none⟩ = false := by simp [World.frozen?, bR1]
    have cB := bB1.cell
    have fB := bB1.frozen
    have k1 : Hid (((((W.setCell ⟨w.heap.size + 1 + 1, 0, none⟩ (.int .u64 0)).setCell ⟨w.heap.size + 1 + 1, 1, none⟩ (.int .u64 0)).setCell ⟨w.heap.size + 1 + 1, 2, none⟩ (.int .u64 0)).setCell ⟨w.heap.size + 1 + 1 + 1, 0, none⟩ (.bool false)).heap[D]? = some (.deferred (some []))) := row_setOff (row_setOff (row_setOff (row_setOff hK (by omega) _) (by omega) _) (by omega) _) (by omega) _
    have z2 : ((((W.setCell ⟨w.heap.size + 1 + 1, 0, none⟩ (.int .u64 0)).setCell ⟨w.heap.size + 1 + 1, 1, none⟩ (.int .u64 0)).setCell ⟨w.heap.size + 1 + 1, 2, none⟩ (.int .u64 0)).setCell ⟨w.heap.size + 1 + 1 + 1, 0, none⟩ (.bool false)).heap[w.heap.size + 1 + 1]? = some (.cells #[.int .u64 0, .int .u64 0, .int .u64 0] 38 (0, 0)) := row_setOff (row_setAt (row_setAt (row_setAt bR1 _) _) _) (by omega) _
    have z3 : Boxed ((((W.setCell ⟨w.heap.size + 1 + 1, 0, none⟩ (.int .u64 0)).setCell ⟨w.heap.size + 1 + 1, 1, none⟩ (.int .u64 0)).setCell ⟨w.heap.size + 1 + 1, 2, none⟩ (.int .u64 0)).setCell ⟨w.heap.size + 1 + 1 + 1, 0, none⟩ (.bool false)) (w.heap.size + 1 + 1 + 1) 4 (.bool false) := Boxed.set _ (v := .bool false) (row_setOff (row_setOff (row_setOff bB1 (by omega) _) (by omega) _) (by omega) _)
    have z4 : Hid (Below w.heap.size w ((((W.setCell ⟨w.heap.size + 1 + 1, 0, none⟩ (.int .u64 0)).setCell ⟨w.heap.size + 1 + 1, 1, none⟩ (.int .u64 0)).setCell ⟨w.heap.size + 1 + 1, 2, none⟩ (.int .u64 0)).setCell ⟨w.heap.size + 1 + 1 + 1, 0, none⟩ (.bool false))) := (((hB1.setCell (p := ⟨w.heap.size + 1 + 1, 0, none⟩) (by simp; omega) _).setCell (p := ⟨w.heap.size + 1 + 1, 1, none⟩) (by simp; omega) _).setCell (p := ⟨w.heap.size + 1 + 1, 2, none⟩) (by simp; omega) _).setCell (p := ⟨w.heap.size + 1 + 1 + 1, 0, none⟩) (by simp; omega) _
    have Z2 : Hid (((((((W.setCell ⟨w.heap.size + 1 + 1, 0, none⟩ (.int .u64 0)).setCell ⟨w.heap.size + 1 + 1, 1, none⟩ (.int .u64 0)).setCell ⟨w.heap.size + 1 + 1, 2, none⟩ (.int .u64 0)).setCell ⟨w.heap.size + 1 + 1 + 1, 0, none⟩ (.bool false))).putObj D (.deferred none)).heap[w.heap.size + 1 + 1]? = some (.cells #[.int .u64 0, .int .u64 0, .int .u64 0] 38 (0, 0))) := row_put z2 (by omega)
    have Z3 : Hid (Boxed (((((W.setCell ⟨w.heap.size + 1 + 1, 0, none⟩ (.int .u64 0)).setCell ⟨w.heap.size + 1 + 1, 1, none⟩ (.int .u64 0)).setCell ⟨w.heap.size + 1 + 1, 2, none⟩ (.int .u64 0)).setCell ⟨w.heap.size + 1 + 1 + 1, 0, none⟩ (.bool false)).putObj D (.deferred none)) (w.heap.size + 1 + 1 + 1) 4 (.bool false)) := row_put z3 (by omega)
    clear z2 z3
    gi_wp2_with fail
    refine ⟨by simp, .inl ⟨_, _, rfl, run_takeDeferred k1.out, ?_⟩⟩
    have y2 := Z2.out
    have y3 := Z3.out.cell
    refine ⟨.tuple #[.agg #[.int .u64 0, .int .u64 0, .int .u64 0], .bool false], ?_, by rw [FN.out], z4.out.trans (belowK_b (w := w) (Nat.le_refl _) _ D _ _ (by omega) k1.out rfl rfl)⟩
    have y20 := cell_at y2 0
    have y21 := cell_at y2 1
    have y22 := cell_at y2 2
    simp at y20 y21 y22
    simp [results, Tryd.f19, go_sem, y20, y21, y22, y3]
  case stop =>
    rintro D c pre W hD hpre ⟨⟨rfl, ini, last, e1, e2, e3, bR1, bB1⟩, hB1⟩ hK
    have FN : Hid (metV l x y = (last.2.1, last.2.2.1, last.2.2.2, true)) := by show metV l x y = _; unfold metV; rw [find_stop hpre e1 e2 e3]
    gi_wp2_with fail
    refine ⟨by simp, .inl ⟨_, _, rfl, run_takeDeferred hK, ?_⟩⟩
    have y2 : (W.putObj D (.deferred none)).heap[w.heap.size + 1 + 1]? = _ := row_put bR1 (by omega)
    have y3 := Boxed.cell (show Boxed (W.putObj D (.deferred none)) (w.heap.size + 1 + 1 + 1) 4 (.bool true) from row_put bB1 (by omega))
    have y20 := cell_at y2 0
    have y21 := cell_at y2 1
    have y22 := cell_at y2 2
    simp at y20 y21 y22
    refine ⟨.tuple #[.agg #[.int .u64 last.2.1, .int .u64 last.2.2.1, .int .u64 last.2.2.2], .bool true], ?_, by rw [FN.out], hB1.trans (belowK_b (w := w) (Nat.le_refl _) W D _ _ (by omega) hK rfl rfl)⟩
    simp [results, Tryd.f19, go_sem, y20, y21, y22, y3]

end Go.Proofs.YtaicnnkcdpdhaacDoor
