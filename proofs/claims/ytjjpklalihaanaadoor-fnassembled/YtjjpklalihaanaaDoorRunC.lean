/- The program's reader of runes. -/
import Derived.Test.YtjjpklalihaanaaDoorProg
import Derived.Test.YtjjpklalihaanaaDoorLstP
import Derived.Test.YtjjpklalihaanaaDoorDecR
import Derived.Maps.AppendAt
namespace Go.Proofs.YtjjpklalihaanaaDoor
open Go.RowKit
set_option linter.unusedVariables false

set_option maxHeartbeats 800000 in
theorem next_end (w : World) (gr : Nat) (a : Option Addr) (n c : Nat) (hn : n ≤ 1048576) (hrow : w.heap[gr]? = some (.cells #[.slice a n c, .int .i64 (n : Int)] 104 (0, 0))) :
    Calls Tryd.prog 63 #[.pointer (some ⟨gr, 0, none⟩)] w fun e w' => e = .returned (.int .i32 (-1)) ∧ ∃ k, w' = w.drewN k := by
  have c0 := cell_of_row w gr 0 _ _ _ hrow
  have c1 := cell_of_row w gr 1 _ _ _ hrow
  simp at c0 c1
  have ht : ((n : Int) == (n : Int)) = true := by simp
  clear hrow
  go_enter Tryd.func63, Tryd.ntmps63
  go_wp2_with fail
  go_quiet (fail)
  go_wp2_with fail
  go_ret
  exact ⟨rfl, _, rfl⟩

set_option maxHeartbeats 800000 in
theorem next_some (w : World) (gr b off : Nat) (n c at_ : Nat) (x : Int) (hn : n ≤ 1048576) (hlt : at_ < n) (hne : b ≠ gr) (hrow : w.heap[gr]? = some (.cells #[.slice (some ⟨b, off, none⟩) n c, .int .i64 (at_ : Int)] 104 (0, 0)))
    (hx : w.cell? ⟨b, off + at_, none⟩ = some (.int .i32 x)) :
    Calls Tryd.prog 63 #[.pointer (some ⟨gr, 0, none⟩)] w fun e w' => e = .returned (.int .i32 x) ∧ ∃ k1 k2, w' = ((w.drewN k1).setCell ⟨gr, 1, none⟩ (.int .i64 ((at_ + 1 : Nat) : Int))).drewN k2 := by
  have c0 := cell_of_row w gr 0 _ _ _ hrow
  have c1 := cell_of_row w gr 1 _ _ _ hrow
  have f1 := frozen_of_row w gr 1 _ _ hrow
  simp at c0 c1
  have ht : ((at_ : Int) == (n : Int)) = false := by simp; omega
  have R : ∀ k v, ((w.drewN k).setCell ⟨gr, 1, none⟩ v).heap[gr]? = some (.cells #[.slice (some ⟨b, off, none⟩) n c, v] 104 (0, 0)) := fun k v => heap_setCell_same (w.drewN k) gr 1 _ _ v hrow
  have K0 : ∀ k v, ((w.drewN k).setCell ⟨gr, 1, none⟩ v).cell? ⟨gr, 0, none⟩ = some (.slice (some ⟨b, off, none⟩) n c) := fun k v => cell_of_row _ _ _ _ _ _ (R k v)
  have K1 : ∀ k v, ((w.drewN k).setCell ⟨gr, 1, none⟩ v).cell? ⟨gr, 1, none⟩ = some v := fun k v => cell_of_row _ _ _ _ _ _ (R k v)
  have KX : ∀ k v, ((w.drewN k).setCell ⟨gr, 1, none⟩ v).cell? ⟨b, off + at_, none⟩ = some (.int .i32 x) := by
    intro k v
    unfold World.cell? at hx ⊢
    rw [heap_setCell_other _ _ _ _ (by show b ≠ gr; exact hne)]
    exact hx
  have hwr : wrap64 ((at_ : Int) + 1) = ((at_ + 1 : Nat) : Int) := by unfold wrap64; omega
  have hws : wrap64 (((at_ + 1 : Nat) : Int) - 1) = (at_ : Int) := by unfold wrap64; omega
  clear hrow R
  go_enter Tryd.func63, Tryd.ntmps63
  go_wp2_with fail
  go_quiet (fail)
  go_wp2_with fail
  go_quiet (fail)
  go_wp2_with fail
  go_ret
  exact ⟨rfl, _, _, rfl⟩

/-- What lies in memory while a line is read: the reader, its runes, the name and the numbers so far. -/
structure RL (w wr : World) (gr gb c at_ : Nat) (rs ns ms : List Int) (nv mv : Value) : Prop where
  row : wr.heap[gr]? = some (.cells #[.slice (some ⟨gb, 0, none⟩) rs.length c, .int .i64 (at_ : Int)] 104 (0, 0))
  run : ∀ (k : Nat) (x : Int), rs[k]? = some x → wr.cell? ⟨gb, k, none⟩ = some (.int .i32 x)
  nm : wr.ownsRow w.heap.size 21 1 nv ns.length (ns.map (Value.int .i32))
  nu : wr.ownsRow w.heap.size 2 1 mv ms.length (ms.map (Value.int .i64))
  bel : Below w.heap.size w wr
  lo : w.heap.size ≤ gr
  ne : gb ≠ gr
  gbl : gb < wr.heap.size
  nap : ∀ k, nv.ownBlock = some k → k ≠ gr ∧ k ≠ gb ∧ mv.ownBlock ≠ some k
  map_ : ∀ k, mv.ownBlock = some k → k ≠ gr ∧ k ≠ gb
  le : at_ ≤ rs.length
  small : rs.length ≤ 1048576

theorem own_block_lt {w : World} {base e : Nat} {v : Value} {n : Nat} {xs : List Value} (h : w.ownsRow base e 1 v n xs) (k : Nat) (hk : v.ownBlock = some k) : k < w.heap.size := by
  rcases h.2 with ⟨e1, _⟩ | ⟨g, cap, cur, e1, hg, hh, _⟩
  · rw [e1] at hk; cases hk
  · rw [e1] at hk
    simp only [Value.ownBlock, Option.some.injEq] at hk
    subst hk
    by_cases hl : g < w.heap.size
    · exact hl
    · rw [Array.getElem?_eq_none (by omega)] at hh; cases hh

theorem row_lt' {w : World} {b : Nat} {o : Obj} (h : w.heap[b]? = some o) : b < w.heap.size := by
  by_cases hl : b < w.heap.size
  · exact hl
  · rw [Array.getElem?_eq_none (by omega)] at h; cases h

/-- Over what writes nothing that was there. -/
theorem RL.keep {w wr wx : World} {gr gb c at_ : Nat} {rs ns ms : List Int} {nv mv : Value} (h : RL w wr gr gb c at_ rs ns ms nv mv) (hb : Below wr.heap.size wr wx) : RL w wx gr gb c at_ rs ns ms nv mv :=
  ⟨by rw [hb.block _ (row_lt' h.row)]; exact h.row, fun k x hk => (hb.cell (World.block_lt_of_cell? _ _ (h.run k x hk))).trans (h.run k x hk), ownsRow_below h.nm hb, ownsRow_below h.nu hb, below_trans h.bel hb, h.lo, h.ne, Nat.lt_of_lt_of_le h.gbl hb.size, h.nap, h.map_, h.le, h.small⟩

theorem RL.step {w wr : World} {gr gb c at_ : Nat} {rs ns ms : List Int} {nv mv : Value} (h : RL w wr gr gb c at_ rs ns ms nv mv) (hlt : at_ < rs.length) : RL w (wr.setCell ⟨gr, 1, none⟩ (.int .i64 ((at_ + 1 : Nat) : Int))) gr gb c (at_ + 1) rs ns ms nv mv := by
  have hg : wr.grownBy (wr.setCell ⟨gr, 1, none⟩ (.int .i64 ((at_ + 1 : Nat) : Int))) (some gr) :=
    ⟨rfl, rfl, rfl, by simp [World.setCell], fun k _ hk => heap_setCell_other _ _ _ _ (by show k ≠ gr; intro e; exact hk (by rw [e]))⟩
  refine ⟨heap_setCell_same wr gr 1 _ _ _ h.row, fun k x hk => ?_, kept_of h.nm hg (fun k hk e => (h.nap k hk).1 (Option.some.inj e).symm), kept_of h.nu hg (fun k hk e => (h.map_ k hk).1 (Option.some.inj e).symm), h.bel.setCell h.lo _, h.lo, h.ne, ?_, h.nap, h.map_, hlt, h.small⟩
  · have hx := h.run k x hk
    unfold World.cell? at hx ⊢
    rw [heap_setCell_other _ _ _ _ (by show gb ≠ gr; exact h.ne)]
    exact hx
  · have := h.gbl; simpa [World.setCell] using this

/-- The same, by what is still to be read. -/
def RLx (w : World) (gr : Nat) (rem ns ms : List Int) (nv mv : Value) (wr : World) : Prop := ∃ gb c at_ rs, RL w wr gr gb c at_ rs ns ms nv mv ∧ rem = rs.drop at_

theorem RLx.keep {w wr wx : World} {gr : Nat} {rem ns ms : List Int} {nv mv : Value} (h : RLx w gr rem ns ms nv mv wr) (hb : Below wr.heap.size wr wx) : RLx w gr rem ns ms nv mv wx := by
  obtain ⟨gb, c, at_, rs, h1, h2⟩ := h
  exact ⟨gb, c, at_, rs, h1.keep hb, h2⟩

theorem RLx.bel {w wr : World} {gr : Nat} {rem ns ms : List Int} {nv mv : Value} (h : RLx w gr rem ns ms nv mv wr) : Below w.heap.size w wr := by
  obtain ⟨gb, c, at_, rs, h1, h2⟩ := h
  exact h1.bel

theorem RLx.next {w wr : World} {gr : Nat} {rem ns ms : List Int} {nv mv : Value} (h : RLx w gr rem ns ms nv mv wr) :
    Calls Tryd.prog 63 #[.pointer (some ⟨gr, 0, none⟩)] wr fun e w' => e = .returned (.int .i32 (rem.headD (-1))) ∧ Hid (RLx w gr rem.tail ns ms nv mv w') := by
  obtain ⟨gb, c, at_, rs, h1, h2⟩ := h
  by_cases hlt : at_ < rs.length
  · have hx : rs[at_]? = some rs[at_] := List.getElem?_eq_getElem hlt
    have hcell := h1.run at_ rs[at_] hx
    have hd : rs.drop at_ = rs[at_] :: rs.drop (at_ + 1) := List.drop_eq_getElem_cons hlt
    refine (next_some wr gr gb 0 rs.length c at_ rs[at_] h1.small hlt h1.ne h1.row (by rw [Nat.zero_add]; exact hcell)).mono ?_
    rintro e w' ⟨rfl, k1, k2, rfl⟩
    refine ⟨by rw [h2, hd]; rfl, ?_⟩
    have hb1 : Below wr.heap.size wr (wr.drewN k1) := below_drewN (Below.refl _ _) _
    have h3 := (h1.keep hb1).step hlt
    exact ⟨gb, c, at_ + 1, rs, h3.keep (below_drewN (Below.refl _ _) _), by rw [h2, hd]; rfl⟩
  · have he : at_ = rs.length := by have := h1.le; omega
    have hrow := h1.row
    rw [he] at hrow
    refine (next_end wr gr _ rs.length c h1.small hrow).mono ?_
    rintro e w' ⟨rfl, k, rfl⟩
    have hd : rem = [] := by rw [h2, he]; simp
    refine ⟨by rw [hd]; rfl, ?_⟩
    exact ⟨gb, c, at_, rs, h1.keep (below_drewN (Below.refl _ _) _), by rw [hd, he]; simp⟩

theorem i32_info : (Tryd.prog.info? 21).map (fun i => (i.zero, i.size, i.bytes)) = some (some (.int .i32 0), 1, 4) := by kernel_rfl

theorem i64_info : (Tryd.prog.info? 2).map (fun i => (i.zero, i.size, i.bytes)) = some (some (.int .i64 0), 1, 8) := by kernel_rfl

theorem RL.rowsKept {w wr wx : World} {gr gb c at_ : Nat} {rs ns ms : List Int} {nv mv : Value} (h : RL w wr gr gb c at_ rs ns ms nv mv) {row : Option Nat} (hg : wr.grownBy wx row) (h1 : row ≠ some gr) (h2 : row ≠ some gb) :
    wx.heap[gr]? = some (.cells #[.slice (some ⟨gb, 0, none⟩) rs.length c, .int .i64 (at_ : Int)] 104 (0, 0)) ∧ (∀ (k : Nat) (x : Int), rs[k]? = some x → wx.cell? ⟨gb, k, none⟩ = some (.int .i32 x)) := by
  refine ⟨by rw [hg.block gr (row_lt' h.row) (fun e => h1 e.symm)]; exact h.row, fun k x hk => ?_⟩
  have hx := h.run k x hk
  unfold World.cell? at hx ⊢
  rw [hg.block gb h.gbl (fun e => h2 e.symm)]
  exact hx

/-- A rune put behind the name. -/
theorem wpList_pushN {ops : Array Oper} {rest : List Oper} {o : Oper} {a : Act} {Q : Exit → Act → World → Prop} {w wr : World} {gr : Nat} {rem ns ms : List Int} {nv mv : Value} (hgd : o.guard = none) (s x : Operand)
    (ho : o.op = .call { callee := .builtin .append, args := #[s, x], argTypes := #[102, 102] }) (r : Int) (hs : a.eval s = nv) (hx : a.eval x = .slice (some ⟨wr.heap.size, 0, none⟩) 1 1)
    (hR : RLx w gr rem ns ms nv mv wr) (hn : ns.length ≤ 1048576)
    (h : ∀ nv' w', RLx w gr rem (ns ++ [r]) ms nv' mv w' → wpList Tryd.prog ops Q rest (a.put o.dst nv') w') :
    wpList Tryd.prog ops Q (o :: rest) a (wr.alloc (.cells #[.int .i32 r] 21 (0, 0))) := by
  obtain ⟨i0, hi, hz0, hz1, hz2⟩ := info_parts i32_info
  obtain ⟨gb, c, at_, rs, h0, hrem⟩ := hR
  have h1 := h0.keep ((Below.refl wr.heap.size wr).alloc (Nat.le_refl _) (.cells #[.int .i32 r] 21 (0, 0)))
  refine wpList_append_own_at _ hgd s x 102 ho w.heap.size 21 i0 (.int .i32 0) 1 4 Tryd.underlying102 hi hz0 hz1 hz2 rfl (by decide) nv ns.length (ns.map (Value.int .i32)) hs h1.nm ⟨wr.heap.size, 0, none⟩ 1 1 [.int .i32 r] hx rfl (one_cell wr _ _) (by simp [Value.oneCell']) (by unfold maxLen; omega) (by omega) h1.bel.size ?_
  intro v' w' hown hg _ hat
  refine h v' w' ⟨gb, c, at_, rs, ?_, hrem⟩
  obtain ⟨g1, g2⟩ := h1.rowsKept hg (fun e => (h1.nap _ e).1 rfl) (fun e => (h1.nap _ e).2.1 rfl)
  have hsz : wr.heap.size < (wr.alloc (.cells #[.int .i32 r] 21 (0, 0))).heap.size := by simp
  refine ⟨g1, g2, ?_, kept_of h1.nu hg (fun k hk e => (h1.nap k e).2.2 hk), Below.grown h1.bel hg h1.bel.size ?_, h1.lo, h1.ne, Nat.lt_of_lt_of_le h1.gbl hg.size, ?_, h1.map_, h1.le, h1.small⟩
  · rw [List.length_append, List.map_append]; exact hown
  · intro k hk
    rcases h1.nm.2 with ⟨e1, _⟩ | ⟨g, cap, cur, e1, hgg, _⟩
    · rw [e1] at hk; cases hk
    · rw [e1] at hk
      simp only [Value.ownBlock, Option.some.injEq] at hk
      omega
  · intro k hk
    rcases hat with e | e
    · exact h1.nap k (by rw [← e]; exact hk)
    · rw [hk] at e
      have e2 := Option.some.inj e
      refine ⟨fun q => ?_, fun q => ?_, fun q => ?_⟩
      · have := row_lt' h1.row; omega
      · have := h1.gbl; omega
      · have := own_block_lt h1.nu k q; omega

/-- A number put behind the numbers. -/
theorem wpList_pushM {ops : Array Oper} {rest : List Oper} {o : Oper} {a : Act} {Q : Exit → Act → World → Prop} {w wr : World} {gr : Nat} {rem ns ms : List Int} {nv mv : Value} (hgd : o.guard = none) (s x : Operand)
    (ho : o.op = .call { callee := .builtin .append, args := #[s, x], argTypes := #[61, 61] }) (r : Int) (hs : a.eval s = mv) (hx : a.eval x = .slice (some ⟨wr.heap.size, 0, none⟩) 1 1)
    (hR : RLx w gr rem ns ms nv mv wr) (hn : ms.length ≤ 1048577)
    (h : ∀ mv' w', RLx w gr rem ns (ms ++ [r]) nv mv' w' → wpList Tryd.prog ops Q rest (a.put o.dst mv') w') :
    wpList Tryd.prog ops Q (o :: rest) a (wr.alloc (.cells #[.int .i64 r] 2 (0, 0))) := by
  obtain ⟨i0, hi, hz0, hz1, hz2⟩ := info_parts i64_info
  obtain ⟨gb, c, at_, rs, h0, hrem⟩ := hR
  have h1 := h0.keep ((Below.refl wr.heap.size wr).alloc (Nat.le_refl _) (.cells #[.int .i64 r] 2 (0, 0)))
  refine wpList_append_own_at _ hgd s x 61 ho w.heap.size 2 i0 (.int .i64 0) 1 8 Tryd.underlying61 hi hz0 hz1 hz2 rfl (by decide) mv ms.length (ms.map (Value.int .i64)) hs h1.nu ⟨wr.heap.size, 0, none⟩ 1 1 [.int .i64 r] hx rfl (one_cell wr _ _) (by simp [Value.oneCell']) (by unfold maxLen; omega) (by omega) h1.bel.size ?_
  intro v' w' hown hg _ hat
  refine h v' w' ⟨gb, c, at_, rs, ?_, hrem⟩
  obtain ⟨g1, g2⟩ := h1.rowsKept hg (fun e => (h1.map_ _ e).1 rfl) (fun e => (h1.map_ _ e).2 rfl)
  have hsz : wr.heap.size < (wr.alloc (.cells #[.int .i64 r] 2 (0, 0))).heap.size := by simp
  refine ⟨g1, g2, kept_of h1.nm hg (fun k hk e => (h1.nap k hk).2.2 e), ?_, Below.grown h1.bel hg h1.bel.size ?_, h1.lo, h1.ne, Nat.lt_of_lt_of_le h1.gbl hg.size, ?_, ?_, h1.le, h1.small⟩
  · rw [List.length_append, List.map_append]; exact hown
  · intro k hk
    rcases h1.nu.2 with ⟨e1, _⟩ | ⟨g, cap, cur, e1, hgg, _⟩
    · rw [e1] at hk; cases hk
    · rw [e1] at hk
      simp only [Value.ownBlock, Option.some.injEq] at hk
      omega
  · intro k hk
    refine ⟨(h1.nap k hk).1, (h1.nap k hk).2.1, fun q => ?_⟩
    rcases hat with e | e
    · exact (h1.nap k hk).2.2 (by rw [← e]; exact q)
    · rw [q] at e
      have e2 := Option.some.inj e
      have := own_block_lt h1.nm k hk
      omega
  · intro k hk
    rcases hat with e | e
    · exact h1.map_ k (by rw [← e]; exact hk)
    · rw [hk] at e
      have e2 := Option.some.inj e
      refine ⟨fun q => ?_, fun q => ?_⟩
      · have := row_lt' h1.row; omega
      · have := h1.gbl; omega

end Go.Proofs.YtjjpklalihaanaaDoor
