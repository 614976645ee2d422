/- Draws of devices of any kind, of addresses of devices, of what DevStore and Tick are handed. -/
import Derived.Test.YtbkddoibefgplaaDevE
namespace Go.Proofs.Ytbkddoibefgplaa
open Go.RowKit
set_option linter.unusedVariables false

/-- A struct's value in block b, its lists anywhere from the answer's place on, but not in b. -/
structure Dg (w0 : World) (g : Nat) (a : Option Addr) (n cap : Nat) (w : World) (r b : Nat) (T : TypeId) (rs cs : Array Value) (L : List FRow) (wr : World) : Prop where
  c : Dc w0 g a n cap w r b T rs cs wr
  fam : Fam (r + 1) wr.heap.size wr L
  nb : ∀ q ∈ L, q.v.ownBlock ≠ some b

theorem Dg.cur {w0 w wr : World} {g : Nat} {a : Option Addr} {n cap r b : Nat} {T : TypeId} {rs cs : Array Value} {L : List FRow} (h : Dg w0 g a n cap w r b T rs cs L wr) : Cur w0 wr g a n cap := h.c.cu.1

theorem Dg.next {w0 w wr wx : World} {g : Nat} {a : Option Addr} {n cap r b : Nat} {T : TypeId} {rs cs : Array Value} {L : List FRow} (h : Dg w0 g a n cap w r b T rs cs L wr) (k : Cs w0 g a n cap wr wx) : Dg w0 g a n cap w r b T rs cs L wx := by
  have hg := h.c.glt
  exact ⟨h.c.next k, (h.fam.mono fun j h1 h2 h3 => k.2.block j h3 (by simp; omega)).low (Nat.le_refl _) k.2.size, h.nb⟩

theorem fam_apart {B E : Nat} {w : World} {L : List FRow} (h : Fam B E w L) (p : Addr) (v : Value) (hp : ∀ q ∈ L, q.v.ownBlock ≠ some p.block) : Fam B E (w.setCell p v) L :=
  ⟨fun r hr => fown_of (h.own r hr) (fun k e => Below.heap_setCell w p v k (fun e2 => hp r hr (e.trans (by rw [e2])))), h.hi, h.ne⟩

/-- A field that is no list. -/
theorem Dg.put {w0 w wr : World} {g : Nat} {a : Option Addr} {n cap r b : Nat} {T : TypeId} {rs cs : Array Value} {L : List FRow} (h : Dg w0 g a n cap w r b T rs cs L wr) (i : Nat) (v : Value) : Dg w0 g a n cap w r b T rs (cs.setIfInBounds i v) L (wr.setCell ⟨b, i, none⟩ v) :=
  ⟨h.c.put i v, (fam_apart h.fam ⟨b, i, none⟩ v h.nb).low (Nat.le_refl _) (by rw [size_set]; exact Nat.le_refl _), h.nb⟩

/-- One list becomes a new one. -/
theorem Dg.fresh {w0 w wr wx : World} {g : Nat} {a : Option Addr} {n cap r b : Nat} {T : TypeId} {rs cs : Array Value} {L1 L2 : List FRow} {q : FRow} (h : Dg w0 g a n cap w r b T rs cs (L1 ++ q :: L2) wr) (q' : FRow) (ho : wx.ownsRow wr.heap.size q'.t 1 q'.v q'.n q'.xs) (hb : Below wr.heap.size wr wx) : Dg w0 g a n cap w r b T rs cs (L1 ++ q' :: L2) wx := by
  have hbl := blk h.c.row
  have hr := h.c.rlt
  have hbb := Keep.of_below (B := b + 1) (E := wx.heap.size) hb
  have hs := hb.size
  have sub : ∀ s ∈ L1 ++ L2, s ∈ L1 ++ q :: L2 := fun s hs => by
    rcases List.mem_append.1 hs with h | h
    · exact List.mem_append_left _ h
    · exact List.mem_append_right _ (List.mem_cons_of_mem _ h)
  have old : ∀ s ∈ L1 ++ L2, wx.ownsRow (r + 1) s.t 1 s.v s.n s.xs ∧ (∀ k, s.v.ownBlock = some k → k < wr.heap.size) := fun s hs => ⟨fown_of (h.fam.own s (sub s hs)) (fun k e => hb.block k ((h.fam.own s (sub s hs)).lt k e).2), fun k e => ((h.fam.own s (sub s hs)).lt k e).2⟩
  have new : ∀ k, q'.v.ownBlock = some k → wr.heap.size ≤ k ∧ k < wx.heap.size := fun k e => ho.lt k e
  have part : ∀ s, s ∈ L1 ++ q' :: L2 → s = q' ∨ s ∈ L1 ++ L2 := fun s hs => by
    rcases List.mem_append.1 hs with h | h
    · exact .inr (List.mem_append_left _ h)
    · rcases List.mem_cons.1 h with h | h
      · exact .inl h
      · exact .inr (List.mem_append_right _ h)
  have pw := List.pairwise_append.1 h.fam.ne
  have pw2 := List.pairwise_cons.1 pw.2.1
  refine ⟨h.c.on hbb, ⟨fun s hs => ?_, fun s hs k e => ?_, ?_⟩, fun s hs e => ?_⟩
  · rcases part s hs with rfl | h2
    · exact own_low ho (by omega)
    · exact (old s h2).1
  · rcases part s hs with rfl | h2
    · exact (new k e).2
    · have := (old s h2).2 k e
      omega
  · refine List.pairwise_append.2 ⟨pw.1, List.pairwise_cons.2 ⟨fun s hs k e e2 => ?_, pw2.2⟩, fun s hs t ht k e e2 => ?_⟩
    · have := (new k e).1
      have := (old s (List.mem_append_right _ hs)).2 k e2
      omega
    · rcases List.mem_cons.1 ht with rfl | ht
      · have := (new k e2).1
        have := (old s (List.mem_append_left _ hs)).2 k e
        omega
      · exact pw.2.2 s hs t (List.mem_cons_of_mem _ ht) k e e2
  · rcases part s hs with rfl | h2
    · have := (new b e).1
      omega
    · exact h.nb s (sub s h2) e

/-- What fits any drawn device. -/
structure FitsA (D : DV) : Prop where
  t : U D.t
  cm : U D.cm
  ir : (Lit.int .i64 D.ir).wf = true
  by_ : bytesOk D
  l1 : D.xs.length ≤ 17
  l2 : D.ys.length ≤ 4097

theorem Fits.any {D : DV} (h : Fits D 16 4096) : FitsA D := ⟨h.t, h.cm, by rcases h.ir with e | e <;> rw [e] <;> decide, h.by_, Nat.le_trans h.l1 (by omega), Nat.le_trans h.l2 (by omega)⟩

theorem FitsA.newIn {D : DV} (h : FitsA D) (m : Nat) (hm : m ≤ 17) : FitsA ⟨D.t, D.cm, D.so, List.replicate m 0, D.ys, D.ir⟩ := ⟨h.t, h.cm, h.ir, ⟨zeros_wf m, h.by_.2⟩, by simpa using hm, h.l2⟩

theorem FitsA.newOut {D : DV} (h : FitsA D) (m : Nat) (hm : m ≤ 4097) : FitsA ⟨D.t, D.cm, D.so, D.xs, List.replicate m 0, D.ir⟩ := ⟨h.t, h.cm, h.ir, ⟨h.by_.1, zeros_wf m⟩, h.l1, by simpa using hm⟩

theorem Dg.asIn {w0 w wr : World} {g : Nat} {a : Option Addr} {n cap r b : Nat} {T : TypeId} {rs : Array Value} {D : DV} {a1 : Option Addr} {c1 : Nat} {a2 : Option Addr} {c2 : Nat} {f : Option Addr} {m q : Nat} {zs : List Int} (hz : zs.length = m) (h : Dg w0 g a n cap w r b T rs ((dvc D a1 c1 a2 c2).setIfInBounds 3 (.slice f m q)) [bRow f m q zs, bRow a2 D.ys.length c2 D.ys] wr) : Dg w0 g a n cap w r b T rs (dvc ⟨D.t, D.cm, D.so, zs, D.ys, D.ir⟩ f q a2 c2) (dvF ⟨D.t, D.cm, D.so, zs, D.ys, D.ir⟩ f q a2 c2) wr := by
  subst hz
  exact h

theorem Dg.asOut {w0 w wr : World} {g : Nat} {a : Option Addr} {n cap r b : Nat} {T : TypeId} {rs : Array Value} {D : DV} {a1 : Option Addr} {c1 : Nat} {a2 : Option Addr} {c2 : Nat} {f : Option Addr} {m q : Nat} {zs : List Int} (hz : zs.length = m) (h : Dg w0 g a n cap w r b T rs ((dvc D a1 c1 a2 c2).setIfInBounds 4 (.slice f m q)) [bRow a1 D.xs.length c1 D.xs, bRow f m q zs] wr) : Dg w0 g a n cap w r b T rs (dvc ⟨D.t, D.cm, D.so, D.xs, zs, D.ir⟩ a1 c1 f q) (dvF ⟨D.t, D.cm, D.so, D.xs, zs, D.ir⟩ a1 c1 f q) wr := by
  subst hz
  exact h

/-- The answer: the value as it lies, in the answer's place. -/
theorem Dg.out {w0 w wr : World} {g : Nat} {a : Option Addr} {n cap b : Nat} {T : TypeId} {rs cs : Array Value} {L : List FRow} (h : Dg w0 g a n cap w w.heap.size b T rs cs L wr) (x0 x1 x2 x3 x4 x5 : Value) : Fam w.heap.size (put6 wr w.heap.size x0 x1 x2 x3 x4 x5).heap.size (put6 wr w.heap.size x0 x1 x2 x3 x4 x5) L ∧ Cs w0 g a n cap w (put6 wr w.heap.size x0 x1 x2 x3 x4 x5) := by
  have hr := h.c.rlt
  have hg := h.c.glt
  have h0 := h.c.cu.1.new
  exact ⟨(h.fam.put6 w.heap.size (.inl (by omega)) x0 x1 x2 x3 x4 x5).low (by omega) (by rw [size_put6]; exact Nat.le_refl _), h.c.cu.put6 _ (Nat.le_refl _) (by omega) (by omega) _ _ _ _ _ _⟩

set_option maxRecDepth 100000 in
set_option maxHeartbeats 6400000 in
theorem l8DrawAny_c {w0 : World} {g : Nat} {a : Option Addr} {n cap : Nat} {zs : List Int} (hcd : Code w0 a n zs) (w : World) (hc : Cur w0 w g a n cap) :
    Calls Try.prog 31 #[.pointer (some ⟨g, 0, none⟩)] w fun e w' => ∃ (D : DV) (a1 : Option Addr) (c1 : Nat) (a2 : Option Addr) (c2 : Nat), e = .returned (.agg (dvc D a1 c1 a2 c2)) ∧ Hid (FitsA D) ∧ Hid (Fam w.heap.size w'.heap.size w' (dvF D a1 c1 a2 c2)) ∧ Hid (Cs w0 g a n cap w w') := by
  have HD : Hid (Code w0 a n zs) := hcd
  have HC : Hid (Cur w0 w g a n cap) := hc
  have hgl := dhid hc.lt
  clear hcd hc
  obtain ⟨i0, hi, hz0, hz1, hz2⟩ := info_parts Try.info5
  go_enter Try.func31, Try.ntmps31
  go_wp2_with fail
  refine (l8Draw_c HD.out _ (Cs.alloc HC.out _).1).mono ?_
  rintro e w1 ⟨D, a1, c1, a2, c2, rfl, FT, FM, hs1⟩
  have CA := dhid (Cs.alloc HC.out (.cells (dvc zeroD none 0 none 0) 26))
  have RR := dhid (hs1.out.keep (heap_alloc_new w (.cells (dvc zeroD none 0 none 0) 26)) (Nat.ne_of_gt hgl.out))
  have Z1 := dhid (show w.heap.size < w1.heap.size from blk RR.out)
  have DX : Hid (Dg w0 g a n cap w w.heap.size w1.heap.size 26 (dvc zeroD none 0 none 0) (dvc D a1 c1 a2 c2) (dvF D a1 c1 a2 c2) (w1.alloc (.cells (dvc D a1 c1 a2 c2) 26))) :=
    ⟨⟨heap_alloc_new _ _, row_al8 RR.out _, (CA.out.trans hs1.out).trans (Cs.alloc hs1.out.1 _), hgl.out, Z1.out, Nat.le_refl _⟩, (FM.out.below ((Below.refl _ _).alloc (Nat.le_refl _) _)).low (by rw [World.size_alloc]; exact Nat.le_refl _) (by rw [World.size_alloc]; omega), fun q hq e => by have := FM.out.hi q hq _ e; omega⟩
  have FA := dhid FT.out.any
  clear hs1 FM FT CA RR
  dsimp only [dvc] at DX ⊢
  go_wp2_with fail
  refine (l1Once_c HD.out 14 (by omega) _ DX.out.cur).mono ?_
  rintro e w2 ⟨c2', rfl, hs2⟩
  have DX2 := dhid (DX.out.next hs2.out)
  clear DX hs2
  go_upto_if 7 with fail
  go_cut [] from 4 (fun wc => ∃ (D : DV) (a1 : Option Addr) (c1 : Nat) (a2 : Option Addr) (c2 : Nat), Hid (Dg w0 g a n cap w w.heap.size w1.heap.size 26 (dvc zeroD none 0 none 0) (dvc D a1 c1 a2 c2) (dvF D a1 c1 a2 c2) wc) ∧ Hid (FitsA D))
  case first =>
    cases c2' with
    | false =>
      go_wp2_with fail
      go_meet
      exact ⟨_, _, _, _, _, DX2, FA⟩
    | true =>
      go_wp2_with fail
      refine (l1Below_c HD.out 3 (by omega) _ DX2.out.cur).mono ?_
      rintro e w3 ⟨x, rfl, hx, hs3⟩
      obtain ⟨k, rfl⟩ := Int.eq_ofNat_of_zero_le hx.1
      have DX3 := dhid (DX2.out.next hs3.out)
      have hk : k < 3 := by have := hx.2; omega
      clear DX2 hs3 hx
      match k, hk with
      | 0, _ =>
        go_wp2_with fail
        refine (l1Below_c HD.out 2 (by omega) _ DX3.out.cur).mono ?_
        rintro e w4 ⟨y, rfl, hy, hs4⟩
        obtain ⟨k, rfl⟩ := Int.eq_ofNat_of_zero_le hy.1
        have DX4 := dhid (DX3.out.next hs4.out)
        have hk : k < 2 := by have := hy.2; omega
        clear DX3 hs4 hy
        match k, hk with
        | 0, _ =>
          have hb2 : i0.bytes * 16 ≤ 281474976710656 := by rw [hz2]; omega
          have hb3 : 16 ≤ maxLen := by unfold maxLen; omega
          go_wp2_with (first | (at_make; refine wpList_make_full _ rfl (.tmp 14) (.tmp 14) 22 rfl w4.heap.size 5 i0 (.int .u8 0) 1 Try.underlying22 hi hz0 hz1 .i64 .i64 _ _ 16 rfl rfl rfl rfl hb2 hb3 (Nat.le_refl _) ?_; intro wm hown hgrow; have DN := DX4.out.fresh (L1 := []) (L2 := [bRow a2 D.ys.length c2 D.ys]) (bRow (some ⟨w4.heap.size, 0, none⟩) 16 16 (List.replicate 16 0)) (made8 hown) ((Below.refl _ _).grown hgrow (Nat.le_refl _) (by intro k h; cases h)); have k3 := (cells6 DN.c.row).2.2.2.1; have z3 := froz DN.c.row 3; have DZ := dhid (DN.put 3 (.slice (some ⟨w4.heap.size, 0, none⟩) 16 16)); clear DN hown hgrow))
          go_meet
          refine ⟨⟨D.t, D.cm, D.so, List.replicate 16 0, D.ys, D.ir⟩, some ⟨w4.heap.size, 0, none⟩, 16, a2, c2, ?_, ?_⟩
          · exact Dg.asIn (D := D) (a1 := a1) (c1 := c1) (a2 := a2) (c2 := c2) (zs := List.replicate 16 0) (by rw [List.length_replicate]) DZ.out
          · exact FA.out.newIn 16 (by omega)
        | 1, _ =>
          have hb2 : i0.bytes * 17 ≤ 281474976710656 := by rw [hz2]; omega
          have hb3 : 17 ≤ maxLen := by unfold maxLen; omega
          go_wp2_with (first | (at_make; refine wpList_make_full _ rfl (.tmp 14) (.tmp 14) 22 rfl w4.heap.size 5 i0 (.int .u8 0) 1 Try.underlying22 hi hz0 hz1 .i64 .i64 _ _ 17 rfl rfl rfl rfl hb2 hb3 (Nat.le_refl _) ?_; intro wm hown hgrow; have DN := DX4.out.fresh (L1 := []) (L2 := [bRow a2 D.ys.length c2 D.ys]) (bRow (some ⟨w4.heap.size, 0, none⟩) 17 17 (List.replicate 17 0)) (made8 hown) ((Below.refl _ _).grown hgrow (Nat.le_refl _) (by intro k h; cases h)); have k3 := (cells6 DN.c.row).2.2.2.1; have z3 := froz DN.c.row 3; have DZ := dhid (DN.put 3 (.slice (some ⟨w4.heap.size, 0, none⟩) 17 17)); clear DN hown hgrow))
          go_meet
          refine ⟨⟨D.t, D.cm, D.so, List.replicate 17 0, D.ys, D.ir⟩, some ⟨w4.heap.size, 0, none⟩, 17, a2, c2, ?_, ?_⟩
          · exact Dg.asIn (D := D) (a1 := a1) (c1 := c1) (a2 := a2) (c2 := c2) (zs := List.replicate 17 0) (by rw [List.length_replicate]) DZ.out
          · exact FA.out.newIn 17 (by omega)
        | k + 2, h => exact absurd h (by omega)
      | 1, _ =>
        go_wp2_with fail
        refine (l1Below_c HD.out 2 (by omega) _ DX3.out.cur).mono ?_
        rintro e w4 ⟨y, rfl, hy, hs4⟩
        obtain ⟨k, rfl⟩ := Int.eq_ofNat_of_zero_le hy.1
        have DX4 := dhid (DX3.out.next hs4.out)
        have hk : k < 2 := by have := hy.2; omega
        clear DX3 hs4 hy
        match k, hk with
        | 0, _ =>
          have hb2 : i0.bytes * 4096 ≤ 281474976710656 := by rw [hz2]; omega
          have hb3 : 4096 ≤ maxLen := by unfold maxLen; omega
          go_wp2_with (first | (at_make; refine wpList_make_full _ rfl (.tmp 21) (.tmp 21) 22 rfl w4.heap.size 5 i0 (.int .u8 0) 1 Try.underlying22 hi hz0 hz1 .i64 .i64 _ _ 4096 rfl rfl rfl rfl hb2 hb3 (Nat.le_refl _) ?_; intro wm hown hgrow; have DN := DX4.out.fresh (L1 := [bRow a1 D.xs.length c1 D.xs]) (L2 := []) (bRow (some ⟨w4.heap.size, 0, none⟩) 4096 4096 (List.replicate 4096 0)) (made8 hown) ((Below.refl _ _).grown hgrow (Nat.le_refl _) (by intro k h; cases h)); have k3 := (cells6 DN.c.row).2.2.2.2.1; have z3 := froz DN.c.row 4; have DZ := dhid (DN.put 4 (.slice (some ⟨w4.heap.size, 0, none⟩) 4096 4096)); clear DN hown hgrow))
          go_meet
          refine ⟨⟨D.t, D.cm, D.so, D.xs, List.replicate 4096 0, D.ir⟩, a1, c1, some ⟨w4.heap.size, 0, none⟩, 4096, ?_, ?_⟩
          · exact Dg.asOut (D := D) (a1 := a1) (c1 := c1) (a2 := a2) (c2 := c2) (zs := List.replicate 4096 0) (by rw [List.length_replicate]) DZ.out
          · exact FA.out.newOut 4096 (by omega)
        | 1, _ =>
          have hb2 : i0.bytes * 4097 ≤ 281474976710656 := by rw [hz2]; omega
          have hb3 : 4097 ≤ maxLen := by unfold maxLen; omega
          go_wp2_with (first | (at_make; refine wpList_make_full _ rfl (.tmp 21) (.tmp 21) 22 rfl w4.heap.size 5 i0 (.int .u8 0) 1 Try.underlying22 hi hz0 hz1 .i64 .i64 _ _ 4097 rfl rfl rfl rfl hb2 hb3 (Nat.le_refl _) ?_; intro wm hown hgrow; have DN := DX4.out.fresh (L1 := [bRow a1 D.xs.length c1 D.xs]) (L2 := []) (bRow (some ⟨w4.heap.size, 0, none⟩) 4097 4097 (List.replicate 4097 0)) (made8 hown) ((Below.refl _ _).grown hgrow (Nat.le_refl _) (by intro k h; cases h)); have k3 := (cells6 DN.c.row).2.2.2.2.1; have z3 := froz DN.c.row 4; have DZ := dhid (DN.put 4 (.slice (some ⟨w4.heap.size, 0, none⟩) 4097 4097)); clear DN hown hgrow))
          go_meet
          refine ⟨⟨D.t, D.cm, D.so, D.xs, List.replicate 4097 0, D.ir⟩, a1, c1, some ⟨w4.heap.size, 0, none⟩, 4097, ?_, ?_⟩
          · exact Dg.asOut (D := D) (a1 := a1) (c1 := c1) (a2 := a2) (c2 := c2) (zs := List.replicate 4097 0) (by rw [List.length_replicate]) DZ.out
          · exact FA.out.newOut 4097 (by omega)
        | k + 2, h => exact absurd h (by omega)
      | 2, _ =>
        go_wp2_with fail
        have HA := Cs.alloc DX3.out.cur (.cells #[.int .i64 (-1), .int .i64 2, .int .i64 4611686018427387904] 2)
        refine (l1Below_c HD.out 3 (by omega) _ HA.1).mono ?_
        rintro e w4 ⟨x, rfl, hx, hs4⟩
        obtain ⟨j, rfl⟩ := Int.eq_ofNat_of_zero_le hx.1
        obtain ⟨v, hv, hcell⟩ := few_ints [-1, 2, 4611686018427387904] 2 (hs4.out.keep (heap_alloc_new _ _) (Nat.ne_of_gt DX3.out.cur.lt)) (by decide) (k := j) (by have := hx.2; simp; omega)
        have HV : Hid ((Lit.int .i64 v).wf = true) := hv
        have DX4 := dhid (DX3.out.next (HA.trans hs4.out))
        have k5 := (cells6 DX4.out.c.row).2.2.2.2.2
        have z5 := froz DX4.out.c.row 5
        obtain ⟨hx0, hx1⟩ := hx
        clear hv hs4 DX3 HA
        go_wp2_with fail
        go_meet
        exact ⟨⟨D.t, D.cm, D.so, D.xs, D.ys, v⟩, a1, c1, a2, c2, DX4.out.put 5 (.int .i64 v), ⟨FA.out.t, FA.out.cm, HV.out, FA.out.by_, FA.out.l1, FA.out.l2⟩⟩
      | k + 3, h => exact absurd h (by omega)
  case rest =>
    clear DX2 FA
    obtain ⟨D, a1, c1, a2, c2, DX, FA⟩ := hcut
    obtain ⟨p0, p1, p2, p3, p4, p5⟩ := cells6 DX.out.c.row
    obtain ⟨s0, s1, s2, s3, s4, s5⟩ := cells6 DX.out.c.res
    obtain ⟨y0, y1, y2, y3, y4, y5⟩ := froz6 DX.out.c.res
    have OUT := dhid (DX.out.out (.int .u64 D.t) (.int .u64 D.cm) (.bool D.so) (.slice a1 D.xs.length c1) (.slice a2 D.ys.length c2) (.int .i64 D.ir))
    have RES := dhid DX.out.c.res
    have nd1 : ¬ w1.heap.size = w.heap.size := by have := Z1.out; omega
    have nd2 : ¬ w.heap.size = w1.heap.size := by have := Z1.out; omega
    clear DX
    go_wp2_with fail
    exact bodyPost_ret (results_cell_row Try.results31 _ _ _ _ _ _ _ rfl (row_put6 RES.out _ _ _ _ _ _) Try.underlying26 rfl dev_size) rfl ⟨D, a1, c1, a2, c2, rfl, FA, OUT.out.1, OUT.out.2⟩

end Go.Proofs.Ytbkddoibefgplaa
