/- Own lemmas. -/
import Derived.Test.YtcdjfiljlahaeaaK01
import Derived.BigQuiet
import Derived.Deep.RegionWith
import Derived.Laws.Tables
import Derived.RegionTactic
import Derived.WalkKit
import Derived.OwnWalk
import Derived.Test.YtcdjfiljlahaeaaProg
import Derived.Great.BuildSlice
namespace Go.Proofs.Ytcdjfiljlahaeaa
open Go.RowKit
set_option linter.unusedVariables false

theorem Sl.next {w : World} {b off : Nat} {zs : List Int} (h : Sl .u8 w (some ⟨b, off, none⟩) zs) : Sl .u8 w (some ⟨b, off + 1, none⟩) (zs.drop 1) := by
  intro i hi
  rw [List.length_drop] at hi
  obtain ⟨b', off', e, hb, hc⟩ := h (i + 1) (by omega)
  simp only [Option.some.injEq, Addr.mk.injEq, and_true] at e
  obtain ⟨rfl, rfl⟩ := e
  refine ⟨_, _, rfl, hb, ?_⟩
  have e2 : (zs.drop 1).getD i 0 = zs.getD (i + 1) 0 := by
    rw [List.getD_eq_getElem?_getD, List.getD_eq_getElem?_getD, List.getElem?_drop, Nat.add_comm]
  rw [e2, show off + 1 + i = off + (i + 1) from by omega]
  exact hc

set_option maxRecDepth 100000 in
set_option maxHeartbeats 1600000 in
theorem l8Lines_any (t cm : Int) (so : Bool) (a1 : Option Addr) (n1 c1 : Nat) (a2 : Option Addr) (n2 c2 : Nat) (ir : Int) (w : World) (hn1 : n1 ≤ 1048576) :
    Calls Try.prog 51 #[.agg #[.int .u64 t, .int .u64 cm, .bool so, .slice a1 n1 c1, .slice a2 n2 c2, .int .i64 ir]] w fun e w' => e = .returned (.int .u64 (IntKind.u64.wrap (IntKind.u64.wrap (IntKind.u64.wrap (8 * oneIf so) + IntKind.u64.wrap (128 * oneIf (decide (cm ≤ t)))) + IntKind.u64.wrap (2048 * oneIf ((ir == 1) && decide (0 < n1)))))) ∧ Below w.heap.size w w' := by
  have HI : Hid (∀ (b : Bool) w, Calls Try.prog 66 #[.bool b] w fun e w' => e = .returned (.int .u64 (oneIf b)) ∧ ∃ m, w' = w.drewN m) := fun b w => (l3If_dev b w).mono fun _ _ h => ⟨h.1, 0, h.2⟩
  have hB : ∀ o m, Below w.heap.size w ((w.alloc o).drewN m) := fun o m => ⟨rfl, rfl, rfl, by simp, fun k hk => Below.heap_alloc w o k hk⟩
  clear hn1
  cases ti : (ir == 1) with
  | true =>
    go_enter Try.func51, Try.ntmps51
    go_wp2_with fail
    go_quiet (first | (go_at_call 66; with_reducible refine Calls.quiet_of (HI.out _ _)))
    go_wp2_with fail
    go_ret
    exact ⟨rfl, hB _ _⟩
  | false =>
    go_enter Try.func51, Try.ntmps51
    go_wp2_with fail
    go_quiet (first | (go_at_call 66; with_reducible refine Calls.quiet_of (HI.out _ _)))
    go_wp2_with fail
    go_ret
    exact ⟨rfl, hB _ _⟩

set_option maxRecDepth 100000 in
set_option maxHeartbeats 6400000 in
theorem l9Line_x (pc : Int) (ax : Option Addr) (nx cx : Nat) (pr : Int) (g cc : Nat) (ar : Option Addr) (nr cr : Nat) (t cm : Int) (so : Bool) (ai : Option Addr) (ni ci : Nat) (ao : Option Addr) (no co : Nat) (ir hd : Int) (hl wt : Bool) (b : Nat) (y ln : Int) (w : World) (hrow : w.heap[b]? = some (.cells #[.int .u64 pc, .slice ax nx cx, .int .i64 pr, .slice (some ⟨g, 0, none⟩) 22 cc, .slice ar nr cr, .int .u64 t, .int .u64 cm, .bool so, .slice ai ni ci, .slice ao no co, .int .i64 ir, .int .u64 hd, .bool hl, .bool wt] 30 (0, 0))) (hcell : w.cell? ⟨g, 9, none⟩ = some (.int .u64 y)) (hfz : w.frozen? ⟨g, 9, none⟩ = false) (hg : g < w.heap.size)
    (hN : ∀ w', Below w.heap.size w w' → Calls Try.prog 51 #[.agg #[.int .u64 t, .int .u64 cm, .bool so, .slice ai ni ci, .slice ao no co, .int .i64 ir]] w' fun e w'' => e = .returned (.int .u64 ln) ∧ Below w'.heap.size w' w'') :
    Calls Try.prog 26 #[.pointer (some ⟨b, 0, none⟩)] w fun e w' => e = .returned (.tuple #[]) ∧ ∃ w1, Below w.heap.size w w1 ∧ w' = w1.setCell ⟨g, 9, none⟩ (.int .u64 (bits .or .u64 (bits .andNot .u64 y 2184) ln)) := by
  have HN : Hid (Calls Try.prog 51 #[.agg #[.int .u64 t, .int .u64 cm, .bool so, .slice ai ni ci, .slice ao no co, .int .i64 ir]] w.drew fun e w'' => e = .returned (.int .u64 ln) ∧ Below w.drew.heap.size w.drew w'') := hN w.drew (Below.refl _ _).drew
  have HROW := dhid hrow
  have HG := dhid hg
  have HC := dhid (And.intro hcell hfz)
  obtain ⟨p0, p1, p2, p3, p4, p5, p6, p7, p8, p9, p10, p11, p12, p13⟩ := cells14 hrow
  clear hN hrow hg
  go_enter Try.func26, Try.ntmps26
  go_wp2_with fail
  go_region_with (first | (go_at_call 51; with_reducible refine HN.out.mono ?_; rintro e w1 ⟨rfl, hb1⟩; have B1 := dhid (below_trans (Below.refl w.heap.size w).drew hb1); clear hb1; obtain ⟨q0, q1, q2, q3, q4, q5, q6, q7, q8, q9, q10, q11, q12, q13⟩ := cells14 (dstays B1.out HROW.out); have hc1 := (B1.out.cell (p := ⟨g, 9, none⟩) HG.out).trans HC.out.1; have hf1 : w1.frozen? ⟨g, 9, none⟩ = false := (by have h1 := HC.out.2; have h2 := B1.out.block g HG.out; unfold World.frozen? at h1 ⊢; dsimp only at h1 ⊢; rw [h2]; exact h1)))
  all_goals go_wp2_with fail
  all_goals refine bodyPost_end (results_none rfl _ _ _) rfl ?_
  all_goals exact ⟨rfl, w1, B1.out, rfl⟩

def lineM (M : MV) : MV := ⟨M.pc, M.x, M.pr, M.cs.set 9 (bits .or .u64 (bits .andNot .u64 (M.cs.getD 9 0) 2184) (linesV M.d)), M.ram, M.d, M.hd, M.hl, M.wt⟩

theorem mvc_line (M : MV) (A : MA) : mvc (lineM M) A = mvc M A := by
  simp [mvc, lineM]

theorem grown_one (w : World) (g i : Nat) (v : Value) : w.grownBy (w.setCell ⟨g, i, none⟩ v) (some g) :=
  ⟨rfl, rfl, rfl, by rw [size_set]; exact Nat.le_refl _, fun k _ hk => Below.heap_setCell w ⟨g, i, none⟩ v k (fun h => hk (by rw [h]))⟩

theorem l9Line_any (M : MV) (A : MA) (b B E : Nat) (w : World) (h22 : M.cs.length = 22) (hl : MLen M) (hrow : w.heap[b]? = some (.cells (mvc M A) 30 (0, 0))) (hf : Fam B E w (mvF M A)) (hb : ∀ q ∈ mvF M A, q.v.ownBlock ≠ some b) :
    Calls Try.prog 26 #[.pointer (some ⟨b, 0, none⟩)] w fun e w' => e = .returned (.tuple #[]) ∧ w'.heap[b]? = some (.cells (mvc (lineM M) A) 30 (0, 0)) ∧ Fam B E w' (mvF (lineM M) A) ∧ KeepL (mvF M A) w w' := by
  have hmem : wRow A.ac M.cs.length A.cc M.cs ∈ mvF M A := by simp [mvF]
  have ho := hf.own _ hmem
  have hsl := hf.msl
  obtain ⟨g, off, hac, hg, hc⟩ := hsl.cs 9 (by omega)
  have hoff : off = 0 := by
    rcases ho.2 with ⟨e, _⟩ | ⟨g', cap, cur, e, _⟩
    · have e2 : Value.slice A.ac M.cs.length A.cc = .slice none 0 0 := e
      injection e2 with e3
      rw [hac] at e3
      cases e3
    · have e2 : Value.slice A.ac M.cs.length A.cc = .slice (some ⟨g', 0, none⟩) M.cs.length cap := e
      injection e2 with e3
      rw [hac] at e3
      injection e3 with e4
      injection e4
  subst hoff
  rw [Nat.zero_add] at hc
  have hblk : (wRow A.ac M.cs.length A.cc M.cs).v.ownBlock = some g := by show (Value.slice A.ac M.cs.length A.cc).ownBlock = _; rw [hac]; rfl
  have hgb : g ≠ b := fun e => hb _ hmem (by rw [hblk, e])
  have hfz : w.frozen? ⟨g, 9, none⟩ = false := by
    rcases ho.2 with ⟨e, _⟩ | ⟨g', cap, cur, e, h1, h2, _⟩
    · have e2 : Value.slice A.ac M.cs.length A.cc = .slice none 0 0 := e
      rw [hac] at e2
      cases e2
    · have e2 : Value.slice A.ac M.cs.length A.cc = .slice (some ⟨g', 0, none⟩) M.cs.length cap := e
      rw [hac] at e2
      injection e2 with e3
      injection e3 with e4
      injection e4 with e5
      subst e5
      exact froz h2 9
  have hr2 := hrow
  unfold mvc at hr2
  rw [hac, h22] at hr2
  refine (l9Line_x _ _ _ _ _ g _ _ _ _ _ _ _ _ _ _ _ _ _ _ _ _ _ b (M.cs.getD 9 0) (linesV M.d) w hr2 hc hfz hg (fun w' hw => l8Lines_any _ _ _ _ _ _ _ _ _ _ w' hl.xs)).mono ?_
  rintro e w' ⟨rfl, w1, hb1, rfl⟩
  have hf1 := hf.below hb1
  have ho1 := hf1.own _ hmem
  refine ⟨rfl, ?_, ?_⟩
  · rw [mvc_line]
    exact row_far (dstays hb1 hrow) ⟨g, 9, none⟩ _ (fun e => hgb e.symm)
  · have hgr : w1.grownBy (w1.setCell ⟨g, 9, none⟩ (.int .u64 (bits .or .u64 (bits .andNot .u64 (M.cs.getD 9 0) 2184) (linesV M.d)))) (wRow A.ac M.cs.length A.cc M.cs).v.ownBlock := by rw [hblk]; exact grown_one _ _ _ _
    have hst : (w1.setCell ⟨g, 9, none⟩ (.int .u64 (bits .or .u64 (bits .andNot .u64 (M.cs.getD 9 0) 2184) (linesV M.d)))).ownsRow B 25 1 (.slice A.ac M.cs.length A.cc) M.cs.length ((lineM M).cs.map (Value.int .u64)) := by
      have h2 : w1.ownsRow B 25 1 (.slice A.ac M.cs.length A.cc) M.cs.length (M.cs.map (Value.int .u64)) := ho1
      rw [hac] at h2 ⊢
      have h3 := (h2.stored 9 (.int .u64 (bits .or .u64 (bits .andNot .u64 (M.cs.getD 9 0) 2184) (linesV M.d)))).1
      rw [map_set_u64] at h3
      exact h3
    have hm := Fam.markL (L1 := [wRow A.ax M.x.length A.cx M.x]) (L2 := [bRow A.ar M.ram.length A.cr M.ram, bRow A.ai M.d.xs.length A.ci M.d.xs, bRow A.ao M.d.ys.length A.co M.d.ys]) (r := wRow A.ac M.cs.length A.cc M.cs) hf1 hgr _ hst
    refine ⟨?_, (KeepL.of_below hb1).trans hm.2⟩
    have hlen : (lineM M).cs.length = M.cs.length := by simp [lineM]
    unfold mvF
    rw [hlen]
    exact hm.1

theorem row_below {B : Nat} {v w : World} (h : Below B v w) {g : Nat} (hg : B ≤ g) (cs : Array Value) : Below B v (w.setRow g cs) :=
  ⟨h.os, h.tape, h.output, by rw [setRow_size]; exact h.size, fun k hk => (setRow_other w g k cs (by omega)).trans (h.block k hk)⟩

structure Mp (B r : Nat) (M : MV) (A : MA) (W : World) : Prop where
  row : W.heap[r]? = some (.cells (mvc M A) 30 (0, 0))
  fam : Fam B W.heap.size W (mvF M A)
  ne : ∀ q ∈ mvF M A, q.v.ownBlock ≠ some r
  lo : B ≤ r

structure Kx (r : Nat) (L L' : List FRow) (w w' : World) : Prop where
  os : w'.os = w.os
  tape : w'.tape = w.tape
  output : w'.output = w.output
  size : w.heap.size ≤ w'.heap.size
  block : ∀ k, k < w.heap.size → k ≠ r → (∀ q ∈ L, q.v.ownBlock ≠ some k) → w'.heap[k]? = w.heap[k]?
  own : ∀ q ∈ L', ∀ k, q.v.ownBlock = some k → k < w.heap.size → ∃ q0 ∈ L, q0.v.ownBlock = some k

theorem Kx.refl (r : Nat) (L : List FRow) (w : World) : Kx r L L w w := ⟨rfl, rfl, rfl, Nat.le_refl _, fun _ _ _ _ => rfl, fun q hq k e _ => ⟨q, hq, e⟩⟩

theorem Kx.trans {r : Nat} {L1 L2 L3 : List FRow} {a b c : World} (h : Kx r L1 L2 a b) (k : Kx r L2 L3 b c) : Kx r L1 L3 a c :=
  ⟨k.os.trans h.os, k.tape.trans h.tape, k.output.trans h.output, Nat.le_trans h.size k.size,
    fun i hi hr ho => (k.block i (Nat.lt_of_lt_of_le hi h.size) hr (fun q hq e => by obtain ⟨q0, h0, e0⟩ := h.own q hq i e hi; exact ho q0 h0 e0)).trans (h.block i hi hr ho),
    fun q hq i e hi => by obtain ⟨q1, h1, e1⟩ := k.own q hq i e (Nat.lt_of_lt_of_le hi h.size); exact h.own q1 h1 i e1 hi⟩

theorem Kx.of_below {r : Nat} {L : List FRow} {w w' : World} (h : Below w.heap.size w w') : Kx r L L w w' :=
  ⟨h.os, h.tape, h.output, h.size, fun k hk _ _ => h.block k hk, fun q hq k e _ => ⟨q, hq, e⟩⟩

theorem Kx.set {r : Nat} {L : List FRow} (w : World) (i : Nat) (v : Value) : Kx r L L w (w.setCell ⟨r, i, none⟩ v) :=
  ⟨rfl, rfl, rfl, by rw [size_set]; exact Nat.le_refl _, fun k _ hr _ => Below.heap_setCell w ⟨r, i, none⟩ v k (fun e => hr (by rw [e])), fun q hq k e _ => ⟨q, hq, e⟩⟩

theorem Kx.of_keepL {r : Nat} {L L' : List FRow} {w w' : World} (h : KeepL L w w') (hs : ∀ q ∈ L', ∃ q0 ∈ L, q0.v = q.v) : Kx r L L' w w' :=
  ⟨h.os, h.tape, h.output, h.size, fun k hk _ ho => h.block k hk ho, fun q hq k e _ => by obtain ⟨q0, h0, e0⟩ := hs q hq; exact ⟨q0, h0, by rw [e0]; exact e⟩⟩

theorem Kx.of_grown {r : Nat} {L L' : List FRow} {w w' : World} {q : FRow} (h : w.grownBy w' q.v.ownBlock) (hq : q ∈ L) (hs : ∀ q ∈ L', ∃ q0 ∈ L, q0.v = q.v) : Kx r L L' w w' := Kx.of_keepL (KeepL.of_grown h hq) hs

theorem Kx.below {r B : Nat} {L L' : List FRow} {w w' : World} (h : Kx r L L' w w') (hr : B ≤ r) (hB : B ≤ w.heap.size) (hL : ∀ q ∈ L, ∀ k, q.v.ownBlock = some k → B ≤ k) : Below B w w' :=
  ⟨h.os, h.tape, h.output, h.size, fun k hk => h.block k (by omega) (by omega) (fun q hq e => by have := hL q hq k e; omega)⟩

theorem Mp.below {B r : Nat} {M : MV} {A : MA} {w w' : World} (h : Mp B r M A w) (hb : Below w.heap.size w w') : Mp B r M A w' :=
  ⟨dstays hb h.row, (h.fam.below hb).low (Nat.le_refl _) hb.size, h.ne, h.lo⟩

theorem Mp.lt {B r : Nat} {M : MV} {A : MA} {w : World} (h : Mp B r M A w) : r < w.heap.size := (Array.getElem?_eq_some_iff.1 h.row).1

theorem Mp.under {B r : Nat} {M M' : MV} {A A' : MA} {w w' : World} (h : Mp B r M A w) (k : Kx r (mvF M A) (mvF M' A') w w') : Below B w w' :=
  k.below h.lo (by have := h.lt; have := h.lo; omega) (fun q hq i e => ((h.fam.own q hq).lt i e).1)

theorem mvF_same {M M' : MV} {A : MA} (h1 : M'.x.length = M.x.length) (h2 : M'.cs.length = M.cs.length) (h3 : M'.ram.length = M.ram.length) (h4 : M'.d.xs.length = M.d.xs.length) (h5 : M'.d.ys.length = M.d.ys.length) : ∀ q ∈ mvF M' A, ∃ q0 ∈ mvF M A, q0.v = q.v := by
  intro q hq
  simp only [mvF, List.mem_cons, List.not_mem_nil, or_false] at hq
  rcases hq with rfl | rfl | rfl | rfl | rfl
  · exact ⟨wRow A.ax M.x.length A.cx M.x, by simp [mvF], by rw [h1]; rfl⟩
  · exact ⟨wRow A.ac M.cs.length A.cc M.cs, by simp [mvF], by rw [h2]; rfl⟩
  · exact ⟨bRow A.ar M.ram.length A.cr M.ram, by simp [mvF], by rw [h3]; rfl⟩
  · exact ⟨bRow A.ai M.d.xs.length A.ci M.d.xs, by simp [mvF], by rw [h4]; rfl⟩
  · exact ⟨bRow A.ao M.d.ys.length A.co M.d.ys, by simp [mvF], by rw [h5]; rfl⟩

theorem l9Line_mp (M : MV) (A : MA) (B r : Nat) (w : World) (h22 : M.cs.length = 22) (hl : MLen M) (h : Mp B r M A w) :
    Calls Try.prog 26 #[.pointer (some ⟨r, 0, none⟩)] w fun e w' => e = .returned (.tuple #[]) ∧ Mp B r (lineM M) A w' ∧ Kx r (mvF M A) (mvF (lineM M) A) w w' := by
  refine (l9Line_any M A r B w.heap.size w h22 hl h.row h.fam h.ne).mono fun e w' ⟨h1, h2, h3, h4⟩ => ⟨h1, ⟨h2, h3.low (Nat.le_refl _) h4.size, ?_, h.lo⟩, Kx.of_keepL h4 (mvF_same rfl (by simp [lineM]) rfl rfl rfl)⟩
  intro q hq e
  obtain ⟨q0, h0, e0⟩ := mvF_same (M := M) (M' := lineM M) (A := A) rfl (by simp [lineM]) rfl rfl rfl q hq
  exact h.ne q0 h0 (by rw [e0]; exact e)

def mst (x : Int) : Int := if (bits .and .u64 (bits .and .u64 x 924074 / 2048) 3 == 2) = true then bits .andNot .u64 (bits .and .u64 x 924074) 6144 else bits .and .u64 x 924074

def cfgByte (x : Int) (k : Nat) : Int :=
  if (bits .and .u64 (bits .and .u64 (x / 2 ^ (8 * k)) 159) 1 == 0) = true then bits .andNot .u64 (bits .and .u64 (x / 2 ^ (8 * k)) 159) 2 else bits .and .u64 (x / 2 ^ (8 * k)) 159

def cfgSum (x : Int) : Nat → Int
  | 0 => 0
  | k + 1 => bits .or .u64 (cfgSum x k) (IntKind.u64.wrap (cfgByte x k * 2 ^ (8 * k)))

def legal (p x : Int) : Int :=
  if p = 0 then mst x else if p = 1 then bits .and .u64 x 46079 else if p = 2 then bits .and .u64 x 546 else if p = 3 then bits .and .u64 x 2730
  else if p = 4 ∨ p = 10 then bits .andNot .u64 x 2 else if p = 6 ∨ p = 12 then bits .andNot .u64 x 3 else if p = 7 ∨ p = 13 then bits .and .u64 x 9223372036854775823
  else if p = 16 then cfgSum x 4 else if p = 17 ∨ p = 18 ∨ p = 19 ∨ p = 20 then bits .and .u64 x 18014398509481983 else x

def okAt (k : Nat) (x : Int) : Bool :=
  if k = 9 then (bits .and .u64 x 2730 == x) else if k = 15 then (x / 1152921504606846976 == 0) || (x / 1152921504606846976 == 8) else (legal k x == x)

def okRest (l : List Int) : Nat → Nat → Bool
  | 0, _ => true
  | n + 1, k => okAt k (l.getD k 0) && okRest l n (k + 1)

def csrsOk (n : Nat) (l : List Int) : Bool := decide (n = 22) && okRest l 22 0

theorem okRest_yes (l : List Int) (k : Nat) (hk : k < 22) (h : okAt k (l.getD k 0) = true) : okRest l (22 - k) k = okRest l (22 - (k + 1)) (k + 1) := by
  rw [show 22 - k = (22 - (k + 1)) + 1 from by omega, okRest, h, Bool.true_and]

theorem okRest_no (l : List Int) (k : Nat) (hk : k < 22) (h : okAt k (l.getD k 0) = false) : okRest l (22 - k) k = false := by
  rw [show 22 - k = (22 - (k + 1)) + 1 from by omega, okRest, h, Bool.false_and]

def csrNumbers : List Int := [768, 770, 771, 772, 773, 832, 833, 834, 835, 836, 261, 320, 321, 322, 323, 384, 928, 944, 945, 946, 947, 2818]

def privB (p : Int) : Bool := (p == 0) || (p == 1) || (p == 3)

def legalB (n : Nat) (l : List Int) (p : Int) : Bool := csrsOk n l && privB p

theorem l4Numbers_any (w : World) : Calls Try.prog 85 #[] w fun e w' => e = .returned (.slice (some ⟨w.heap.size, 0, none⟩) 22 22) ∧ w' = w.alloc (.cells (csrNumbers.map (Value.int .i64)).toArray 2) := by
  go_enter Try.func85, Try.ntmps85
  go_wp2_with fail
  go_ret
  exact ⟨rfl, rfl⟩

theorem l4Legal_1 (x : Int) (w : World) : Calls Try.prog 81 #[.int .i64 1, .int .u64 x] w fun e w' => e = .returned (.int .u64 (legal 1 x)) ∧ w' = w := by
  go_enter Try.func81, Try.ntmps81
  go_wp2_with fail
  go_ret
  exact ⟨rfl, rfl⟩

theorem l4Legal_2 (x : Int) (w : World) : Calls Try.prog 81 #[.int .i64 2, .int .u64 x] w fun e w' => e = .returned (.int .u64 (legal 2 x)) ∧ w' = w := by
  go_enter Try.func81, Try.ntmps81
  go_wp2_with fail
  go_ret
  exact ⟨rfl, rfl⟩

theorem l4Legal_3 (x : Int) (w : World) : Calls Try.prog 81 #[.int .i64 3, .int .u64 x] w fun e w' => e = .returned (.int .u64 (legal 3 x)) ∧ w' = w := by
  go_enter Try.func81, Try.ntmps81
  go_wp2_with fail
  go_ret
  exact ⟨rfl, rfl⟩

theorem l4Legal_4 (x : Int) (w : World) : Calls Try.prog 81 #[.int .i64 4, .int .u64 x] w fun e w' => e = .returned (.int .u64 (legal 4 x)) ∧ w' = w := by
  go_enter Try.func81, Try.ntmps81
  go_wp2_with fail
  go_ret
  exact ⟨rfl, rfl⟩

theorem l4Legal_10 (x : Int) (w : World) : Calls Try.prog 81 #[.int .i64 10, .int .u64 x] w fun e w' => e = .returned (.int .u64 (legal 10 x)) ∧ w' = w := by
  go_enter Try.func81, Try.ntmps81
  go_wp2_with fail
  go_ret
  exact ⟨rfl, rfl⟩

theorem l4Legal_6 (x : Int) (w : World) : Calls Try.prog 81 #[.int .i64 6, .int .u64 x] w fun e w' => e = .returned (.int .u64 (legal 6 x)) ∧ w' = w := by
  go_enter Try.func81, Try.ntmps81
  go_wp2_with fail
  go_ret
  exact ⟨rfl, rfl⟩

theorem l4Legal_12 (x : Int) (w : World) : Calls Try.prog 81 #[.int .i64 12, .int .u64 x] w fun e w' => e = .returned (.int .u64 (legal 12 x)) ∧ w' = w := by
  go_enter Try.func81, Try.ntmps81
  go_wp2_with fail
  go_ret
  exact ⟨rfl, rfl⟩

theorem l4Legal_7 (x : Int) (w : World) : Calls Try.prog 81 #[.int .i64 7, .int .u64 x] w fun e w' => e = .returned (.int .u64 (legal 7 x)) ∧ w' = w := by
  go_enter Try.func81, Try.ntmps81
  go_wp2_with fail
  go_ret
  exact ⟨rfl, rfl⟩

theorem l4Legal_13 (x : Int) (w : World) : Calls Try.prog 81 #[.int .i64 13, .int .u64 x] w fun e w' => e = .returned (.int .u64 (legal 13 x)) ∧ w' = w := by
  go_enter Try.func81, Try.ntmps81
  go_wp2_with fail
  go_ret
  exact ⟨rfl, rfl⟩

theorem l4Legal_17 (x : Int) (w : World) : Calls Try.prog 81 #[.int .i64 17, .int .u64 x] w fun e w' => e = .returned (.int .u64 (legal 17 x)) ∧ w' = w := by
  go_enter Try.func81, Try.ntmps81
  go_wp2_with fail
  go_ret
  exact ⟨rfl, rfl⟩

theorem l4Legal_18 (x : Int) (w : World) : Calls Try.prog 81 #[.int .i64 18, .int .u64 x] w fun e w' => e = .returned (.int .u64 (legal 18 x)) ∧ w' = w := by
  go_enter Try.func81, Try.ntmps81
  go_wp2_with fail
  go_ret
  exact ⟨rfl, rfl⟩

theorem l4Legal_19 (x : Int) (w : World) : Calls Try.prog 81 #[.int .i64 19, .int .u64 x] w fun e w' => e = .returned (.int .u64 (legal 19 x)) ∧ w' = w := by
  go_enter Try.func81, Try.ntmps81
  go_wp2_with fail
  go_ret
  exact ⟨rfl, rfl⟩

theorem l4Legal_20 (x : Int) (w : World) : Calls Try.prog 81 #[.int .i64 20, .int .u64 x] w fun e w' => e = .returned (.int .u64 (legal 20 x)) ∧ w' = w := by
  go_enter Try.func81, Try.ntmps81
  go_wp2_with fail
  go_ret
  exact ⟨rfl, rfl⟩

theorem l4Legal_0 (x : Int) (w : World) : Calls Try.prog 81 #[.int .i64 0, .int .u64 x] w fun e w' => e = .returned (.int .u64 (legal 0 x)) ∧ w' = w := by
  have F0 : legal 0 x = mst x := rfl
  unfold mst at F0
  obtain ⟨y, hy⟩ : ∃ y, bits .and .u64 x 924074 = y := ⟨_, rfl⟩
  rw [hy] at F0
  cases hc : (bits .and .u64 (y / 2048) 3 == 2) with
  | true =>
    have F : Hid (legal 0 x = bits .andNot .u64 y 6144) := by show _ = _; rw [F0, if_pos hc]
    clear F0
    go_enter Try.func81, Try.ntmps81
    go_wp2_with fail
    go_ret
    exact ⟨by rw [F.out]; rfl, rfl⟩
  | false =>
    have F : Hid (legal 0 x = y) := by show _ = _; rw [F0, if_neg (by rw [hc]; decide)]
    clear F0
    go_enter Try.func81, Try.ntmps81
    go_wp2_with fail
    go_ret
    exact ⟨by rw [F.out]; rfl, rfl⟩

set_option maxHeartbeats 800000 in
theorem l4Legal_16 (x : Int) (w : World) : Calls Try.prog 81 #[.int .i64 16, .int .u64 x] w fun e w' => e = .returned (.int .u64 (legal 16 x)) ∧ w' = w := by
  go_enter Try.func81, Try.ntmps81
  go_wp2_with fail
  go_loopw [5, 6] (fun y i wr => ∃ k : Nat, k ≤ 4 ∧ i = .int .u64 k ∧ y = .int .u64 (cfgSum x k) ∧ wr = w)
    (fun _ i _ => 4 - (intOf i).toNat)
  case atStart => exact ⟨0, by omega, rfl, rfl, rfl⟩
  case round =>
    obtain ⟨k, hk, rfl, rfl, rfl⟩ := hrel
    by_cases hlt : k < 4
    · have F0 : cfgSum x (k + 1) = bits .or .u64 (cfgSum x k) (IntKind.u64.wrap (cfgByte x k * 2 ^ (8 * k))) := rfl
      unfold cfgByte at F0
      have hk8 : IntKind.u64.wrap (8 * (k : Int)) = ((8 * k : Nat) : Int) := by rw [IntKind.wrap_u64]; omega
      have hlt8 : 8 * k < 64 := by omega
      have d : decide ((k : Int) < 4) = true := by simp; omega
      obtain ⟨b, hb⟩ : ∃ b, bits .and .u64 (x / 2 ^ (8 * k)) 159 = b := ⟨_, rfl⟩
      obtain ⟨y, hy⟩ : ∃ y, y = cfgSum x k := ⟨_, rfl⟩
      rw [hb, ← hy] at F0
      rw [← hy]
      cases hc : (bits .and .u64 b 1 == 0) with
      | true =>
        rw [if_pos hc] at F0
        have F : Hid (cfgSum x (k + 1) = bits .or .u64 y (IntKind.u64.wrap (bits .andNot .u64 b 2 * 2 ^ (8 * k)))) := F0
        clear F0 hy
        go_wp2_with fail
        go_roundw
        case rel => exact ⟨k + 1, by omega, by go_num, by rw [F.out], trivial⟩
        case measure => simp [intOf]; omega
      | false =>
        rw [if_neg (by rw [hc]; decide)] at F0
        have F : Hid (cfgSum x (k + 1) = bits .or .u64 y (IntKind.u64.wrap (b * 2 ^ (8 * k)))) := F0
        clear F0 hy
        go_wp2_with fail
        go_roundw
        case rel => exact ⟨k + 1, by omega, by go_num, by rw [F.out], trivial⟩
        case measure => simp [intOf]; omega
    · have hk4 : k = 4 := by omega
      subst hk4
      have F : Hid (legal 16 x = cfgSum x 4) := (rfl : legal 16 x = cfgSum x 4)
      generalize cfgSum x 4 = y at *
      go_wp2_with fail
      go_ret
      exact ⟨by rw [F.out]; rfl, rfl⟩

theorem legal_other {p : Int} (h : ¬ (p = 0 ∨ p = 1 ∨ p = 2 ∨ p = 3 ∨ p = 4 ∨ p = 10 ∨ p = 6 ∨ p = 12 ∨ p = 7 ∨ p = 13 ∨ p = 16 ∨ p = 17 ∨ p = 18 ∨ p = 19 ∨ p = 20)) (x : Int) : legal p x = x := by
  unfold legal
  rw [if_neg (by omega), if_neg (by omega), if_neg (by omega), if_neg (by omega), if_neg (by omega), if_neg (by omega), if_neg (by omega), if_neg (by omega), if_neg (by omega)]

set_option maxHeartbeats 800000 in
theorem l4Legal_any (p x : Int) (w : World) : Calls Try.prog 81 #[.int .i64 p, .int .u64 x] w fun e w' => e = .returned (.int .u64 (legal p x)) ∧ w' = w := by
  by_cases h : p = 0 ∨ p = 1 ∨ p = 2 ∨ p = 3 ∨ p = 4 ∨ p = 10 ∨ p = 6 ∨ p = 12 ∨ p = 7 ∨ p = 13 ∨ p = 16 ∨ p = 17 ∨ p = 18 ∨ p = 19 ∨ p = 20
  · rcases h with rfl | rfl | rfl | rfl | rfl | rfl | rfl | rfl | rfl | rfl | rfl | rfl | rfl | rfl | rfl
    · exact l4Legal_0 x w
    · exact l4Legal_1 x w
    · exact l4Legal_2 x w
    · exact l4Legal_3 x w
    · exact l4Legal_4 x w
    · exact l4Legal_10 x w
    · exact l4Legal_6 x w
    · exact l4Legal_12 x w
    · exact l4Legal_7 x w
    · exact l4Legal_13 x w
    · exact l4Legal_16 x w
    · exact l4Legal_17 x w
    · exact l4Legal_18 x w
    · exact l4Legal_19 x w
    · exact l4Legal_20 x w
  · have F : Hid (legal p x = x) := legal_other h x
    have d0 : (p == 0) = false := by simp; omega
    have d1 : (p == 1) = false := by simp; omega
    have d2 : (p == 2) = false := by simp; omega
    have d3 : (p == 3) = false := by simp; omega
    have d4 : (p == 4) = false := by simp; omega
    have d10 : (p == 10) = false := by simp; omega
    have d6 : (p == 6) = false := by simp; omega
    have d12 : (p == 12) = false := by simp; omega
    have d7 : (p == 7) = false := by simp; omega
    have d13 : (p == 13) = false := by simp; omega
    have d16 : (p == 16) = false := by simp; omega
    have d17 : (p == 17) = false := by simp; omega
    have d18 : (p == 18) = false := by simp; omega
    have d19 : (p == 19) = false := by simp; omega
    have d20 : (p == 20) = false := by simp; omega
    clear h
    go_enter Try.func81, Try.ntmps81
    go_wp2_with fail
    go_ret
    exact ⟨by rw [F.out]; rfl, rfl⟩

set_option maxHeartbeats 800000 in
theorem specCsrsOk_any (a : Option Addr) (n cap : Nat) (l : List Int) (w : World) (hz : l.length = n) (hs : Sl .u64 w a l) :
    Calls Try.prog 74 #[.slice a n cap] w fun e w' => e = .returned (.bool (csrsOk n l)) ∧ w' = w := by
  by_cases hn : n = 22
  · have hok : csrsOk n l = okRest l 22 0 := by simp [csrsOk, hn]
    rw [hok]
    have HZ : Hid (l.length = n) := hz
    subst hn
    clear hz hok
    go_enter Try.func74, Try.ntmps74
    go_wp2_with fail
    go_loopw [3] (fun i wr => ∃ k : Nat, k ≤ 22 ∧ i = .int .i64 k ∧ Hid (okRest l (22 - k) k = okRest l 22 0) ∧ wr = w)
      (fun i _ => 22 - (intOf i).toNat)
    case atStart => exact ⟨0, by omega, rfl, (rfl : okRest l (22 - 0) 0 = okRest l 22 0), rfl⟩
    case round =>
      obtain ⟨k, hk, rfl, hf, rfl⟩ := hrel
      by_cases hlt : k < 22
      · obtain ⟨b, off, rfl, hb, hc⟩ := hs k (by rw [HZ.out]; exact hlt)
        have Yes : okAt k (l.getD k 0) = true → Hid (okRest l (22 - (k + 1)) (k + 1) = okRest l 22 0) := fun h => (okRest_yes l k hlt h).symm.trans hf.out
        have No : okAt k (l.getD k 0) = false → Hid (okRest l 22 0 = false) := fun h => hf.out.symm.trans (okRest_no l k hlt h)
        generalize l.getD k 0 = x at *
        have dk : decide ((k : Int) < 22) = true := by simp; omega
        by_cases h9 : k = 9
        · subst h9
          cases ho : (bits .and .u64 x 2730 == x) with
          | true =>
            have F := Yes (by simpa [okAt] using ho)
            have d : (bits .and .u64 x 2730 != x) = false := by simp [bne, ho]
            clear Yes No
            go_wp2_with fail
            go_roundw
            case rel => exact ⟨9 + 1, by omega, by go_num, F, trivial⟩
            case measure => simp [intOf]
          | false =>
            have F := No (by simpa [okAt] using ho)
            have d : (bits .and .u64 x 2730 != x) = true := by simp [bne, ho]
            clear Yes No
            go_wp2_with fail
            go_ret
            exact ⟨by rw [F.out]; rfl, rfl⟩
        · have d9 : ((k : Int) == 9) = false := by simp; omega
          by_cases h15 : k = 15
          · subst h15
            have eo : okAt 15 x = ((x / 1152921504606846976 == 0) || (x / 1152921504606846976 == 8)) := by simp [okAt]
            obtain ⟨y, hy⟩ : ∃ y, x / 1152921504606846976 = y := ⟨_, rfl⟩
            rw [hy] at eo
            cases h0 : (y == 0) with
            | true =>
              have F := Yes (by rw [eo, h0]; rfl)
              have d : (y != 0) = false := by simp [bne, h0]
              clear Yes No eo
              go_wp2_with fail
              go_roundw
              case rel => exact ⟨15 + 1, by omega, by go_num, F, trivial⟩
              case measure => simp [intOf]
            | false =>
              have d : (y != 0) = true := by simp [bne, h0]
              cases h8 : (y == 8) with
              | true =>
                have F := Yes (by rw [eo, h0, h8]; rfl)
                have d2 : (y != 8) = false := by simp [bne, h8]
                clear Yes No eo
                go_wp2_with fail
                go_roundw
                case rel => exact ⟨15 + 1, by omega, by go_num, F, trivial⟩
                case measure => simp [intOf]
              | false =>
                have F := No (by rw [eo, h0, h8]; rfl)
                have d2 : (y != 8) = true := by simp [bne, h8]
                clear Yes No eo
                go_wp2_with fail
                go_ret
                exact ⟨by rw [F.out]; rfl, rfl⟩
          · have d15 : ((k : Int) == 15) = false := by simp; omega
            have ek : okAt k x = (legal k x == x) := by simp [okAt, h9, h15]
            cases ho : (legal k x == x) with
            | true =>
              have F := Yes (ek.trans ho)
              have d : (legal k x != x) = false := by simp [bne, ho]
              clear Yes No ek
              go_wp2_with fail
              refine (l4Legal_any _ _ _).mono ?_
              rintro e w1 ⟨rfl, hw1⟩
              subst hw1
              generalize legal k x = y at *
              go_wp2_with fail
              go_roundw
              case rel => exact ⟨k + 1, by omega, by go_num, F, trivial⟩
              case measure => simp [intOf]; omega
            | false =>
              have F := No (ek.trans ho)
              have d : (legal k x != x) = true := by simp [bne, ho]
              clear Yes No ek
              go_wp2_with fail
              refine (l4Legal_any _ _ _).mono ?_
              rintro e w1 ⟨rfl, hw1⟩
              subst hw1
              generalize legal k x = y at *
              go_wp2_with fail
              go_ret
              exact ⟨by rw [F.out]; rfl, rfl⟩
      · have hk2 : k = 22 := by omega
        subst hk2
        have F : Hid (okRest l 22 0 = true) := hf.out.symm
        go_wp2_with fail
        go_ret
        exact ⟨by rw [F.out]; rfl, rfl⟩
  · have F : Hid (csrsOk n l = false) := by show _ = _; simp [csrsOk, hn]
    have d : ((n : Int) != 22) = true := by simp; omega
    go_enter Try.func74, Try.ntmps74
    go_wp2_with fail
    go_ret
    exact ⟨by rw [F.out]; rfl, rfl⟩

end Go.Proofs.Ytcdjfiljlahaeaa

namespace Go.Proofs.Ytcdjfiljlahaeaa
open Go.RowKit
set_option linter.unusedVariables false

theorem l4Priv_any (p : Int) (w : World) : Calls Try.prog 75 #[.int .i64 p] w fun e w' => e = .returned (.bool (privB p)) ∧ w' = w := by
  cases h0 : (p == 0) with
  | true =>
    have F : Hid (privB p = true) := by show _ = _; simp [privB, h0]
    go_enter Try.func75, Try.ntmps75
    go_wp2_with fail
    go_ret
    exact ⟨by rw [F.out]; rfl, rfl⟩
  | false =>
    cases h1 : (p == 1) with
    | true =>
      have F : Hid (privB p = true) := by show _ = _; simp [privB, h1]
      go_enter Try.func75, Try.ntmps75
      go_wp2_with fail
      go_ret
      exact ⟨by rw [F.out]; rfl, rfl⟩
    | false =>
      have F : Hid (privB p = (p == 3)) := by show _ = _; simp [privB, h0, h1]
      obtain ⟨c, hc⟩ : ∃ c, (p == 3) = c := ⟨_, rfl⟩
      rw [hc] at F
      go_enter Try.func75, Try.ntmps75
      go_wp2_with fail
      go_ret
      exact ⟨by rw [F.out]; rfl, rfl⟩

theorem specLegal_any (a : Option Addr) (n cap : Nat) (l : List Int) (p : Int) (w : World) (hz : l.length = n) (hs : Sl .u64 w a l) :
    Calls Try.prog 64 #[.slice a n cap, .int .i64 p] w fun e w' => e = .returned (.bool (legalB n l p)) ∧ w' = w := by
  have HO : Hid (Calls Try.prog 74 #[.slice a n cap] w fun e w' => e = .returned (.bool (csrsOk n l)) ∧ w' = w) := specCsrsOk_any a n cap l w hz hs
  have HP : Hid (∀ w, Calls Try.prog 75 #[.int .i64 p] w fun e w' => e = .returned (.bool (privB p)) ∧ w' = w) := l4Priv_any p
  have F : Hid (legalB n l p = (csrsOk n l && privB p)) := (rfl : legalB n l p = _)
  generalize csrsOk n l = o at *
  generalize privB p = q at *
  clear hz hs
  cases o with
  | false =>
    go_enter Try.func64, Try.ntmps64
    go_wp2_with fail
    refine HO.out.mono ?_
    rintro e w1 ⟨rfl, hw1⟩
    subst hw1
    go_wp2_with fail
    go_ret
    exact ⟨by rw [F.out]; rfl, rfl⟩
  | true =>
    go_enter Try.func64, Try.ntmps64
    go_wp2_with fail
    refine HO.out.mono ?_
    rintro e w1 ⟨rfl, hw1⟩
    subst hw1
    go_wp2_with fail
    refine (HP.out _).mono ?_
    rintro e w2 ⟨rfl, hw2⟩
    subst hw2
    go_wp2_with fail
    go_ret
    exact ⟨by rw [F.out]; rfl, rfl⟩

end Go.Proofs.Ytcdjfiljlahaeaa

namespace Go.Proofs.Ytcdjfiljlahaeaa
open Go.RowKit
set_option linter.unusedVariables false

end Go.Proofs.Ytcdjfiljlahaeaa

namespace Go.Proofs.Ytcdjfiljlahaeaa
open Go.RowKit
set_option linter.unusedVariables false

theorem l1In_d (x a b : Int) (w : World) : Calls Try.prog 61 #[.int .i64 x, .int .i64 a, .int .i64 b] w fun e w' => e = .returned (.bool (decide (a ≤ x ∧ x ≤ b))) ∧ w' = w := by
  by_cases h1 : a ≤ x
  · by_cases h2 : x ≤ b
    · have F : Hid (decide (a ≤ x ∧ x ≤ b) = true) := by show decide (a ≤ x ∧ x ≤ b) = true; simp [h1, h2]
      have d1 : decide (a ≤ x) = true := by simpa using h1
      have d2 : decide (x ≤ b) = true := by simpa using h2
      clear h1 h2
      go_enter Try.func61, Try.ntmps61
      go_wp2
      go_ret
      exact ⟨by rw [F.out]; rfl, rfl⟩
    · have F : Hid (decide (a ≤ x ∧ x ≤ b) = false) := by show decide (a ≤ x ∧ x ≤ b) = false; simp [h2]
      have d1 : decide (a ≤ x) = true := by simpa using h1
      have d2 : decide (x ≤ b) = false := by simpa using h2
      clear h1 h2
      go_enter Try.func61, Try.ntmps61
      go_wp2
      go_ret
      exact ⟨by rw [F.out]; rfl, rfl⟩
  · have F : Hid (decide (a ≤ x ∧ x ≤ b) = false) := by show decide (a ≤ x ∧ x ≤ b) = false; simp [h1]
    have d1 : decide (a ≤ x) = false := by simpa using h1
    clear h1
    go_enter Try.func61, Try.ntmps61
    go_wp2
    go_ret
    exact ⟨by rw [F.out]; rfl, rfl⟩

end Go.Proofs.Ytcdjfiljlahaeaa

namespace Go.Proofs.Ytcdjfiljlahaeaa
open Go.RowKit
set_option linter.unusedVariables false

end Go.Proofs.Ytcdjfiljlahaeaa

namespace Go.Proofs.Ytcdjfiljlahaeaa
set_option linter.unusedVariables false

inductive Fm where | r | i | h | w | s | b | u | j | a | c | x
deriving DecidableEq

def Fm.str : Fm → ByteArray
  | .r => ⟨#[82]⟩ | .i => ⟨#[73]⟩ | .h => ⟨#[72]⟩ | .w => ⟨#[87]⟩ | .s => ⟨#[83]⟩ | .b => ⟨#[66]⟩ | .u => ⟨#[85]⟩ | .j => ⟨#[74]⟩ | .a => ⟨#[65]⟩ | .c => ⟨#[67]⟩ | .x => ⟨#[88]⟩

structure Row where
  name : ByteArray
  fm : Fm
  op : Int
  f3 : Int
  more : Int

def rows : List Row := [
  ⟨⟨#[108, 117, 105]⟩, .u, 55, (-1), 0⟩,
  ⟨⟨#[97, 117, 105, 112, 99]⟩, .u, 23, (-1), 0⟩,
  ⟨⟨#[106, 97, 108]⟩, .j, 111, (-1), 0⟩,
  ⟨⟨#[106, 97, 108, 114]⟩, .i, 103, 0, 0⟩,
  ⟨⟨#[98, 101, 113]⟩, .b, 99, 0, 0⟩,
  ⟨⟨#[98, 110, 101]⟩, .b, 99, 1, 0⟩,
  ⟨⟨#[98, 108, 116]⟩, .b, 99, 4, 0⟩,
  ⟨⟨#[98, 103, 101]⟩, .b, 99, 5, 0⟩,
  ⟨⟨#[98, 108, 116, 117]⟩, .b, 99, 6, 0⟩,
  ⟨⟨#[98, 103, 101, 117]⟩, .b, 99, 7, 0⟩,
  ⟨⟨#[108, 98]⟩, .i, 3, 0, 0⟩,
  ⟨⟨#[108, 104]⟩, .i, 3, 1, 0⟩,
  ⟨⟨#[108, 119]⟩, .i, 3, 2, 0⟩,
  ⟨⟨#[108, 100]⟩, .i, 3, 3, 0⟩,
  ⟨⟨#[108, 98, 117]⟩, .i, 3, 4, 0⟩,
  ⟨⟨#[108, 104, 117]⟩, .i, 3, 5, 0⟩,
  ⟨⟨#[108, 119, 117]⟩, .i, 3, 6, 0⟩,
  ⟨⟨#[115, 98]⟩, .s, 35, 0, 0⟩,
  ⟨⟨#[115, 104]⟩, .s, 35, 1, 0⟩,
  ⟨⟨#[115, 119]⟩, .s, 35, 2, 0⟩,
  ⟨⟨#[115, 100]⟩, .s, 35, 3, 0⟩,
  ⟨⟨#[97, 100, 100, 105]⟩, .i, 19, 0, 0⟩,
  ⟨⟨#[115, 108, 116, 105]⟩, .i, 19, 2, 0⟩,
  ⟨⟨#[115, 108, 116, 105, 117]⟩, .i, 19, 3, 0⟩,
  ⟨⟨#[120, 111, 114, 105]⟩, .i, 19, 4, 0⟩,
  ⟨⟨#[111, 114, 105]⟩, .i, 19, 6, 0⟩,
  ⟨⟨#[97, 110, 100, 105]⟩, .i, 19, 7, 0⟩,
  ⟨⟨#[115, 108, 108, 105]⟩, .h, 19, 1, 0⟩,
  ⟨⟨#[115, 114, 108, 105]⟩, .h, 19, 5, 0⟩,
  ⟨⟨#[115, 114, 97, 105]⟩, .h, 19, 5, 16⟩,
  ⟨⟨#[97, 100, 100, 105, 119]⟩, .i, 27, 0, 0⟩,
  ⟨⟨#[115, 108, 108, 105, 119]⟩, .w, 27, 1, 0⟩,
  ⟨⟨#[115, 114, 108, 105, 119]⟩, .w, 27, 5, 0⟩,
  ⟨⟨#[115, 114, 97, 105, 119]⟩, .w, 27, 5, 32⟩,
  ⟨⟨#[97, 100, 100]⟩, .r, 51, 0, 0⟩,
  ⟨⟨#[115, 117, 98]⟩, .r, 51, 0, 32⟩,
  ⟨⟨#[115, 108, 108]⟩, .r, 51, 1, 0⟩,
  ⟨⟨#[115, 108, 116]⟩, .r, 51, 2, 0⟩,
  ⟨⟨#[115, 108, 116, 117]⟩, .r, 51, 3, 0⟩,
  ⟨⟨#[120, 111, 114]⟩, .r, 51, 4, 0⟩,
  ⟨⟨#[115, 114, 108]⟩, .r, 51, 5, 0⟩,
  ⟨⟨#[115, 114, 97]⟩, .r, 51, 5, 32⟩,
  ⟨⟨#[111, 114]⟩, .r, 51, 6, 0⟩,
  ⟨⟨#[97, 110, 100]⟩, .r, 51, 7, 0⟩,
  ⟨⟨#[97, 100, 100, 119]⟩, .r, 59, 0, 0⟩,
  ⟨⟨#[115, 117, 98, 119]⟩, .r, 59, 0, 32⟩,
  ⟨⟨#[115, 108, 108, 119]⟩, .r, 59, 1, 0⟩,
  ⟨⟨#[115, 114, 108, 119]⟩, .r, 59, 5, 0⟩,
  ⟨⟨#[115, 114, 97, 119]⟩, .r, 59, 5, 32⟩,
  ⟨⟨#[109, 117, 108]⟩, .r, 51, 0, 1⟩,
  ⟨⟨#[109, 117, 108, 104]⟩, .r, 51, 1, 1⟩,
  ⟨⟨#[109, 117, 108, 104, 115, 117]⟩, .r, 51, 2, 1⟩,
  ⟨⟨#[109, 117, 108, 104, 117]⟩, .r, 51, 3, 1⟩,
  ⟨⟨#[100, 105, 118]⟩, .r, 51, 4, 1⟩,
  ⟨⟨#[100, 105, 118, 117]⟩, .r, 51, 5, 1⟩,
  ⟨⟨#[114, 101, 109]⟩, .r, 51, 6, 1⟩,
  ⟨⟨#[114, 101, 109, 117]⟩, .r, 51, 7, 1⟩,
  ⟨⟨#[109, 117, 108, 119]⟩, .r, 59, 0, 1⟩,
  ⟨⟨#[100, 105, 118, 119]⟩, .r, 59, 4, 1⟩,
  ⟨⟨#[100, 105, 118, 117, 119]⟩, .r, 59, 5, 1⟩,
  ⟨⟨#[114, 101, 109, 119]⟩, .r, 59, 6, 1⟩,
  ⟨⟨#[114, 101, 109, 117, 119]⟩, .r, 59, 7, 1⟩,
  ⟨⟨#[108, 114, 46, 119]⟩, .a, 47, 2, 2⟩,
  ⟨⟨#[115, 99, 46, 119]⟩, .a, 47, 2, 3⟩,
  ⟨⟨#[97, 109, 111, 115, 119, 97, 112, 46, 119]⟩, .a, 47, 2, 1⟩,
  ⟨⟨#[97, 109, 111, 97, 100, 100, 46, 119]⟩, .a, 47, 2, 0⟩,
  ⟨⟨#[97, 109, 111, 120, 111, 114, 46, 119]⟩, .a, 47, 2, 4⟩,
  ⟨⟨#[97, 109, 111, 97, 110, 100, 46, 119]⟩, .a, 47, 2, 12⟩,
  ⟨⟨#[97, 109, 111, 111, 114, 46, 119]⟩, .a, 47, 2, 8⟩,
  ⟨⟨#[97, 109, 111, 109, 105, 110, 46, 119]⟩, .a, 47, 2, 16⟩,
  ⟨⟨#[97, 109, 111, 109, 97, 120, 46, 119]⟩, .a, 47, 2, 20⟩,
  ⟨⟨#[97, 109, 111, 109, 105, 110, 117, 46, 119]⟩, .a, 47, 2, 24⟩,
  ⟨⟨#[97, 109, 111, 109, 97, 120, 117, 46, 119]⟩, .a, 47, 2, 28⟩,
  ⟨⟨#[108, 114, 46, 100]⟩, .a, 47, 3, 2⟩,
  ⟨⟨#[115, 99, 46, 100]⟩, .a, 47, 3, 3⟩,
  ⟨⟨#[97, 109, 111, 115, 119, 97, 112, 46, 100]⟩, .a, 47, 3, 1⟩,
  ⟨⟨#[97, 109, 111, 97, 100, 100, 46, 100]⟩, .a, 47, 3, 0⟩,
  ⟨⟨#[97, 109, 111, 120, 111, 114, 46, 100]⟩, .a, 47, 3, 4⟩,
  ⟨⟨#[97, 109, 111, 97, 110, 100, 46, 100]⟩, .a, 47, 3, 12⟩,
  ⟨⟨#[97, 109, 111, 111, 114, 46, 100]⟩, .a, 47, 3, 8⟩,
  ⟨⟨#[97, 109, 111, 109, 105, 110, 46, 100]⟩, .a, 47, 3, 16⟩,
  ⟨⟨#[97, 109, 111, 109, 97, 120, 46, 100]⟩, .a, 47, 3, 20⟩,
  ⟨⟨#[97, 109, 111, 109, 105, 110, 117, 46, 100]⟩, .a, 47, 3, 24⟩,
  ⟨⟨#[97, 109, 111, 109, 97, 120, 117, 46, 100]⟩, .a, 47, 3, 28⟩,
  ⟨⟨#[102, 101, 110, 99, 101]⟩, .i, 15, 0, 0⟩,
  ⟨⟨#[102, 101, 110, 99, 101, 46, 105]⟩, .i, 15, 1, 0⟩,
  ⟨⟨#[99, 115, 114, 114, 119]⟩, .c, 115, 1, 0⟩,
  ⟨⟨#[99, 115, 114, 114, 115]⟩, .c, 115, 2, 0⟩,
  ⟨⟨#[99, 115, 114, 114, 99]⟩, .c, 115, 3, 0⟩,
  ⟨⟨#[99, 115, 114, 114, 119, 105]⟩, .c, 115, 5, 0⟩,
  ⟨⟨#[99, 115, 114, 114, 115, 105]⟩, .c, 115, 6, 0⟩,
  ⟨⟨#[99, 115, 114, 114, 99, 105]⟩, .c, 115, 7, 0⟩,
  ⟨⟨#[101, 99, 97, 108, 108]⟩, .x, 115, 0, 0⟩,
  ⟨⟨#[101, 98, 114, 101, 97, 107]⟩, .x, 115, 0, 1⟩,
  ⟨⟨#[115, 114, 101, 116]⟩, .x, 115, 0, 258⟩,
  ⟨⟨#[109, 114, 101, 116]⟩, .x, 115, 0, 770⟩,
  ⟨⟨#[119, 102, 105]⟩, .x, 115, 0, 261⟩,
  ⟨⟨#[115, 102, 101, 110, 99, 101, 46, 118, 109, 97]⟩, .r, 115, 0, 9⟩]

def Row.f3z (r : Row) : Int := if r.f3 < 0 then 0 else r.f3

def Row.cellsI (r : Row) : List Value := [.string r.name, .string r.fm.str, .int .u64 r.op, .int .u64 r.f3z, .int .u64 r.more]

def Row.cellsS (r : Row) : List Value := [.string r.name, .string r.fm.str, .int .u64 r.op, .int .i64 r.f3, .int .u64 r.more]

def cellsI : Array Value := (rows.flatMap Row.cellsI).toArray

def cellsS : Array Value := (rows.flatMap Row.cellsS).toArray

theorem rows_len : rows.length = 98 := by rfl

theorem flat_drop {α β : Type} (f : α → List β) (m : Nat) : ∀ (l : List α), (∀ x ∈ l, (f x).length = m) → ∀ k (h : k < l.length), ((l.flatMap f).drop (k * m)).take m = f l[k] := by
  intro l
  induction l with
  | nil => intro _ k h; simp at h
  | cons x l ih =>
    intro hl k h
    have hx : (f x).length = m := hl x (by simp)
    cases k with
    | zero => simp [← hx]
    | succ k =>
      have e : (k + 1) * m = (f x).length + k * m := by rw [hx, Nat.succ_mul]; omega
      rw [e, List.flatMap_cons, List.drop_append, List.drop_of_length_le (by omega), Nat.add_sub_cancel_left]
      exact ih (fun y hy => hl y (by simp [hy])) k (by simpa using h)

theorem flat_get {α β : Type} (f : α → List β) (m : Nat) (l : List α) (hl : ∀ x ∈ l, (f x).length = m) (k : Nat) (h : k < l.length) (j : Nat) (hj : j < m) : (l.flatMap f)[k * m + j]? = (f l[k])[j]? := by
  rw [← flat_drop f m l hl k h]
  simp [hj]

def rowAt (k : Nat) : Row := rows.getD k ⟨⟨#[]⟩, .x, 0, 0, 0⟩

theorem rowAt_get (k : Nat) (h : k < 98) : rows[k]'(by rw [rows_len]; exact h) = rowAt k := by
  simp [rowAt, List.getD, List.getElem?_eq_getElem (show k < rows.length by rw [rows_len]; exact h)]

theorem cellsI_part (k : Nat) (h : k < 98) : cellsI.extract (k * 5) (k * 5 + 5) = (rowAt k).cellsI.toArray := by
  have := flat_drop Row.cellsI 5 rows (by intro x _; rfl) k (by rw [rows_len]; exact h)
  rw [rowAt_get k h] at this
  rw [← this]
  simp [cellsI]

theorem cellsI_size : cellsI.size = 490 := by kernel_rfl

theorem cellsS_size : cellsS.size = 490 := by kernel_rfl

theorem cellsS_at (k : Nat) (h : k < 98) (j : Nat) (hj : j < 5) : cellsS[k * 5 + j]? = (rowAt k).cellsS[j]? := by
  have := flat_get Row.cellsS 5 rows (by intro x _; rfl) k (by rw [rows_len]; exact h) j hj
  rw [rowAt_get k h] at this
  rw [← this]
  simp [cellsS]

section
variable {P : Program}

def builds (P : Program) : List Oper → Act → Option Act
  | [], a => some a
  | o :: l, a =>
    match o.guard, o.op with
    | none, .build t parts =>
      match P.built t (parts.map fun (i, x) => (i, a.eval x)).toList with
      | some cells => builds P l (a.put o.dst (.agg cells))
      | none => none
    | _, _ => none

theorem wpList_builds {ops : Array Oper} {Q : Exit → Act → World → Prop} {w : World} : ∀ (l rest : List Oper) (a a' : Act), builds P l a = some a' → wpList P ops Q rest a' w → wpList P ops Q (l ++ rest) a w := by
  intro l
  induction l with
  | nil => intro rest a a' h hr; simp [builds] at h; subst h; exact hr
  | cons o l ih =>
    intro rest a a' h hr
    unfold builds at h
    split at h
    · rename_i t parts hg ho
      split at h
      · rename_i cells hc
        exact wpList_buildTo hg t parts ho o.dst rfl cells hc (ih _ _ _ h hr)
      · cases h
    · cases h

theorem wpList_buildsTo {ops : Array Oper} {Q : Exit → Act → World → Prop} {w : World} {l : List Oper} {a : Act} (n s t : Nat) (v x : Value)
    (h : (builds P (l.take n) a).map (fun a' => (a'.tmps.getD s undef, a'.tmps.getD t undef, a'.defers)) = some (v, x, []))
    (hr : ∀ a' : Act, a'.tmps.getD s undef = v → a'.tmps.getD t undef = x → a'.defers = [] → wpList P ops Q (l.drop n) a' w) : wpList P ops Q l a w := by
  rw [← List.take_append_drop n l]
  cases hb : builds P (l.take n) a with
  | none => rw [hb] at h; cases h
  | some a' =>
    rw [hb] at h
    simp only [Option.map_some, Option.some.injEq, Prod.mk.injEq] at h
    exact wpList_builds _ _ _ _ hb (hr a' h.1 h.2.1 h.2.2)
end

end Go.Proofs.Ytcdjfiljlahaeaa

namespace Go.Proofs.Ytcdjfiljlahaeaa
open Go.RowKit
set_option linter.unusedVariables false

def zeroI : Array Value := (List.replicate 98 [Value.string ⟨#[]⟩, .string ⟨#[]⟩, .int .u64 0, .int .u64 0, .int .u64 0]).flatten.toArray

theorem zeroI_size : zeroI.size = 490 := by kernel_rfl

theorem run_zero {P : Program} {t : TypeId} {z : Value} (h : (P.info? t).bind (·.zero) = some z) (w : World) : (zeroValue t).run P w = .ok z w := by
  cases hi : P.info? t with
  | none => rw [hi] at h; cases h
  | some i => rw [hi] at h; simp at h; simp [zeroValue, typeInfo, hi, h]

theorem wpList_allocZ {P : Program} {ops : Array Oper} {rest : List Oper} {o : Oper} {a : Act} {w : World} {Q : Exit → Act → World → Prop} (hg : o.guard = none) (t : TypeId) (ho : o.op = .alloc t) (d : Option Tmp) (hd : o.dst = d) (z : Value) (hz : (P.info? t).bind (·.zero) = some z)
    (h : wpList P ops Q rest (a.put d (.pointer (some ⟨w.heap.size, 0, none⟩))) (w.alloc (.cells z.cells t))) : wpList P ops Q (o :: rest) a w := by
  subst hd
  refine wpList_plain hg fun K hK => ?_
  have hrun : (execOp a.eval o).run P w = .ok (.value (.pointer (some ⟨w.heap.size, 0, none⟩))) (w.alloc (.cells z.cells t)) := by
    simp [execOp, ho, Instr.alloc, Sem.run_bind, run_zero hz, newVar, newRow]
  unfold Oper.wp
  rw [hrun, Oper.upon_value]
  exact hK _ _ h

theorem wpList_valTo {P : Program} {ops : Array Oper} {rest : List Oper} {o : Oper} {a : Act} {w : World} {Q : Exit → Act → World → Prop} (hg : o.guard = none) (d : Option Tmp) (hd : o.dst = d)
    (v : Value) (hrun : (execOp a.eval o).run P w = .ok (.value v) w)
    (h : wpList P ops Q rest (a.put d v) w) : wpList P ops Q (o :: rest) a w := by
  subst hd
  refine wpList_plain hg fun K hK => ?_
  unfold Oper.wp
  rw [hrun, Oper.upon_value]
  exact hK _ _ h

theorem below_setRow {B : Nat} {a w : World} (h : Below B a w) {g : Nat} (hg : B ≤ g) (cs : Array Value) : Below B a (w.setRow g cs) :=
  ⟨h.os, h.tape, h.output, by rw [setRow_size]; exact h.size, fun k hk => (setRow_other w g k cs (by omega)).trans (h.block k hk)⟩

theorem cellsI_one : cellsI.all (·.oneCell') = true := by kernel_rfl

theorem l2Row_info : (Try.prog.info? 98).map (fun i => (i.zero, i.size, i.bytes)) = some (some (.agg #[.string ⟨#[]⟩, .string ⟨#[]⟩, .int .u64 0, .int .i64 0, .int .u64 0]), 5, 56) := by kernel_rfl

def partsOf (rs : List (List Value)) : List (Nat × Value) := (rs.map fun c => Value.agg c.toArray).zipIdx.map fun (v, i) => (i, v)

theorem fillS : Instr.fill (fun i => some (i * 5, 5)) ((Array.range (98 * 5)).map ((Value.agg #[.string ⟨#[]⟩, .string ⟨#[]⟩, .int .u64 0, .int .i64 0, .int .u64 0]).cells[· % 5]!)) (partsOf (rows.map Row.cellsS)) = some cellsS := by kernel_rfl

theorem wpList_buildsSlice {P : Program} {ops : Array Oper} {Q : Exit → Act → World → Prop} {w : World} {l : List Oper} {a : Act} (n t e len : Nat) (d : Option Tmp) (ps : Array (Nat × Operand)) (vs : List (Nat × Value)) (cells : Array Value) (ie : TypeInfo) (z : Value)
    (h : (builds P (l.take n) a).map (fun a' => ((ps.map fun (i, x) => (i, a'.eval x)).toList, a'.tmps.size, a'.defers)) = some (vs, a.tmps.size, []))
    (hu : P.underlying t = some (.slice e)) (hie : P.info? e = some ie) (hz : ie.zero = some z) (hsmall : ¬ len * ie.size > 2 ^ 24) (hpos : ¬ len * ie.size = 0)
    (hf : Instr.fill (fun i => some (i * ie.size, ie.size)) ((Array.range (len * ie.size)).map (z.cells[· % z.cells.size]!)) vs = some cells)
    (ho : ((l.drop n)[0]?.map fun o => (o.guard, o.op, o.dst)) = some (none, .buildSlice t len ps, d))
    (hr : ∀ a' : Act, a'.tmps.size = a.tmps.size → a'.defers = [] → wpList P ops Q (l.drop (n + 1)) (a'.put d (.slice (some ⟨w.heap.size, 0, none⟩) len len)) (w.alloc (.cells cells e))) : wpList P ops Q l a w := by
  rw [← List.take_append_drop n l]
  cases hb : builds P (l.take n) a with
  | none => rw [hb] at h; cases h
  | some a' =>
    rw [hb] at h
    simp only [Option.map_some, Option.some.injEq, Prod.mk.injEq] at h
    refine wpList_builds _ _ _ _ hb ?_
    cases hd : l.drop n with
    | nil => rw [hd] at ho; cases ho
    | cons o rest =>
      rw [hd] at ho
      simp only [List.getElem?_cons_zero, Option.map_some, Option.some.injEq, Prod.mk.injEq] at ho
      have e1 : l.drop (n + 1) = rest := by rw [← List.drop_drop, hd]; rfl
      refine wpList_buildSlice ho.1 t e len ps ho.2.1 cells ie z hu hie hz hsmall hpos (by rw [h.1]; exact hf) ?_
      rw [ho.2.2, ← e1]
      exact hr a' h.2.1 h.2.2

set_option maxRecDepth 100000 in
set_option maxHeartbeats 4000000 in
theorem l2Rows_any (w : World) : Calls Try.prog 76 #[] w fun e w' => e = .returned (.slice (some ⟨w.heap.size, 0, none⟩) 98 98) ∧ w' = w.alloc (.cells cellsS 98) := by
  obtain ⟨i0, hi, hz0, hz1, hz2⟩ := info_parts l2Row_info
  go_enter Try.func76, Try.ntmps76
  apply wp_seq_k; intro K0 hK0
  apply wp_region_list
  refine wpList_valTo rfl (some 0) rfl (.slice none 0 0) (by kernel_rfl) ?_
  apply wpList_nil
  refine hK0 _ _ ?_
  clear hK0 K0
  apply wp_seq_k; intro K0 hK0
  apply wp_region_lit
  refine wpList_buildsSlice 98 95 98 98 (some 99) ((List.range 98).map fun i => (i, Operand.tmp (i + 1))).toArray (partsOf (rows.map Row.cellsS)) cellsS i0 _ (by kernel_rfl) Try.underlying95 hi hz0 (by rw [hz1]; decide) (by rw [hz1]; decide) (by rw [hz1]; exact fillS) (by kernel_rfl) ?_
  intro a' hs hd
  have hs2 : a'.tmps.size = 100 := hs
  clear hs
  refine wpList_valTo rfl (some 0) rfl (.slice (some ⟨w.heap.size, 0, none⟩) 98 98) ?_ ?_
  · have e : (a'.put (some 99) (.slice (some ⟨w.heap.size, 0, none⟩) 98 98)).eval (.tmp 99) = .slice (some ⟨w.heap.size, 0, none⟩) 98 98 := by
      simp [Act.put, Act.eval, hs2]
    simp [execOp, e]
  apply wpList_nil
  refine hK0 _ _ ?_
  clear hK0 K0
  apply wp_ret
  refine bodyPost_ret (results_tmp Try.results76 _ _ _) hd ⟨?_, rfl⟩
  simp [Act.put, hs2]

end Go.Proofs.Ytcdjfiljlahaeaa

namespace Go.Proofs.Ytcdjfiljlahaeaa
open Go.RowKit
set_option linter.unusedVariables false

def opB (op : Int) : Bool := decide (1 ≤ op ∧ op ≤ 98)

def nameOf (op : Int) : ByteArray := if opB op then (rowAt (op - 1).toNat).name else ⟨#[]⟩

def formOf (op : Int) : ByteArray := if opB op then (rowAt (op - 1).toNat).fm.str else ⟨#[]⟩

def Row.val (r : Row) : Value := .agg #[.string r.name, .string r.fm.str, .int .u64 r.op, .int .u64 r.f3z, .int .u64 r.more]

def noRow : Value := .agg #[.string ⟨#[]⟩, .string ⟨#[]⟩, .int .u64 0, .int .u64 0, .int .u64 0]

def rowV (op : Int) : Value := if opB op then (rowAt (op - 1).toNat).val else noRow

theorem rowV_false {op : Int} (h : opB op = false) : rowV op = noRow := by simp [rowV, h]

theorem rowV_true {k : Nat} (h : opB ((k : Int) + 1) = true) : rowV ((k : Int) + 1) = (rowAt k).val := by simp [rowV, h]

theorem results_row2 {P : Program} {fn : Func} {p u : Tmp} {ty : TypeId} (h : fn.results = #[.cell p ty, .tmp u]) (tmps : Array Value) (w : World) (g : Nat) (t : TypeId) (cs : Array Value) (fr : Nat × Nat) (d : TypeDesc)
    (hp : tmps.getD p undef = .pointer (some ⟨g, 0, none⟩)) (hg : w.heap[g]? = some (.cells cs t fr))
    (hu : P.underlying ty = some d) (hd : (match d with | .struct _ | .array _ _ => true | _ => false) = true) (hi : (P.info? ty).map (·.size) = some cs.size) :
    (results fn tmps).run P w = .ok (.tuple #[.agg cs, tmps.getD u undef]) w := by
  rw [results_cell_tmp h, hp]
  simp [asAddr, run_loadVar_row w g t ty cs fr d hg hu hd hi]

theorem rowV_parts (op : Int) : ∃ r1 r2 r3 r4 r5, rowV op = .agg #[.string r1, .string r2, .int .u64 r3, .int .u64 r4, .int .u64 r5] ∧ Hid (r1 = nameOf op) ∧ Hid (r2 = formOf op) := by
  cases h : opB op with
  | true => exact ⟨_, _, _, _, _, by simp [rowV, h]; rfl, (by simp [nameOf, h] : (rowAt (op - 1).toNat).name = nameOf op), (by simp [formOf, h] : (rowAt (op - 1).toNat).fm.str = formOf op)⟩
  | false => exact ⟨_, _, _, _, _, by simp [rowV, h]; rfl, (by simp [nameOf, h] : (⟨#[]⟩ : ByteArray) = nameOf op), (by simp [formOf, h] : (⟨#[]⟩ : ByteArray) = formOf op)⟩

theorem row_one (r : Row) : (#[Value.string r.name, .string r.fm.str, .int .u64 r.op, .int .u64 r.f3z, .int .u64 r.more] : Array Value).all (·.oneCell') = true := by
  simp [Value.oneCell']

theorem l1In_any (x a b : Int) (w : World) : Calls Try.prog 61 #[.int .i64 x, .int .i64 a, .int .i64 b] w fun e w' => e = .returned (.bool (decide (a ≤ x ∧ x ≤ b))) ∧ w' = w := by
  by_cases h1 : a ≤ x
  · by_cases h2 : x ≤ b
    · have F : Hid (decide (a ≤ x ∧ x ≤ b) = true) := by show decide (a ≤ x ∧ x ≤ b) = true; simp [h1, h2]
      have d1 : decide (a ≤ x) = true := by simpa using h1
      have d2 : decide (x ≤ b) = true := by simpa using h2
      clear h1 h2
      go_enter Try.func61, Try.ntmps61
      go_wp2
      go_ret
      exact ⟨by rw [F.out]; rfl, rfl⟩
    · have F : Hid (decide (a ≤ x ∧ x ≤ b) = false) := by show decide (a ≤ x ∧ x ≤ b) = false; simp [h2]
      have d1 : decide (a ≤ x) = true := by simpa using h1
      have d2 : decide (x ≤ b) = false := by simpa using h2
      clear h1 h2
      go_enter Try.func61, Try.ntmps61
      go_wp2
      go_ret
      exact ⟨by rw [F.out]; rfl, rfl⟩
  · have F : Hid (decide (a ≤ x ∧ x ≤ b) = false) := by show decide (a ≤ x ∧ x ≤ b) = false; simp [h1]
    have d1 : decide (a ≤ x) = false := by simpa using h1
    clear h1
    go_enter Try.func61, Try.ntmps61
    go_wp2
    go_ret
    exact ⟨by rw [F.out]; rfl, rfl⟩

def TabS (w : World) (g : Nat) : Prop := g < w.heap.size ∧ ∀ k, k < 98 → ∀ r, r = rowAt k → w.cell? ⟨g, k * 5, none⟩ = some (.string r.name) ∧ w.cell? ⟨g, k * 5 + 1, none⟩ = some (.string r.fm.str) ∧
  w.cell? ⟨g, k * 5 + 2, none⟩ = some (.int .u64 r.op) ∧ w.cell? ⟨g, k * 5 + 3, none⟩ = some (.int .i64 r.f3) ∧ w.cell? ⟨g, k * 5 + 4, none⟩ = some (.int .u64 r.more)

theorem TabS.below {w w' : World} {g : Nat} (h : TabS w g) {B : Nat} (hg : g < B) (hb : Below B w w') : TabS w' g := by
  refine ⟨Nat.lt_of_lt_of_le h.1 hb.size, fun k hk r hr => ?_⟩
  have H := h.2 k hk r hr
  have e : ∀ o, w'.cell? ⟨g, o, none⟩ = w.cell? ⟨g, o, none⟩ := fun o => hb.cell (p := ⟨g, o, none⟩) hg
  rw [e, e, e, e, e]; exact H

theorem l2Rows_T (w : World) : Calls Try.prog 76 #[] w fun e w' => e = .returned (.slice (some ⟨w.heap.size, 0, none⟩) 98 98) ∧ Hid (TabS w' w.heap.size) ∧ Below w.heap.size w w' :=
  (l2Rows_any w).mono fun e w' h => by
    obtain ⟨h1, rfl⟩ := h
    refine ⟨h1, ?_, (Below.refl _ _).alloc (Nat.le_refl _) _⟩
    show TabS _ _
    refine ⟨by simp, fun k hk r hr => ?_⟩
    subst hr
    have hg : (w.alloc (.cells cellsS 98)).heap[w.heap.size]? = some (.cells cellsS 98 (0, 0)) := heap_alloc_new _ _
    have e : ∀ j, j < 5 → (w.alloc (.cells cellsS 98)).cell? ⟨w.heap.size, k * 5 + j, none⟩ = (rowAt k).cellsS[j]? := by
      intro j hj
      rw [cell_of_row _ _ _ _ _ _ hg]
      exact cellsS_at k hk j hj
    exact ⟨e 0 (by decide), e 1 (by decide), e 2 (by decide), e 3 (by decide), e 4 (by decide)⟩

set_option maxHeartbeats 400000 in
theorem specForm_any (op : Int) (hw : (Lit.int .i64 op).wf = true) (w : World) : Calls Try.prog 79 #[.int .i64 op] w fun e w' => e = .returned (.string (formOf op)) ∧ Below w.heap.size w w' := by
  cases h : opB op with
  | false =>
    have F : Hid (opB op = false) := h
    have F2 : decide (1 ≤ op ∧ op ≤ 98) = false := h
    clear h
    go_enter Try.func79, Try.ntmps79
    go_wp2_with fail
    refine (l1In_any op 1 98 _).mono ?_
    rintro e w1 ⟨rfl, rfl⟩
    rw [F2]
    clear F2
    go_wp2_with fail
    go_ret
    exact ⟨by simp [formOf, F.out], Below.refl _ _⟩
  | true =>
    have F2 : decide (1 ≤ op ∧ op ≤ 98) = true := h
    have F3 : 1 ≤ op ∧ op ≤ 98 := of_decide_eq_true F2
    obtain ⟨k, hk⟩ : ∃ k : Nat, op = (k : Int) + 1 := ⟨(op - 1).toNat, by omega⟩
    have hk2 : k < 98 := by omega
    subst hk
    have F : Hid (opB ((k : Int) + 1) = true) := h
    clear h F3
    go_enter Try.func79, Try.ntmps79
    go_wp2_with fail
    refine (l1In_any _ 1 98 _).mono ?_
    rintro e w1 ⟨rfl, hw'⟩
    have hw2 := hw'.symm
    subst hw2
    rw [F2]
    clear F2 hw'
    go_wp2_with fail
    refine (l2Rows_T _).mono ?_
    rintro e w2 ⟨rfl, hT, hb⟩
    obtain ⟨r, hr0⟩ : ∃ r, r = rowAt k := ⟨_, rfl⟩
    have hr : Hid (r = rowAt k) := hr0
    clear hr0
    obtain ⟨c0, c1, c2, c3, c4⟩ := hT.out.2 k hk2 r hr.out
    go_wp2_with fail
    go_ret
    exact ⟨by simp [formOf, F.out, hr.out], hb⟩

def findName (s : ByteArray) : Nat → Nat → Int
  | 0, _ => 0
  | n + 1, k => if ((rowAt k).name.toList == s.toList) = true then (k : Int) + 1 else findName s n (k + 1)

theorem findName_hit (s : ByteArray) (k : Nat) (hk : k < 98) (h : ((rowAt k).name.toList == s.toList) = true) : findName s (98 - k) k = (k : Int) + 1 := by
  rw [show 98 - k = (98 - (k + 1)) + 1 from by omega, findName, if_pos h]

theorem findName_miss (s : ByteArray) (k : Nat) (hk : k < 98) (h : ((rowAt k).name.toList == s.toList) = false) : findName s (98 - k) k = findName s (98 - (k + 1)) (k + 1) := by
  rw [show 98 - k = (98 - (k + 1)) + 1 from by omega, findName, if_neg (by rw [h]; decide)]

end Go.Proofs.Ytcdjfiljlahaeaa
