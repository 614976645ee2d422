/- A family of rows of one's own, apart from each other: the memory of a value with several lists. -/
import Derived.Test.YtdcihpbggknhgaaRMem
namespace Go.Proofs.YtdcihpbggknhgaaR
open Go.RowKit
set_option linter.unusedVariables false

/-- One row: its element's type, the slice, how long, what it holds. -/
structure FRow where
  t : TypeId
  v : Value
  n : Nat
  xs : List Value

/-- Rows of one's own, in blocks from B on and below E, each in a block of its own. -/
structure Fam (B E : Nat) (w : World) (L : List FRow) : Prop where
  own : ∀ r ∈ L, w.ownsRow B r.t 1 r.v r.n r.xs
  hi : ∀ r ∈ L, ∀ k, r.v.ownBlock = some k → k < E
  ne : L.Pairwise (fun r s => ∀ k, r.v.ownBlock = some k → s.v.ownBlock ≠ some k)

/-- Nothing is written outside the blocks from B on and below E. -/
structure Keep (B E : Nat) (w w' : World) : Prop where
  os : w'.os = w.os
  tape : w'.tape = w.tape
  output : w'.output = w.output
  size : w.heap.size ≤ w'.heap.size
  block : ∀ k, k < w.heap.size → (k < B ∨ E ≤ k) → w'.heap[k]? = w.heap[k]?

theorem Keep.refl (B E : Nat) (w : World) : Keep B E w w := ⟨rfl, rfl, rfl, Nat.le_refl _, fun _ _ _ => rfl⟩

theorem Keep.trans {B E : Nat} {a b c : World} (h : Keep B E a b) (k : Keep B E b c) : Keep B E a c :=
  ⟨k.os.trans h.os, k.tape.trans h.tape, k.output.trans h.output, Nat.le_trans h.size k.size, fun i hi ho => (k.block i (Nat.lt_of_lt_of_le hi h.size) ho).trans (h.block i hi ho)⟩

theorem Keep.of_below {B E : Nat} {w w' : World} (h : Below w.heap.size w w') : Keep B E w w' := ⟨h.os, h.tape, h.output, h.size, fun k hk _ => h.block k hk⟩

theorem Keep.below {B0 B E : Nat} {w w' : World} (h : Keep B E w w') (hB : B0 ≤ B) (hw : B0 ≤ w.heap.size) : Below B0 w w' := ⟨h.os, h.tape, h.output, h.size, fun k hk => h.block k (by omega) (.inl (by omega))⟩

theorem Keep.of_grown {B E : Nat} {w w' : World} {row : Option Nat} (h : w.grownBy w' row) (hr : ∀ k, row = some k → B ≤ k ∧ k < E) : Keep B E w w' :=
  ⟨h.os, h.tape, h.output, h.size, fun k hk ho => h.block k hk (fun e => by have := hr k e.symm; omega)⟩

theorem fown_of {w w' : World} {B n : Nat} {t : TypeId} {v : Value} {xs : List Value} (h : w.ownsRow B t 1 v n xs) (hk : ∀ k, v.ownBlock = some k → w'.heap[k]? = w.heap[k]?) : w'.ownsRow B t 1 v n xs := by
  refine ⟨h.1, ?_⟩
  rcases h.2 with h2 | ⟨g, cap, cur, h1, h2, h3, h4⟩
  · exact .inl h2
  · exact .inr ⟨g, cap, cur, h1, h2, (hk g (by rw [h1]; rfl)).trans h3, h4⟩

theorem Fam.mono {B E : Nat} {w w' : World} {L : List FRow} (h : Fam B E w L) (hk : ∀ k, B ≤ k → k < E → k < w.heap.size → w'.heap[k]? = w.heap[k]?) : Fam B E w' L :=
  ⟨fun r hr => fown_of (h.own r hr) (fun k e => hk k ((h.own r hr).lt k e).1 (h.hi r hr k e) ((h.own r hr).lt k e).2), h.hi, h.ne⟩

theorem Fam.below {B E : Nat} {w w' : World} {L : List FRow} (h : Fam B E w L) (hb : Below w.heap.size w w') : Fam B E w' L := h.mono fun k _ _ hk => hb.block k hk

theorem Fam.keep {B E B2 E2 : Nat} {w w' : World} {L : List FRow} (h : Fam B E w L) (hk : Keep B2 E2 w w') (hd : E ≤ B2 ∨ E2 ≤ B) : Fam B E w' L := h.mono fun k h1 h2 h3 => hk.block k h3 (by omega)

theorem Fam.low {B B' E E' : Nat} {w : World} {L : List FRow} (h : Fam B E w L) (hb : B' ≤ B) (he : E ≤ E') : Fam B' E' w L :=
  ⟨fun r hr => own_low (h.own r hr) hb, fun r hr k e => Nat.lt_of_lt_of_le (h.hi r hr k e) he, h.ne⟩

theorem Fam.set {B E : Nat} {w : World} {L : List FRow} (h : Fam B E w L) (p : Addr) (v : Value) (hp : p.block < B ∨ E ≤ p.block) : Fam B E (w.setCell p v) L := h.mono fun k h1 h2 h3 => Below.heap_setCell w p v k (by omega)

theorem Fam.nil (B E : Nat) (w : World) : Fam B E w [] := ⟨fun r hr => (nomatch hr), fun r hr => (nomatch hr), List.Pairwise.nil⟩

/-- A row more, made behind the others. -/
theorem Fam.cons {B E : Nat} {w : World} {L : List FRow} (h : Fam B E w L) (r : FRow) (base E' : Nat) (ho : w.ownsRow base r.t 1 r.v r.n r.xs) (h1 : E ≤ base) (h2 : B ≤ base) (h3 : w.heap.size ≤ E') (h4 : E ≤ E') : Fam B E' w (r :: L) := by
  refine ⟨fun s hs => ?_, fun s hs k e => ?_, List.pairwise_cons.2 ⟨fun s hs k e e2 => ?_, h.ne⟩⟩
  · rcases List.mem_cons.1 hs with rfl | hs
    · exact own_low ho h2
    · exact h.own s hs
  · rcases List.mem_cons.1 hs with rfl | hs
    · have := (ho.lt k e).2; omega
    · have := h.hi s hs k e; omega
  · have := (ho.lt k e).1
    have := h.hi s hs k e2
    omega

/-- .. and laid last. -/
theorem Fam.snoc {B E : Nat} {w : World} {L : List FRow} (h : Fam B E w L) (r : FRow) (base E' : Nat) (ho : w.ownsRow base r.t 1 r.v r.n r.xs) (h1 : E ≤ base) (h2 : B ≤ base) (h3 : w.heap.size ≤ E') (h4 : E ≤ E') : Fam B E' w (L ++ [r]) := by
  have c := h.cons r base E' ho h1 h2 h3 h4
  refine ⟨fun s hs => c.own s ?_, fun s hs => c.hi s ?_, List.pairwise_append.2 ⟨h.ne, List.pairwise_singleton _ _, fun s hs q hq k e e2 => ?_⟩⟩
  · rcases List.mem_append.1 hs with hs | hs
    · exact List.mem_cons_of_mem _ hs
    · rw [List.mem_singleton.1 hs]; exact List.mem_cons_self ..
  · rcases List.mem_append.1 hs with hs | hs
    · exact List.mem_cons_of_mem _ hs
    · rw [List.mem_singleton.1 hs]; exact List.mem_cons_self ..
  · simp only [List.mem_singleton] at hq
    subst hq
    exact (List.pairwise_cons.1 c.ne).1 s hs k e2 e

/-- One row is written. -/
theorem Fam.mark {B E : Nat} {w w' : World} {L1 L2 : List FRow} {r : FRow} (h : Fam B E w (L1 ++ r :: L2)) (hg : w.grownBy w' r.v.ownBlock) (xs : List Value) (ho : w'.ownsRow B r.t 1 r.v r.n xs) : Fam B E w' (L1 ++ ⟨r.t, r.v, r.n, xs⟩ :: L2) ∧ Keep B E w w' := by
  have hne := List.pairwise_append.1 h.ne
  have hne2 := List.pairwise_cons.1 hne.2.1
  have kept : ∀ s ∈ L1 ++ r :: L2, (∀ k, s.v.ownBlock = some k → r.v.ownBlock ≠ some k) → w'.ownsRow B s.t 1 s.v s.n s.xs := fun s hs hd => fown_of (h.own s hs) (fun k e => hg.block k ((h.own s hs).lt k e).2 (fun e2 => hd k e e2.symm))
  have hr : r ∈ L1 ++ r :: L2 := by simp
  refine ⟨⟨fun s hs => ?_, fun s hs k e => ?_, ?_⟩, Keep.of_grown hg fun k e => ⟨((h.own r hr).lt k e).1, h.hi r hr k e⟩⟩
  · rcases List.mem_append.1 hs with hs | hs
    · exact kept s (List.mem_append_left _ hs) (fun k e => hne.2.2 s hs r (List.mem_cons_self ..) k e)
    · rcases List.mem_cons.1 hs with rfl | hs
      · exact ho
      · exact kept s (List.mem_append_right _ (List.mem_cons_of_mem _ hs)) (fun k e e2 => hne2.1 s hs k e2 e)
  · rcases List.mem_append.1 hs with hs | hs
    · exact h.hi s (List.mem_append_left _ hs) k e
    · rcases List.mem_cons.1 hs with rfl | hs
      · exact h.hi r hr k e
      · exact h.hi s (List.mem_append_right _ (List.mem_cons_of_mem _ hs)) k e
  · refine List.pairwise_append.2 ⟨hne.1, List.pairwise_cons.2 ⟨fun s hs k e => hne2.1 s hs k e, hne2.2⟩, fun s hs q hq k e => ?_⟩
    rcases List.mem_cons.1 hq with rfl | hq
    · exact hne.2.2 s hs r (List.mem_cons_self ..) k e
    · exact hne.2.2 s hs q (List.mem_cons_of_mem _ hq) k e

end Go.Proofs.YtdcihpbggknhgaaR
