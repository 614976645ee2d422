/- A cache's memory in an interval of blocks: what a mark may write, what stays; a cache as a law's argument. -/
import Derived.Test.YtdllhjehokpefaaSlE
import Derived.Test.YtdllhjehokpefaaSlQ
namespace Go.Proofs.Ytdllhjehokpefaa
open Go.RowKit
set_option linter.unusedVariables false

/-- A row of slots of one's own, in a block from B on and below E. -/
structure Fs (B E : Nat) (w : World) (a : Option Addr) (n c : Nat) (ss : List Slt) : Prop where
  own : w.ownsRow B 60 5 (.slice a n c) n (flatS ss)
  hi : ∀ k, (Value.slice a n c).ownBlock = some k → k < E

theorem Fs.ss {B E : Nat} {w : World} {a : Option Addr} {n c : Nat} {ss : List Slt} (h : Fs B E w a n c ss) : Ss w a ss := own_ss h.own

theorem Fs.mono {B E : Nat} {w w' : World} {a : Option Addr} {n c : Nat} {ss : List Slt} (h : Fs B E w a n c ss) (hk : ∀ k, B ≤ k → k < E → k < w.heap.size → w'.heap[k]? = w.heap[k]?) : Fs B E w' a n c ss := by
  refine ⟨⟨h.own.1, ?_⟩, h.hi⟩
  rcases h.own.2 with h2 | ⟨g, cap, cur, h1, h2, h3, h4⟩
  · exact .inl h2
  · have e : (Value.slice a n c).ownBlock = some g := by rw [h1]; rfl
    exact .inr ⟨g, cap, cur, h1, h2, (hk g h2 (h.hi g e) (h.own.lt g e).2).trans h3, h4⟩

theorem Fs.below {B E : Nat} {w w' : World} {a : Option Addr} {n c : Nat} {ss : List Slt} (h : Fs B E w a n c ss) (hb : Below w.heap.size w w') : Fs B E w' a n c ss := h.mono fun k _ _ hk => hb.block k hk

theorem Fs.keep {B E B2 E2 : Nat} {w w' : World} {a : Option Addr} {n c : Nat} {ss : List Slt} (h : Fs B E w a n c ss) (hk : Keep B2 E2 w w') (hd : E ≤ B2 ∨ E2 ≤ B) : Fs B E w' a n c ss := h.mono fun k h1 h2 h3 => hk.block k h3 (by omega)

theorem Fs.of {B : Nat} {w : World} {a : Option Addr} {n c : Nat} {ss : List Slt} (h : w.ownsRow B 60 5 (.slice a n c) n (flatS ss)) : Fs B w.heap.size w a n c ss := ⟨h, fun k hk => (h.lt k hk).2⟩

theorem markCache_f (a : Option Addr) (n cap B E : Nat) (k : Int) (ss : List Slt) (w : World) (hn : n ≤ 1048576) (hk0 : 0 ≤ k) (hk1 : k ≤ 1099511627776) (h : Fs B E w a n cap ss) :
    Calls Try.prog 24 #[.agg #[.slice a n cap], .int .i64 k] w fun e w' => e = .returned (.int .i64 (k + 5 * n)) ∧ Fs B E w' a n cap (marksS k n) ∧ Keep B E w w' :=
  (markCache_any a n cap B k ss w hn hk0 hk1 h.own).mono fun e w' ⟨h1, h2, h3⟩ => ⟨h1, ⟨h2, h.hi⟩, Keep.of_grown h3 fun k hk => ⟨(h.own.lt k hk).1, h.hi k hk⟩⟩

/-- A cache that came in. -/
structure CIn (w : World) (a : Option Addr) (n cap : Nat) (ss : List Slt) : Prop where
  len : ss.length = n
  most : n ≤ maxLen
  cells : Ss w a ss
  words : Sw ss

theorem row_al1 {W : World} {g : Nat} {o : Obj} (h : W.heap[g]? = some o) (ob : Obj) : (W.alloc ob).heap[g]? = some o := (Below.heap_alloc _ _ _ (Array.getElem?_eq_some_iff.1 h).1).trans h

theorem keepS_len (ss : List Slt) (k p addr to : Int) (h : ss.length ≤ 1048576) : (keepS ss k p addr to).length ≤ 1048576 := by
  unfold keepS
  split
  · rw [List.length_set]; exact h
  · simp

theorem dropS_len (ss : List Slt) (addr : Int) (all : Bool) (h : ss.length ≤ 1048576) : (dropS ss addr all).length ≤ 1048576 := by
  unfold dropS
  split
  · rw [List.length_map]; exact h
  · simp

end Go.Proofs.Ytdllhjehokpefaa
