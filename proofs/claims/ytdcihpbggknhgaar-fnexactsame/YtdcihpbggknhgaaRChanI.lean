/- The program's lines of bytes: what is sent, received and kept, in one goroutine. -/
import Derived.Test.YtdcihpbggknhgaaRChanX
import Derived.Test.YtdcihpbggknhgaaRPushP
import Derived.Test.YtdcihpbggknhgaaRDevP
import Derived.Deep.Cut
namespace Go.Proofs.YtdcihpbggknhgaaR
open Go.RowKit Go.Conc
set_option linter.unusedVariables false

theorem Only.refl (c : Nat) (w : World) : Only c w w := ⟨rfl, fun _ _ => rfl, fun _ _ _ h => h⟩

theorem Only.trans {c : Nat} {w w1 w2 : World} (h : Only c w w1) (k : Only c w1 w2) : Only c w w2 := ⟨k.size.trans h.size, fun j hj => (k.else_ j hj).trans (h.else_ j hj), fun B a hB hb => k.below B a hB (h.below B a hB hb)⟩

theorem Only.keep {c : Nat} {w w1 : World} (h : Only c w w1) (hc : c < w.heap.size) : Keep c (c + 1) w w1 := by
  have hb := h.below c w (Nat.le_refl _) (Below.refl _ _)
  exact ⟨hb.os, hb.tape, hb.output, by rw [h.size]; exact Nat.le_refl _, fun k hk ho => h.else_ k (by omega)⟩

theorem Keep.push {c : Nat} {w wr w1 w3 : World} {o : Obj} {row : Option Nat} (h : Keep c (c + 1) w wr) (hc : c < w.heap.size) (ho : Only c wr w1) (gr : (w1.alloc o).grownBy w3 row) (hr : ∀ k, row = some k → w.heap.size ≤ k) : Keep c (c + 1) w w3 := by
  have hb := ho.below c wr (Nat.le_refl _) (Below.refl _ _)
  have hs := gr.size
  have hs1 := ho.size
  have hs2 := h.size
  rw [World.size_alloc] at hs
  refine ⟨gr.os.trans (hb.os.trans h.os), gr.tape.trans (hb.tape.trans h.tape), gr.output.trans (hb.output.trans h.output), by omega, fun k hk hne => ?_⟩
  rw [gr.block k (by rw [World.size_alloc]; omega) (fun e => by have := hr k e.symm; omega), Below.heap_alloc w1 o k (by omega), ho.else_ k (by omega), h.block k hk hne]

theorem chan_push {c cap : Nat} {buf : List Value} {cl : Bool} {w1 w3 : World} {o : Obj} {row : Option Nat} (h : ChanAt w1 c cap buf cl) (gr : (w1.alloc o).grownBy w3 row) (hr : ∀ k, row = some k → c < k) : ChanAt w3 c cap buf cl :=
  chanAt_of_eq h ((gr.block c (by rw [World.size_alloc]; have := h.lt; omega) (fun e => by have := hr c e.symm; omega)).trans (Below.heap_alloc w1 o c h.lt))

theorem take_more (zs : List Int) (k : Nat) (h : k < zs.length) : (zs.take k).map (Value.int .u8) ++ [.int .u8 (zs.getD k 0)] = (zs.take (k + 1)).map (Value.int .u8) := by
  have h1 : zs.take (k + 1) = zs.take k ++ [zs.getD k 0] := by
    rw [List.take_succ_eq_append_getElem h]
    simp [List.getD, List.getElem?_eq_getElem h]
  rw [h1, List.map_append]
  rfl

theorem drop_more (zs : List Int) (k : Nat) (h : k < zs.length) : (zs.drop k).map (Value.int .u8) = .int .u8 (zs.getD k 0) :: (zs.drop (k + 1)).map (Value.int .u8) := by
  rw [List.drop_eq_getElem_cons h, List.map_cons]
  simp [List.getD, List.getElem?_eq_getElem h]

/-- A list of at most 'most' bytes with one more behind it. -/
def behind (zs : List Int) (b : Int) (most : Nat) : List Int := if zs.length < most then zs ++ [b] else zs

theorem line_own {w w1 w2 w3 : World} {o : Obj} {v : Value} {n : Nat} {xs : List Value} {c : Nat} (hc : c = w.heap.size) (h1 : Only c (w.alloc o) w1) (h2 : Only c w1 w2) (h3 : Keep c (c + 1) w2 w3) (ho : w3.ownsRow w2.heap.size 5 1 v n xs) : w3.ownsRow w.heap.size 5 1 v n xs ∧ Below w.heap.size w w3 := by
  subst hc
  have s1 := h1.size
  have s2 := h2.size
  have s3 := h3.size
  rw [World.size_alloc] at s1
  have hb := h2.below _ _ (Nat.le_refl _) (h1.below _ _ (Nat.le_refl _) ((Below.refl w.heap.size w).alloc (Nat.le_refl _) o))
  exact ⟨own_low ho (by omega), hb.trans (h3.below (Nat.le_refl _) (by omega))⟩

end Go.Proofs.YtdcihpbggknhgaaR
