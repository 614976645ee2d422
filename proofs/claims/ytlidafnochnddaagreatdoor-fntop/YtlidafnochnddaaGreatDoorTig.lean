/- Short words for what is said often. -/
import Derived.Test.YtlidafnochnddaaGreatDoorProg
import Derived.WalkKit
import Derived.Below
namespace Go

abbrev Value.i (x : Int) : Value := .int .i64 x

abbrev Value.u (x : Int) : Value := .int .u64 x

abbrev Value.p (b i : Nat) : Value := .pointer (some ⟨b, i, none⟩)

end Go

namespace Go.Proofs.YtlidafnochnddaaGreatDoor
open Go.RowKit

abbrev CB (f : Nat) (a : Array Value) (w : World) (v : Value) : Prop := Calls Tryz.prog f a w fun e w' => e = .returned v ∧ Below w.heap.size w w'

abbrev CE (f : Nat) (a : Array Value) (w : World) (v : Value) : Prop := Calls Tryz.prog f a w fun e w' => e = .returned v ∧ w' = w

abbrev Bw (w w' : World) : Prop := Below w.heap.size w w'

theorem bal (w : World) (o : Obj) : Below w.heap.size w (w.alloc o) := (Below.refl _ _).alloc (Nat.le_refl _) _

end Go.Proofs.YtlidafnochnddaaGreatDoor
