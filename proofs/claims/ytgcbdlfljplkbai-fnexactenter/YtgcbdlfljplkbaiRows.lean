/-
  No cell of these rows narrows 'for every input' (looked for: loops, veiled, ifaces, maps, wideKeys, modest, calm, conditions, laid).
  DERIVED. THE GIVEN ROWS OF THIS SEAT. 6 by the template 'for every input the law returns true; each argument reads behind the call as it read before'; 0 by the template 'total and deterministic' (their statements: YtgcbdlfljplkbaiTotals.lean).
  GIVEN WITH THE SEED: the statements are not yours to turn. If you find one false, say at which input.
  Laid BY PROGRAM, IN A SANDBOX (cutbox-rows.mjs): the forced cells as the released guide's own fill.sh prints them over the translation dd8380096c4cfe1b… (all of the seat's roots in one cut). By AI agents, Wed Nov 11 2026. No macro, syntax, notation, axiom, sorry.
-/
import Derived.Test.YtgcbdlfljplkbaiChecked
import GoSem.Claim
import GoSem.ClaimJoined
import GoSem.ClaimMapViews
import Derived.JoinedTies
import Derived.KernelRfl
namespace Go.Proofs.Ytgcbdlfljplkbai
/- THE CELL 'sum', in the pinned program and in every row, IS THE sha256 OF THE DUMP (.gsa) THAT YtgcbdlfljplkbaiProg.lean LOADS. Nothing in Lean hashes anything: it is a label: what it is worth is what the hold of that sum in a sandbox is worth. -/
noncomputable def Try.pinned : Pinned := { name := "ytgcbdlfljplkbai", sum := "dd8380096c4cfe1b51d4b5592a06a1a3d4beefe8af1fb74790edee0749437951", checked := Try.checked }
namespace Rows
def none {H : Type} : Left H := { results := [], args := [] }

/-- 'laws.FnExactWriteCsr': WHATEVER THE INPUT: true; the input reads as it did. -/
def fnExactWriteCsrSpec : ChangeSpec := { name := "fnExactWriteCsr", fn := fun _ => fun
  | [d1, d2, d3, d4] => { results := [.lit (.bool true)], args := [d1, d2, d3, d4] }
  | _ => none }
def fnExactWriteCsrRow : OpenClaim := { program := "ytgcbdlfljplkbai", sum := "dd8380096c4cfe1b51d4b5592a06a1a3d4beefe8af1fb74790edee0749437951", func := "loop.example/g00134/laws.FnExactWriteCsr", spec := "fnExactWriteCsr", unfollowed := true, recurses := true, apart := false }
def FnExactWriteCsrSaid : Prop := fnExactWriteCsrRow.holds Try.pinned (OpenSpec.ofChange fnExactWriteCsrSpec)

/-- ITS FALSE NEIGHBOUR: 'it returns false'. Refute it at one input. -/
def fnExactWriteCsrWrong : ChangeSpec := { name := "fnExactWriteCsr", fn := fun _ => fun
  | [d1, d2, d3, d4] => { results := [.lit (.bool false)], args := [d1, d2, d3, d4] }
  | _ => none }
def FnExactWriteCsrWrongFalsely : Prop := fnExactWriteCsrRow.holds Try.pinned (OpenSpec.ofChange fnExactWriteCsrWrong)

/-- 'laws.FnExactPlace': WHATEVER THE INPUT: true; the input reads as it did. -/
def fnExactPlaceSpec : ChangeSpec := { name := "fnExactPlace", fn := fun _ => fun
  | [d] => { results := [.lit (.bool true)], args := [d] }
  | _ => none }
def fnExactPlaceRow : OpenClaim := { program := "ytgcbdlfljplkbai", sum := "dd8380096c4cfe1b51d4b5592a06a1a3d4beefe8af1fb74790edee0749437951", func := "loop.example/g00134/laws.FnExactPlace", spec := "fnExactPlace", unfollowed := true, recurses := true, apart := false }
def FnExactPlaceSaid : Prop := fnExactPlaceRow.holds Try.pinned (OpenSpec.ofChange fnExactPlaceSpec)

/-- ITS FALSE NEIGHBOUR: 'it returns false'. Refute it at one input. -/
def fnExactPlaceWrong : ChangeSpec := { name := "fnExactPlace", fn := fun _ => fun
  | [d] => { results := [.lit (.bool false)], args := [d] }
  | _ => none }
def FnExactPlaceWrongFalsely : Prop := fnExactPlaceRow.holds Try.pinned (OpenSpec.ofChange fnExactPlaceWrong)

/-- 'laws.FnExactEnter': WHATEVER THE INPUT: true; the input reads as it did. -/
def fnExactEnterSpec : ChangeSpec := { name := "fnExactEnter", fn := fun _ => fun
  | [d1, d2, d3, d4, d5, d6] => { results := [.lit (.bool true)], args := [d1, d2, d3, d4, d5, d6] }
  | _ => none }
def fnExactEnterRow : OpenClaim := { program := "ytgcbdlfljplkbai", sum := "dd8380096c4cfe1b51d4b5592a06a1a3d4beefe8af1fb74790edee0749437951", func := "loop.example/g00134/laws.FnExactEnter", spec := "fnExactEnter", unfollowed := true, recurses := true, apart := false }
def FnExactEnterSaid : Prop := fnExactEnterRow.holds Try.pinned (OpenSpec.ofChange fnExactEnterSpec)

/-- ITS FALSE NEIGHBOUR: 'it returns false'. Refute it at one input. -/
def fnExactEnterWrong : ChangeSpec := { name := "fnExactEnter", fn := fun _ => fun
  | [d1, d2, d3, d4, d5, d6] => { results := [.lit (.bool false)], args := [d1, d2, d3, d4, d5, d6] }
  | _ => none }
def FnExactEnterWrongFalsely : Prop := fnExactEnterRow.holds Try.pinned (OpenSpec.ofChange fnExactEnterWrong)

/-- 'laws.FnExactLeave': WHATEVER THE INPUT: true; the input reads as it did. -/
def fnExactLeaveSpec : ChangeSpec := { name := "fnExactLeave", fn := fun _ => fun
  | [d1, d2, d3] => { results := [.lit (.bool true)], args := [d1, d2, d3] }
  | _ => none }
def fnExactLeaveRow : OpenClaim := { program := "ytgcbdlfljplkbai", sum := "dd8380096c4cfe1b51d4b5592a06a1a3d4beefe8af1fb74790edee0749437951", func := "loop.example/g00134/laws.FnExactLeave", spec := "fnExactLeave", unfollowed := true, recurses := true, apart := false }
def FnExactLeaveSaid : Prop := fnExactLeaveRow.holds Try.pinned (OpenSpec.ofChange fnExactLeaveSpec)

/-- ITS FALSE NEIGHBOUR: 'it returns false'. Refute it at one input. -/
def fnExactLeaveWrong : ChangeSpec := { name := "fnExactLeave", fn := fun _ => fun
  | [d1, d2, d3] => { results := [.lit (.bool false)], args := [d1, d2, d3] }
  | _ => none }
def FnExactLeaveWrongFalsely : Prop := fnExactLeaveRow.holds Try.pinned (OpenSpec.ofChange fnExactLeaveWrong)

/-- 'laws.FnExactPending': WHATEVER THE INPUT: true; the input reads as it did. -/
def fnExactPendingSpec : ChangeSpec := { name := "fnExactPending", fn := fun _ => fun
  | [d1, d2] => { results := [.lit (.bool true)], args := [d1, d2] }
  | _ => none }
def fnExactPendingRow : OpenClaim := { program := "ytgcbdlfljplkbai", sum := "dd8380096c4cfe1b51d4b5592a06a1a3d4beefe8af1fb74790edee0749437951", func := "loop.example/g00134/laws.FnExactPending", spec := "fnExactPending", unfollowed := true, recurses := true, apart := false }
def FnExactPendingSaid : Prop := fnExactPendingRow.holds Try.pinned (OpenSpec.ofChange fnExactPendingSpec)

/-- ITS FALSE NEIGHBOUR: 'it returns false'. Refute it at one input. -/
def fnExactPendingWrong : ChangeSpec := { name := "fnExactPending", fn := fun _ => fun
  | [d1, d2] => { results := [.lit (.bool false)], args := [d1, d2] }
  | _ => none }
def FnExactPendingWrongFalsely : Prop := fnExactPendingRow.holds Try.pinned (OpenSpec.ofChange fnExactPendingWrong)

/-- 'laws.FnExactLegal': WHATEVER THE INPUT: true; the input reads as it did. -/
def fnExactLegalSpec : ChangeSpec := { name := "fnExactLegal", fn := fun _ => fun
  | [d1, d2] => { results := [.lit (.bool true)], args := [d1, d2] }
  | _ => none }
def fnExactLegalRow : OpenClaim := { program := "ytgcbdlfljplkbai", sum := "dd8380096c4cfe1b51d4b5592a06a1a3d4beefe8af1fb74790edee0749437951", func := "loop.example/g00134/laws.FnExactLegal", spec := "fnExactLegal", unfollowed := true, recurses := true, apart := false }
def FnExactLegalSaid : Prop := fnExactLegalRow.holds Try.pinned (OpenSpec.ofChange fnExactLegalSpec)

/-- ITS FALSE NEIGHBOUR: 'it returns false'. Refute it at one input. -/
def fnExactLegalWrong : ChangeSpec := { name := "fnExactLegal", fn := fun _ => fun
  | [d1, d2] => { results := [.lit (.bool false)], args := [d1, d2] }
  | _ => none }
def FnExactLegalWrongFalsely : Prop := fnExactLegalRow.holds Try.pinned (OpenSpec.ofChange fnExactLegalWrong)

/- THE SECOND FORM. 'bulk': how many values and letters a reading holds, each counted each time it is reached (what is shared counts as often as it is met; a slice's spare places count too). A statement '..UptoSaid' is the law's where the arguments, and the package variables that the reading takes, are together of bulk at most 1048576: NARROWER than '..Said'. Prove '..Said' where nothing that the law and all that it calls make is longer than what came in: it says more and counts as full. Else prove '..UptoSaid'. A law counts once. -/
mutual
def uptoBulk {H : Type} : DataW H → Nat
  | .lit (.string bytes) => bytes.length + 1
  | .lit _ => 1
  | .nil => 1
  | .ptr d => uptoBulk d + 1
  | .slice elems spare => uptoBulkAll elems + uptoBulkAll spare + 1
  | .agg parts => uptoBulkAll parts + 1
  | .iface _ d => uptoBulk d + 1
  | .map entries => uptoBulkEntries entries + 1
  | .held _ => 1
def uptoBulkAll {H : Type} : List (DataW H) → Nat
  | [] => 0
  | d :: r => uptoBulk d + uptoBulkAll r
def uptoBulkEntries {H : Type} : List (Lit × DataW H) → Nat
  | [] => 0
  | x :: r => uptoBulkEntry x + uptoBulkEntries r
def uptoBulkEntry {H : Type} : Lit × DataW H → Nat
  | (.string bytes, d) => bytes.length + uptoBulk d + 1
  | (_, d) => uptoBulk d + 1
 end
def uptoSmall : (H : Type) → List (DataW H) → Bool := fun _ ds => decide (uptoBulkAll ds ≤ 1048576)
def OpenSpec.upto (s : _root_.Go.ChangeSpec) : _root_.Go.OpenSpec := { _root_.Go.OpenSpec.ofChange s with cond := some uptoSmall }

/-- 'laws.FnExactWriteCsr', WHERE WHAT IT READS IS OF BULK AT MOST 1048576: true; the input reads as it did. -/
def fnExactWriteCsrUptoRow : OpenClaim := { program := "ytgcbdlfljplkbai", sum := "dd8380096c4cfe1b51d4b5592a06a1a3d4beefe8af1fb74790edee0749437951", func := "loop.example/g00134/laws.FnExactWriteCsr", spec := "fnExactWriteCsr", unfollowed := true, recurses := true, apart := false, narrowed := true }
def FnExactWriteCsrUptoSaid : Prop := fnExactWriteCsrUptoRow.holds Try.pinned (OpenSpec.upto fnExactWriteCsrSpec)

/-- 'laws.FnExactPlace', WHERE WHAT IT READS IS OF BULK AT MOST 1048576: true; the input reads as it did. -/
def fnExactPlaceUptoRow : OpenClaim := { program := "ytgcbdlfljplkbai", sum := "dd8380096c4cfe1b51d4b5592a06a1a3d4beefe8af1fb74790edee0749437951", func := "loop.example/g00134/laws.FnExactPlace", spec := "fnExactPlace", unfollowed := true, recurses := true, apart := false, narrowed := true }
def FnExactPlaceUptoSaid : Prop := fnExactPlaceUptoRow.holds Try.pinned (OpenSpec.upto fnExactPlaceSpec)

/-- 'laws.FnExactEnter', WHERE WHAT IT READS IS OF BULK AT MOST 1048576: true; the input reads as it did. -/
def fnExactEnterUptoRow : OpenClaim := { program := "ytgcbdlfljplkbai", sum := "dd8380096c4cfe1b51d4b5592a06a1a3d4beefe8af1fb74790edee0749437951", func := "loop.example/g00134/laws.FnExactEnter", spec := "fnExactEnter", unfollowed := true, recurses := true, apart := false, narrowed := true }
def FnExactEnterUptoSaid : Prop := fnExactEnterUptoRow.holds Try.pinned (OpenSpec.upto fnExactEnterSpec)

/-- 'laws.FnExactLeave', WHERE WHAT IT READS IS OF BULK AT MOST 1048576: true; the input reads as it did. -/
def fnExactLeaveUptoRow : OpenClaim := { program := "ytgcbdlfljplkbai", sum := "dd8380096c4cfe1b51d4b5592a06a1a3d4beefe8af1fb74790edee0749437951", func := "loop.example/g00134/laws.FnExactLeave", spec := "fnExactLeave", unfollowed := true, recurses := true, apart := false, narrowed := true }
def FnExactLeaveUptoSaid : Prop := fnExactLeaveUptoRow.holds Try.pinned (OpenSpec.upto fnExactLeaveSpec)

/-- 'laws.FnExactPending', WHERE WHAT IT READS IS OF BULK AT MOST 1048576: true; the input reads as it did. -/
def fnExactPendingUptoRow : OpenClaim := { program := "ytgcbdlfljplkbai", sum := "dd8380096c4cfe1b51d4b5592a06a1a3d4beefe8af1fb74790edee0749437951", func := "loop.example/g00134/laws.FnExactPending", spec := "fnExactPending", unfollowed := true, recurses := true, apart := false, narrowed := true }
def FnExactPendingUptoSaid : Prop := fnExactPendingUptoRow.holds Try.pinned (OpenSpec.upto fnExactPendingSpec)

/-- 'laws.FnExactLegal', WHERE WHAT IT READS IS OF BULK AT MOST 1048576: true; the input reads as it did. -/
def fnExactLegalUptoRow : OpenClaim := { program := "ytgcbdlfljplkbai", sum := "dd8380096c4cfe1b51d4b5592a06a1a3d4beefe8af1fb74790edee0749437951", func := "loop.example/g00134/laws.FnExactLegal", spec := "fnExactLegal", unfollowed := true, recurses := true, apart := false, narrowed := true }
def FnExactLegalUptoSaid : Prop := fnExactLegalUptoRow.holds Try.pinned (OpenSpec.upto fnExactLegalSpec)

end Rows
end Go.Proofs.Ytgcbdlfljplkbai
