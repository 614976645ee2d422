/-
  No cell of these rows narrows 'for every input' (looked for: loops, veiled, ifaces, maps, wideKeys, modest, calm, conditions, laid).
  DERIVED. THE GIVEN ROWS OF THIS SEAT. 5 by the template 'for every input the law returns true; each argument reads behind the call as it read before'; 0 by the template 'total and deterministic' (their statements: YtgcbdlfljplkbabTotals.lean).
  GIVEN WITH THE SEED: the statements are not yours to turn. If you find one false, say at which input.
  Laid BY PROGRAM, IN A SANDBOX (cutbox-rows.mjs): the forced cells as the released guide's own fill.sh prints them over the translation 9e8be1a70a675703… (all of the seat's roots in one cut). By AI agents, Wed Nov 11 2026. No macro, syntax, notation, axiom, sorry.
-/
import Derived.Test.YtgcbdlfljplkbabChecked
import GoSem.Claim
import GoSem.ClaimJoined
import GoSem.ClaimMapViews
import Derived.JoinedTies
import Derived.KernelRfl
namespace Go.Proofs.Ytgcbdlfljplkbab
/- THE CELL 'sum', in the pinned program and in every row, IS THE sha256 OF THE DUMP (.gsa) THAT YtgcbdlfljplkbabProg.lean LOADS. Nothing in Lean hashes anything: it is a label: what it is worth is what the hold of that sum in a sandbox is worth. -/
noncomputable def Try.pinned : Pinned := { name := "ytgcbdlfljplkbab", sum := "9e8be1a70a675703e38d7c94d384821e26260d1d6e5e73f007769e11d6e9df92", checked := Try.checked }
namespace Rows
def none {H : Type} : Left H := { results := [], args := [] }

/-- 'laws.FnAmos': WHATEVER THE INPUT: true; the input reads as it did. -/
def fnAmosSpec : ChangeSpec := { name := "fnAmos", fn := fun _ => fun
  | [d] => { results := [.lit (.bool true)], args := [d] }
  | _ => none }
def fnAmosRow : OpenClaim := { program := "ytgcbdlfljplkbab", sum := "9e8be1a70a675703e38d7c94d384821e26260d1d6e5e73f007769e11d6e9df92", func := "loop.example/g00134/laws.FnAmos", spec := "fnAmos", unfollowed := true, recurses := true, apart := false }
def FnAmosSaid : Prop := fnAmosRow.holds Try.pinned (OpenSpec.ofChange fnAmosSpec)

/-- ITS FALSE NEIGHBOUR: 'it returns false'. Refute it at one input. -/
def fnAmosWrong : ChangeSpec := { name := "fnAmos", fn := fun _ => fun
  | [d] => { results := [.lit (.bool false)], args := [d] }
  | _ => none }
def FnAmosWrongFalsely : Prop := fnAmosRow.holds Try.pinned (OpenSpec.ofChange fnAmosWrong)

/-- 'laws.FnCsrs': WHATEVER THE INPUT: true; the input reads as it did. -/
def fnCsrsSpec : ChangeSpec := { name := "fnCsrs", fn := fun _ => fun
  | [d] => { results := [.lit (.bool true)], args := [d] }
  | _ => none }
def fnCsrsRow : OpenClaim := { program := "ytgcbdlfljplkbab", sum := "9e8be1a70a675703e38d7c94d384821e26260d1d6e5e73f007769e11d6e9df92", func := "loop.example/g00134/laws.FnCsrs", spec := "fnCsrs", unfollowed := true, recurses := true, apart := false }
def FnCsrsSaid : Prop := fnCsrsRow.holds Try.pinned (OpenSpec.ofChange fnCsrsSpec)

/-- ITS FALSE NEIGHBOUR: 'it returns false'. Refute it at one input. -/
def fnCsrsWrong : ChangeSpec := { name := "fnCsrs", fn := fun _ => fun
  | [d] => { results := [.lit (.bool false)], args := [d] }
  | _ => none }
def FnCsrsWrongFalsely : Prop := fnCsrsRow.holds Try.pinned (OpenSpec.ofChange fnCsrsWrong)

/-- 'laws.FnTrapped': WHATEVER THE INPUT: true; the input reads as it did. -/
def fnTrappedSpec : ChangeSpec := { name := "fnTrapped", fn := fun _ => fun
  | [d] => { results := [.lit (.bool true)], args := [d] }
  | _ => none }
def fnTrappedRow : OpenClaim := { program := "ytgcbdlfljplkbab", sum := "9e8be1a70a675703e38d7c94d384821e26260d1d6e5e73f007769e11d6e9df92", func := "loop.example/g00134/laws.FnTrapped", spec := "fnTrapped", unfollowed := true, recurses := true, apart := false }
def FnTrappedSaid : Prop := fnTrappedRow.holds Try.pinned (OpenSpec.ofChange fnTrappedSpec)

/-- ITS FALSE NEIGHBOUR: 'it returns false'. Refute it at one input. -/
def fnTrappedWrong : ChangeSpec := { name := "fnTrapped", fn := fun _ => fun
  | [d] => { results := [.lit (.bool false)], args := [d] }
  | _ => none }
def FnTrappedWrongFalsely : Prop := fnTrappedRow.holds Try.pinned (OpenSpec.ofChange fnTrappedWrong)

/-- 'laws.FnLeft': WHATEVER THE INPUT: true; the input reads as it did. -/
def fnLeftSpec : ChangeSpec := { name := "fnLeft", fn := fun _ => fun
  | [d] => { results := [.lit (.bool true)], args := [d] }
  | _ => none }
def fnLeftRow : OpenClaim := { program := "ytgcbdlfljplkbab", sum := "9e8be1a70a675703e38d7c94d384821e26260d1d6e5e73f007769e11d6e9df92", func := "loop.example/g00134/laws.FnLeft", spec := "fnLeft", unfollowed := true, recurses := true, apart := false }
def FnLeftSaid : Prop := fnLeftRow.holds Try.pinned (OpenSpec.ofChange fnLeftSpec)

/-- ITS FALSE NEIGHBOUR: 'it returns false'. Refute it at one input. -/
def fnLeftWrong : ChangeSpec := { name := "fnLeft", fn := fun _ => fun
  | [d] => { results := [.lit (.bool false)], args := [d] }
  | _ => none }
def FnLeftWrongFalsely : Prop := fnLeftRow.holds Try.pinned (OpenSpec.ofChange fnLeftWrong)

/-- 'laws.FnPending': WHATEVER THE INPUT: true; the input reads as it did. -/
def fnPendingSpec : ChangeSpec := { name := "fnPending", fn := fun _ => fun
  | [d] => { results := [.lit (.bool true)], args := [d] }
  | _ => none }
def fnPendingRow : OpenClaim := { program := "ytgcbdlfljplkbab", sum := "9e8be1a70a675703e38d7c94d384821e26260d1d6e5e73f007769e11d6e9df92", func := "loop.example/g00134/laws.FnPending", spec := "fnPending", unfollowed := true, recurses := true, apart := false }
def FnPendingSaid : Prop := fnPendingRow.holds Try.pinned (OpenSpec.ofChange fnPendingSpec)

/-- ITS FALSE NEIGHBOUR: 'it returns false'. Refute it at one input. -/
def fnPendingWrong : ChangeSpec := { name := "fnPending", fn := fun _ => fun
  | [d] => { results := [.lit (.bool false)], args := [d] }
  | _ => none }
def FnPendingWrongFalsely : Prop := fnPendingRow.holds Try.pinned (OpenSpec.ofChange fnPendingWrong)

/- THE SECOND FORM. 'bulk': how many values and letters a reading holds, each counted each time it is reached (what is shared counts as often as it is met; a slice's spare places count too). A statement '..UptoSaid' is the law's where the arguments, and the package variables that the reading takes, are together of bulk at most 1048576: NARROWER than '..Said'. Prove '..Said' where nothing that the law and all that it calls make is longer than what came in: it says more and counts as full. Else prove '..UptoSaid'. A law counts once. -/
mutual
def uptoBulk {H : Type} : DataW H → Nat
  | .lit (.string bytes) => bytes.length + 1
  | .lit _ => 1
  | .nil => 1
  | .ptr d => uptoBulk d + 1
  | .slice elems spare => uptoBulkAll elems + uptoBulkAll spare + 1
  | .agg parts => uptoBulkAll parts + 1
  | .iface _ d => uptoBulk d + 1
  | .map entries => uptoBulkEntries entries + 1
  | .held _ => 1
def uptoBulkAll {H : Type} : List (DataW H) → Nat
  | [] => 0
  | d :: r => uptoBulk d + uptoBulkAll r
def uptoBulkEntries {H : Type} : List (Lit × DataW H) → Nat
  | [] => 0
  | x :: r => uptoBulkEntry x + uptoBulkEntries r
def uptoBulkEntry {H : Type} : Lit × DataW H → Nat
  | (.string bytes, d) => bytes.length + uptoBulk d + 1
  | (_, d) => uptoBulk d + 1
 end
def uptoSmall : (H : Type) → List (DataW H) → Bool := fun _ ds => decide (uptoBulkAll ds ≤ 1048576)
def OpenSpec.upto (s : _root_.Go.ChangeSpec) : _root_.Go.OpenSpec := { _root_.Go.OpenSpec.ofChange s with cond := some uptoSmall }

/-- 'laws.FnAmos', WHERE WHAT IT READS IS OF BULK AT MOST 1048576: true; the input reads as it did. -/
def fnAmosUptoRow : OpenClaim := { program := "ytgcbdlfljplkbab", sum := "9e8be1a70a675703e38d7c94d384821e26260d1d6e5e73f007769e11d6e9df92", func := "loop.example/g00134/laws.FnAmos", spec := "fnAmos", unfollowed := true, recurses := true, apart := false, narrowed := true }
def FnAmosUptoSaid : Prop := fnAmosUptoRow.holds Try.pinned (OpenSpec.upto fnAmosSpec)

/-- 'laws.FnCsrs', WHERE WHAT IT READS IS OF BULK AT MOST 1048576: true; the input reads as it did. -/
def fnCsrsUptoRow : OpenClaim := { program := "ytgcbdlfljplkbab", sum := "9e8be1a70a675703e38d7c94d384821e26260d1d6e5e73f007769e11d6e9df92", func := "loop.example/g00134/laws.FnCsrs", spec := "fnCsrs", unfollowed := true, recurses := true, apart := false, narrowed := true }
def FnCsrsUptoSaid : Prop := fnCsrsUptoRow.holds Try.pinned (OpenSpec.upto fnCsrsSpec)

/-- 'laws.FnTrapped', WHERE WHAT IT READS IS OF BULK AT MOST 1048576: true; the input reads as it did. -/
def fnTrappedUptoRow : OpenClaim := { program := "ytgcbdlfljplkbab", sum := "9e8be1a70a675703e38d7c94d384821e26260d1d6e5e73f007769e11d6e9df92", func := "loop.example/g00134/laws.FnTrapped", spec := "fnTrapped", unfollowed := true, recurses := true, apart := false, narrowed := true }
def FnTrappedUptoSaid : Prop := fnTrappedUptoRow.holds Try.pinned (OpenSpec.upto fnTrappedSpec)

/-- 'laws.FnLeft', WHERE WHAT IT READS IS OF BULK AT MOST 1048576: true; the input reads as it did. -/
def fnLeftUptoRow : OpenClaim := { program := "ytgcbdlfljplkbab", sum := "9e8be1a70a675703e38d7c94d384821e26260d1d6e5e73f007769e11d6e9df92", func := "loop.example/g00134/laws.FnLeft", spec := "fnLeft", unfollowed := true, recurses := true, apart := false, narrowed := true }
def FnLeftUptoSaid : Prop := fnLeftUptoRow.holds Try.pinned (OpenSpec.upto fnLeftSpec)

/-- 'laws.FnPending', WHERE WHAT IT READS IS OF BULK AT MOST 1048576: true; the input reads as it did. -/
def fnPendingUptoRow : OpenClaim := { program := "ytgcbdlfljplkbab", sum := "9e8be1a70a675703e38d7c94d384821e26260d1d6e5e73f007769e11d6e9df92", func := "loop.example/g00134/laws.FnPending", spec := "fnPending", unfollowed := true, recurses := true, apart := false, narrowed := true }
def FnPendingUptoSaid : Prop := fnPendingUptoRow.holds Try.pinned (OpenSpec.upto fnPendingSpec)

end Rows
end Go.Proofs.Ytgcbdlfljplkbab
