/-
  No cell of these rows narrows 'for every input' (looked for: loops, veiled, ifaces, maps, wideKeys, modest, calm, conditions, laid).
  DERIVED. THE GIVEN ROWS OF THIS SEAT. 6 by the template 'for every input the law returns true; each argument reads behind the call as it read before'; 0 by the template 'total and deterministic' (their statements: YtbkddoibefgplaaTotals.lean).
  GIVEN WITH THE SEED: the statements are not yours to turn. If you find one false, say at which input.
  Laid BY PROGRAM, IN A SANDBOX (cutbox-rows.mjs): the forced cells as the released guide's own fill.sh prints them over the translation 572024a6fce7414a… (all of the seat's roots in one cut). By AI agents, Wed Nov 11 2026. No macro, syntax, notation, axiom, sorry.
-/
import Derived.Test.YtbkddoibefgplaaChecked
import GoSem.Claim
import GoSem.ClaimJoined
import GoSem.ClaimMapViews
import Derived.JoinedTies
import Derived.KernelRfl
namespace Go.Proofs.Ytbkddoibefgplaa
/- THE CELL 'sum', in the pinned program and in every row, IS THE sha256 OF THE DUMP (.gsa) THAT YtbkddoibefgplaaProg.lean LOADS. Nothing in Lean hashes anything: it is a label: what it is worth is what the hold of that sum in a sandbox is worth. -/
noncomputable def Try.pinned : Pinned := { name := "ytbkddoibefgplaa", sum := "572024a6fce7414a6b3467b33317c40bd538893388ede1c6177e99da05fc8e92", checked := Try.checked }
namespace Rows
def none {H : Type} : Left H := { results := [], args := [] }

/-- 'laws.FnDevices': WHATEVER THE INPUT: true; the input reads as it did. -/
def fnDevicesSpec : ChangeSpec := { name := "fnDevices", fn := fun _ => fun
  | [d] => { results := [.lit (.bool true)], args := [d] }
  | _ => none }
def fnDevicesRow : OpenClaim := { program := "ytbkddoibefgplaa", sum := "572024a6fce7414a6b3467b33317c40bd538893388ede1c6177e99da05fc8e92", func := "loop.example/g00134/laws.FnDevices", spec := "fnDevices", apart := false }
def FnDevicesSaid : Prop := fnDevicesRow.holds Try.pinned (OpenSpec.ofChange fnDevicesSpec)

/-- ITS FALSE NEIGHBOUR: 'it returns false'. Refute it at one input. -/
def fnDevicesWrong : ChangeSpec := { name := "fnDevices", fn := fun _ => fun
  | [d] => { results := [.lit (.bool false)], args := [d] }
  | _ => none }
def FnDevicesWrongFalsely : Prop := fnDevicesRow.holds Try.pinned (OpenSpec.ofChange fnDevicesWrong)

/-- 'laws.FnTicked': WHATEVER THE INPUT: true; the input reads as it did. -/
def fnTickedSpec : ChangeSpec := { name := "fnTicked", fn := fun _ => fun
  | [d] => { results := [.lit (.bool true)], args := [d] }
  | _ => none }
def fnTickedRow : OpenClaim := { program := "ytbkddoibefgplaa", sum := "572024a6fce7414a6b3467b33317c40bd538893388ede1c6177e99da05fc8e92", func := "loop.example/g00134/laws.FnTicked", spec := "fnTicked", apart := false }
def FnTickedSaid : Prop := fnTickedRow.holds Try.pinned (OpenSpec.ofChange fnTickedSpec)

/-- ITS FALSE NEIGHBOUR: 'it returns false'. Refute it at one input. -/
def fnTickedWrong : ChangeSpec := { name := "fnTicked", fn := fun _ => fun
  | [d] => { results := [.lit (.bool false)], args := [d] }
  | _ => none }
def FnTickedWrongFalsely : Prop := fnTickedRow.holds Try.pinned (OpenSpec.ofChange fnTickedWrong)

/-- 'laws.FnExactDevOk': WHATEVER THE INPUT: true; the input reads as it did. -/
def fnExactDevOkSpec : ChangeSpec := { name := "fnExactDevOk", fn := fun _ => fun
  | [d] => { results := [.lit (.bool true)], args := [d] }
  | _ => none }
def fnExactDevOkRow : OpenClaim := { program := "ytbkddoibefgplaa", sum := "572024a6fce7414a6b3467b33317c40bd538893388ede1c6177e99da05fc8e92", func := "loop.example/g00134/laws.FnExactDevOk", spec := "fnExactDevOk", apart := false }
def FnExactDevOkSaid : Prop := fnExactDevOkRow.holds Try.pinned (OpenSpec.ofChange fnExactDevOkSpec)

/-- ITS FALSE NEIGHBOUR: 'it returns false'. Refute it at one input. -/
def fnExactDevOkWrong : ChangeSpec := { name := "fnExactDevOk", fn := fun _ => fun
  | [d] => { results := [.lit (.bool false)], args := [d] }
  | _ => none }
def FnExactDevOkWrongFalsely : Prop := fnExactDevOkRow.holds Try.pinned (OpenSpec.ofChange fnExactDevOkWrong)

/-- 'laws.FnExactDevLoad': WHATEVER THE INPUT: true; the input reads as it did. -/
def fnExactDevLoadSpec : ChangeSpec := { name := "fnExactDevLoad", fn := fun _ => fun
  | [d1, d2, d3] => { results := [.lit (.bool true)], args := [d1, d2, d3] }
  | _ => none }
def fnExactDevLoadRow : OpenClaim := { program := "ytbkddoibefgplaa", sum := "572024a6fce7414a6b3467b33317c40bd538893388ede1c6177e99da05fc8e92", func := "loop.example/g00134/laws.FnExactDevLoad", spec := "fnExactDevLoad", apart := false }
def FnExactDevLoadSaid : Prop := fnExactDevLoadRow.holds Try.pinned (OpenSpec.ofChange fnExactDevLoadSpec)

/-- ITS FALSE NEIGHBOUR: 'it returns false'. Refute it at one input. -/
def fnExactDevLoadWrong : ChangeSpec := { name := "fnExactDevLoad", fn := fun _ => fun
  | [d1, d2, d3] => { results := [.lit (.bool false)], args := [d1, d2, d3] }
  | _ => none }
def FnExactDevLoadWrongFalsely : Prop := fnExactDevLoadRow.holds Try.pinned (OpenSpec.ofChange fnExactDevLoadWrong)

/-- 'laws.FnExactDevStore': WHATEVER THE INPUT: true; the input reads as it did. -/
def fnExactDevStoreSpec : ChangeSpec := { name := "fnExactDevStore", fn := fun _ => fun
  | [d1, d2, d3, d4] => { results := [.lit (.bool true)], args := [d1, d2, d3, d4] }
  | _ => none }
def fnExactDevStoreRow : OpenClaim := { program := "ytbkddoibefgplaa", sum := "572024a6fce7414a6b3467b33317c40bd538893388ede1c6177e99da05fc8e92", func := "loop.example/g00134/laws.FnExactDevStore", spec := "fnExactDevStore", apart := false }
def FnExactDevStoreSaid : Prop := fnExactDevStoreRow.holds Try.pinned (OpenSpec.ofChange fnExactDevStoreSpec)

/-- ITS FALSE NEIGHBOUR: 'it returns false'. Refute it at one input. -/
def fnExactDevStoreWrong : ChangeSpec := { name := "fnExactDevStore", fn := fun _ => fun
  | [d1, d2, d3, d4] => { results := [.lit (.bool false)], args := [d1, d2, d3, d4] }
  | _ => none }
def FnExactDevStoreWrongFalsely : Prop := fnExactDevStoreRow.holds Try.pinned (OpenSpec.ofChange fnExactDevStoreWrong)

/-- 'laws.FnExactLines': WHATEVER THE INPUT: true; the input reads as it did. -/
def fnExactLinesSpec : ChangeSpec := { name := "fnExactLines", fn := fun _ => fun
  | [d] => { results := [.lit (.bool true)], args := [d] }
  | _ => none }
def fnExactLinesRow : OpenClaim := { program := "ytbkddoibefgplaa", sum := "572024a6fce7414a6b3467b33317c40bd538893388ede1c6177e99da05fc8e92", func := "loop.example/g00134/laws.FnExactLines", spec := "fnExactLines", apart := false }
def FnExactLinesSaid : Prop := fnExactLinesRow.holds Try.pinned (OpenSpec.ofChange fnExactLinesSpec)

/-- ITS FALSE NEIGHBOUR: 'it returns false'. Refute it at one input. -/
def fnExactLinesWrong : ChangeSpec := { name := "fnExactLines", fn := fun _ => fun
  | [d] => { results := [.lit (.bool false)], args := [d] }
  | _ => none }
def FnExactLinesWrongFalsely : Prop := fnExactLinesRow.holds Try.pinned (OpenSpec.ofChange fnExactLinesWrong)

/- THE SECOND FORM. 'bulk': how many values and letters a reading holds, each counted each time it is reached (what is shared counts as often as it is met; a slice's spare places count too). A statement '..UptoSaid' is the law's where the arguments, and the package variables that the reading takes, are together of bulk at most 1048576: NARROWER than '..Said'. Prove '..Said' where nothing that the law and all that it calls make is longer than what came in: it says more and counts as full. Else prove '..UptoSaid'. A law counts once. -/
mutual
def uptoBulk {H : Type} : DataW H → Nat
  | .lit (.string bytes) => bytes.length + 1
  | .lit _ => 1
  | .nil => 1
  | .ptr d => uptoBulk d + 1
  | .slice elems spare => uptoBulkAll elems + uptoBulkAll spare + 1
  | .agg parts => uptoBulkAll parts + 1
  | .iface _ d => uptoBulk d + 1
  | .map entries => uptoBulkEntries entries + 1
  | .held _ => 1
def uptoBulkAll {H : Type} : List (DataW H) → Nat
  | [] => 0
  | d :: r => uptoBulk d + uptoBulkAll r
def uptoBulkEntries {H : Type} : List (Lit × DataW H) → Nat
  | [] => 0
  | x :: r => uptoBulkEntry x + uptoBulkEntries r
def uptoBulkEntry {H : Type} : Lit × DataW H → Nat
  | (.string bytes, d) => bytes.length + uptoBulk d + 1
  | (_, d) => uptoBulk d + 1
 end
def uptoSmall : (H : Type) → List (DataW H) → Bool := fun _ ds => decide (uptoBulkAll ds ≤ 1048576)
def OpenSpec.upto (s : _root_.Go.ChangeSpec) : _root_.Go.OpenSpec := { _root_.Go.OpenSpec.ofChange s with cond := some uptoSmall }

/-- 'laws.FnDevices', WHERE WHAT IT READS IS OF BULK AT MOST 1048576: true; the input reads as it did. -/
def fnDevicesUptoRow : OpenClaim := { program := "ytbkddoibefgplaa", sum := "572024a6fce7414a6b3467b33317c40bd538893388ede1c6177e99da05fc8e92", func := "loop.example/g00134/laws.FnDevices", spec := "fnDevices", apart := false, narrowed := true }
def FnDevicesUptoSaid : Prop := fnDevicesUptoRow.holds Try.pinned (OpenSpec.upto fnDevicesSpec)

/-- 'laws.FnTicked', WHERE WHAT IT READS IS OF BULK AT MOST 1048576: true; the input reads as it did. -/
def fnTickedUptoRow : OpenClaim := { program := "ytbkddoibefgplaa", sum := "572024a6fce7414a6b3467b33317c40bd538893388ede1c6177e99da05fc8e92", func := "loop.example/g00134/laws.FnTicked", spec := "fnTicked", apart := false, narrowed := true }
def FnTickedUptoSaid : Prop := fnTickedUptoRow.holds Try.pinned (OpenSpec.upto fnTickedSpec)

/-- 'laws.FnExactDevOk', WHERE WHAT IT READS IS OF BULK AT MOST 1048576: true; the input reads as it did. -/
def fnExactDevOkUptoRow : OpenClaim := { program := "ytbkddoibefgplaa", sum := "572024a6fce7414a6b3467b33317c40bd538893388ede1c6177e99da05fc8e92", func := "loop.example/g00134/laws.FnExactDevOk", spec := "fnExactDevOk", apart := false, narrowed := true }
def FnExactDevOkUptoSaid : Prop := fnExactDevOkUptoRow.holds Try.pinned (OpenSpec.upto fnExactDevOkSpec)

/-- 'laws.FnExactDevLoad', WHERE WHAT IT READS IS OF BULK AT MOST 1048576: true; the input reads as it did. -/
def fnExactDevLoadUptoRow : OpenClaim := { program := "ytbkddoibefgplaa", sum := "572024a6fce7414a6b3467b33317c40bd538893388ede1c6177e99da05fc8e92", func := "loop.example/g00134/laws.FnExactDevLoad", spec := "fnExactDevLoad", apart := false, narrowed := true }
def FnExactDevLoadUptoSaid : Prop := fnExactDevLoadUptoRow.holds Try.pinned (OpenSpec.upto fnExactDevLoadSpec)

/-- 'laws.FnExactDevStore', WHERE WHAT IT READS IS OF BULK AT MOST 1048576: true; the input reads as it did. -/
def fnExactDevStoreUptoRow : OpenClaim := { program := "ytbkddoibefgplaa", sum := "572024a6fce7414a6b3467b33317c40bd538893388ede1c6177e99da05fc8e92", func := "loop.example/g00134/laws.FnExactDevStore", spec := "fnExactDevStore", apart := false, narrowed := true }
def FnExactDevStoreUptoSaid : Prop := fnExactDevStoreUptoRow.holds Try.pinned (OpenSpec.upto fnExactDevStoreSpec)

/-- 'laws.FnExactLines', WHERE WHAT IT READS IS OF BULK AT MOST 1048576: true; the input reads as it did. -/
def fnExactLinesUptoRow : OpenClaim := { program := "ytbkddoibefgplaa", sum := "572024a6fce7414a6b3467b33317c40bd538893388ede1c6177e99da05fc8e92", func := "loop.example/g00134/laws.FnExactLines", spec := "fnExactLines", apart := false, narrowed := true }
def FnExactLinesUptoSaid : Prop := fnExactLinesUptoRow.holds Try.pinned (OpenSpec.upto fnExactLinesSpec)

end Rows
end Go.Proofs.Ytbkddoibefgplaa
