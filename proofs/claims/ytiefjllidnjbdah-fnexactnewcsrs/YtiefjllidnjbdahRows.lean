/-
  No cell of these rows narrows 'for every input' (looked for: loops, veiled, ifaces, maps, wideKeys, modest, calm, conditions, laid).
  DERIVED. THE GIVEN ROWS OF THIS SEAT. 6 by the template 'for every input the law returns true; each argument reads behind the call as it read before'; 0 by the template 'total and deterministic' (their statements: YtiefjllidnjbdahTotals.lean).
  GIVEN WITH THE SEED: the statements are not yours to turn. If you find one false, say at which input.
  Laid BY PROGRAM, IN A SANDBOX (cutbox-rows.mjs): the forced cells as the released guide's own fill.sh prints them over the translation f43d15e9e6424b82… (all of the seat's roots in one cut). By AI agents, Wed Nov 11 2026. No macro, syntax, notation, axiom, sorry.
-/
import Derived.Test.YtiefjllidnjbdahChecked
import GoSem.Claim
import GoSem.ClaimJoined
import GoSem.ClaimMapViews
import Derived.JoinedTies
import Derived.KernelRfl
namespace Go.Proofs.Ytiefjllidnjbdah
/- THE CELL 'sum', in the pinned program and in every row, IS THE sha256 OF THE DUMP (.gsa) THAT YtiefjllidnjbdahProg.lean LOADS. Nothing in Lean hashes anything: it is a label: what it is worth is what the hold of that sum in a sandbox is worth. -/
noncomputable def Try.pinned : Pinned := { name := "ytiefjllidnjbdah", sum := "f43d15e9e6424b8291e0cb4e8a8e72156b03ca2765cf6413c17ed64f46201a69", checked := Try.checked }
namespace Rows
def none {H : Type} : Left H := { results := [], args := [] }

/-- 'laws.FnExactBranch': WHATEVER THE INPUT: true; the input reads as it did. -/
def fnExactBranchSpec : ChangeSpec := { name := "fnExactBranch", fn := fun _ => fun
  | [d1, d2, d3] => { results := [.lit (.bool true)], args := [d1, d2, d3] }
  | _ => none }
def fnExactBranchRow : OpenClaim := { program := "ytiefjllidnjbdah", sum := "f43d15e9e6424b8291e0cb4e8a8e72156b03ca2765cf6413c17ed64f46201a69", func := "loop.example/g00134/laws.FnExactBranch", spec := "fnExactBranch", unfollowed := true, recurses := true, apart := false }
def FnExactBranchSaid : Prop := fnExactBranchRow.holds Try.pinned (OpenSpec.ofChange fnExactBranchSpec)

/-- ITS FALSE NEIGHBOUR: 'it returns false'. Refute it at one input. -/
def fnExactBranchWrong : ChangeSpec := { name := "fnExactBranch", fn := fun _ => fun
  | [d1, d2, d3] => { results := [.lit (.bool false)], args := [d1, d2, d3] }
  | _ => none }
def FnExactBranchWrongFalsely : Prop := fnExactBranchRow.holds Try.pinned (OpenSpec.ofChange fnExactBranchWrong)

/-- 'laws.FnExactAmo': WHATEVER THE INPUT: true; the input reads as it did. -/
def fnExactAmoSpec : ChangeSpec := { name := "fnExactAmo", fn := fun _ => fun
  | [d1, d2, d3] => { results := [.lit (.bool true)], args := [d1, d2, d3] }
  | _ => none }
def fnExactAmoRow : OpenClaim := { program := "ytiefjllidnjbdah", sum := "f43d15e9e6424b8291e0cb4e8a8e72156b03ca2765cf6413c17ed64f46201a69", func := "loop.example/g00134/laws.FnExactAmo", spec := "fnExactAmo", unfollowed := true, recurses := true, apart := false }
def FnExactAmoSaid : Prop := fnExactAmoRow.holds Try.pinned (OpenSpec.ofChange fnExactAmoSpec)

/-- ITS FALSE NEIGHBOUR: 'it returns false'. Refute it at one input. -/
def fnExactAmoWrong : ChangeSpec := { name := "fnExactAmo", fn := fun _ => fun
  | [d1, d2, d3] => { results := [.lit (.bool false)], args := [d1, d2, d3] }
  | _ => none }
def FnExactAmoWrongFalsely : Prop := fnExactAmoRow.holds Try.pinned (OpenSpec.ofChange fnExactAmoWrong)

/-- 'laws.FnExactHigh': WHATEVER THE INPUT: true; the input reads as it did. -/
def fnExactHighSpec : ChangeSpec := { name := "fnExactHigh", fn := fun _ => fun
  | [d1, d2] => { results := [.lit (.bool true)], args := [d1, d2] }
  | _ => none }
def fnExactHighRow : OpenClaim := { program := "ytiefjllidnjbdah", sum := "f43d15e9e6424b8291e0cb4e8a8e72156b03ca2765cf6413c17ed64f46201a69", func := "loop.example/g00134/laws.FnExactHigh", spec := "fnExactHigh", apart := false }
def FnExactHighSaid : Prop := fnExactHighRow.holds Try.pinned (OpenSpec.ofChange fnExactHighSpec)

/-- ITS FALSE NEIGHBOUR: 'it returns false'. Refute it at one input. -/
def fnExactHighWrong : ChangeSpec := { name := "fnExactHigh", fn := fun _ => fun
  | [d1, d2] => { results := [.lit (.bool false)], args := [d1, d2] }
  | _ => none }
def FnExactHighWrongFalsely : Prop := fnExactHighRow.holds Try.pinned (OpenSpec.ofChange fnExactHighWrong)

/-- 'laws.FnExactCsrsOk': WHATEVER THE INPUT: true; the input reads as it did. -/
def fnExactCsrsOkSpec : ChangeSpec := { name := "fnExactCsrsOk", fn := fun _ => fun
  | [d] => { results := [.lit (.bool true)], args := [d] }
  | _ => none }
def fnExactCsrsOkRow : OpenClaim := { program := "ytiefjllidnjbdah", sum := "f43d15e9e6424b8291e0cb4e8a8e72156b03ca2765cf6413c17ed64f46201a69", func := "loop.example/g00134/laws.FnExactCsrsOk", spec := "fnExactCsrsOk", unfollowed := true, recurses := true, apart := false }
def FnExactCsrsOkSaid : Prop := fnExactCsrsOkRow.holds Try.pinned (OpenSpec.ofChange fnExactCsrsOkSpec)

/-- ITS FALSE NEIGHBOUR: 'it returns false'. Refute it at one input. -/
def fnExactCsrsOkWrong : ChangeSpec := { name := "fnExactCsrsOk", fn := fun _ => fun
  | [d] => { results := [.lit (.bool false)], args := [d] }
  | _ => none }
def FnExactCsrsOkWrongFalsely : Prop := fnExactCsrsOkRow.holds Try.pinned (OpenSpec.ofChange fnExactCsrsOkWrong)

/-- 'laws.FnExactNewCsrs': WHATEVER THE INPUT: true; the input reads as it did. -/
def fnExactNewCsrsSpec : ChangeSpec := { name := "fnExactNewCsrs", fn := fun _ => fun
  | [] => { results := [.lit (.bool true)], args := [] }
  | _ => none }
def fnExactNewCsrsRow : OpenClaim := { program := "ytiefjllidnjbdah", sum := "f43d15e9e6424b8291e0cb4e8a8e72156b03ca2765cf6413c17ed64f46201a69", func := "loop.example/g00134/laws.FnExactNewCsrs", spec := "fnExactNewCsrs", apart := false }
def FnExactNewCsrsSaid : Prop := fnExactNewCsrsRow.holds Try.pinned (OpenSpec.ofChange fnExactNewCsrsSpec)

/-- ITS FALSE NEIGHBOUR: 'it returns false'. Refute it at one input. -/
def fnExactNewCsrsWrong : ChangeSpec := { name := "fnExactNewCsrs", fn := fun _ => fun
  | [] => { results := [.lit (.bool false)], args := [] }
  | _ => none }
def FnExactNewCsrsWrongFalsely : Prop := fnExactNewCsrsRow.holds Try.pinned (OpenSpec.ofChange fnExactNewCsrsWrong)

/-- 'laws.FnExactReadCsr': WHATEVER THE INPUT: true; the input reads as it did. -/
def fnExactReadCsrSpec : ChangeSpec := { name := "fnExactReadCsr", fn := fun _ => fun
  | [d1, d2, d3] => { results := [.lit (.bool true)], args := [d1, d2, d3] }
  | _ => none }
def fnExactReadCsrRow : OpenClaim := { program := "ytiefjllidnjbdah", sum := "f43d15e9e6424b8291e0cb4e8a8e72156b03ca2765cf6413c17ed64f46201a69", func := "loop.example/g00134/laws.FnExactReadCsr", spec := "fnExactReadCsr", unfollowed := true, recurses := true, apart := false }
def FnExactReadCsrSaid : Prop := fnExactReadCsrRow.holds Try.pinned (OpenSpec.ofChange fnExactReadCsrSpec)

/-- ITS FALSE NEIGHBOUR: 'it returns false'. Refute it at one input. -/
def fnExactReadCsrWrong : ChangeSpec := { name := "fnExactReadCsr", fn := fun _ => fun
  | [d1, d2, d3] => { results := [.lit (.bool false)], args := [d1, d2, d3] }
  | _ => none }
def FnExactReadCsrWrongFalsely : Prop := fnExactReadCsrRow.holds Try.pinned (OpenSpec.ofChange fnExactReadCsrWrong)

/- THE SECOND FORM. 'bulk': how many values and letters a reading holds, each counted each time it is reached (what is shared counts as often as it is met; a slice's spare places count too). A statement '..UptoSaid' is the law's where the arguments, and the package variables that the reading takes, are together of bulk at most 1048576: NARROWER than '..Said'. Prove '..Said' where nothing that the law and all that it calls make is longer than what came in: it says more and counts as full. Else prove '..UptoSaid'. A law counts once. -/
mutual
def uptoBulk {H : Type} : DataW H → Nat
  | .lit (.string bytes) => bytes.length + 1
  | .lit _ => 1
  | .nil => 1
  | .ptr d => uptoBulk d + 1
  | .slice elems spare => uptoBulkAll elems + uptoBulkAll spare + 1
  | .agg parts => uptoBulkAll parts + 1
  | .iface _ d => uptoBulk d + 1
  | .map entries => uptoBulkEntries entries + 1
  | .held _ => 1
def uptoBulkAll {H : Type} : List (DataW H) → Nat
  | [] => 0
  | d :: r => uptoBulk d + uptoBulkAll r
def uptoBulkEntries {H : Type} : List (Lit × DataW H) → Nat
  | [] => 0
  | x :: r => uptoBulkEntry x + uptoBulkEntries r
def uptoBulkEntry {H : Type} : Lit × DataW H → Nat
  | (.string bytes, d) => bytes.length + uptoBulk d + 1
  | (_, d) => uptoBulk d + 1
 end
def uptoSmall : (H : Type) → List (DataW H) → Bool := fun _ ds => decide (uptoBulkAll ds ≤ 1048576)
def OpenSpec.upto (s : _root_.Go.ChangeSpec) : _root_.Go.OpenSpec := { _root_.Go.OpenSpec.ofChange s with cond := some uptoSmall }

/-- 'laws.FnExactBranch', WHERE WHAT IT READS IS OF BULK AT MOST 1048576: true; the input reads as it did. -/
def fnExactBranchUptoRow : OpenClaim := { program := "ytiefjllidnjbdah", sum := "f43d15e9e6424b8291e0cb4e8a8e72156b03ca2765cf6413c17ed64f46201a69", func := "loop.example/g00134/laws.FnExactBranch", spec := "fnExactBranch", unfollowed := true, recurses := true, apart := false, narrowed := true }
def FnExactBranchUptoSaid : Prop := fnExactBranchUptoRow.holds Try.pinned (OpenSpec.upto fnExactBranchSpec)

/-- 'laws.FnExactAmo', WHERE WHAT IT READS IS OF BULK AT MOST 1048576: true; the input reads as it did. -/
def fnExactAmoUptoRow : OpenClaim := { program := "ytiefjllidnjbdah", sum := "f43d15e9e6424b8291e0cb4e8a8e72156b03ca2765cf6413c17ed64f46201a69", func := "loop.example/g00134/laws.FnExactAmo", spec := "fnExactAmo", unfollowed := true, recurses := true, apart := false, narrowed := true }
def FnExactAmoUptoSaid : Prop := fnExactAmoUptoRow.holds Try.pinned (OpenSpec.upto fnExactAmoSpec)

/-- 'laws.FnExactHigh', WHERE WHAT IT READS IS OF BULK AT MOST 1048576: true; the input reads as it did. -/
def fnExactHighUptoRow : OpenClaim := { program := "ytiefjllidnjbdah", sum := "f43d15e9e6424b8291e0cb4e8a8e72156b03ca2765cf6413c17ed64f46201a69", func := "loop.example/g00134/laws.FnExactHigh", spec := "fnExactHigh", apart := false, narrowed := true }
def FnExactHighUptoSaid : Prop := fnExactHighUptoRow.holds Try.pinned (OpenSpec.upto fnExactHighSpec)

/-- 'laws.FnExactCsrsOk', WHERE WHAT IT READS IS OF BULK AT MOST 1048576: true; the input reads as it did. -/
def fnExactCsrsOkUptoRow : OpenClaim := { program := "ytiefjllidnjbdah", sum := "f43d15e9e6424b8291e0cb4e8a8e72156b03ca2765cf6413c17ed64f46201a69", func := "loop.example/g00134/laws.FnExactCsrsOk", spec := "fnExactCsrsOk", unfollowed := true, recurses := true, apart := false, narrowed := true }
def FnExactCsrsOkUptoSaid : Prop := fnExactCsrsOkUptoRow.holds Try.pinned (OpenSpec.upto fnExactCsrsOkSpec)

/-- 'laws.FnExactNewCsrs', WHERE WHAT IT READS IS OF BULK AT MOST 1048576: true; the input reads as it did. -/
def fnExactNewCsrsUptoRow : OpenClaim := { program := "ytiefjllidnjbdah", sum := "f43d15e9e6424b8291e0cb4e8a8e72156b03ca2765cf6413c17ed64f46201a69", func := "loop.example/g00134/laws.FnExactNewCsrs", spec := "fnExactNewCsrs", apart := false, narrowed := true }
def FnExactNewCsrsUptoSaid : Prop := fnExactNewCsrsUptoRow.holds Try.pinned (OpenSpec.upto fnExactNewCsrsSpec)

/-- 'laws.FnExactReadCsr', WHERE WHAT IT READS IS OF BULK AT MOST 1048576: true; the input reads as it did. -/
def fnExactReadCsrUptoRow : OpenClaim := { program := "ytiefjllidnjbdah", sum := "f43d15e9e6424b8291e0cb4e8a8e72156b03ca2765cf6413c17ed64f46201a69", func := "loop.example/g00134/laws.FnExactReadCsr", spec := "fnExactReadCsr", unfollowed := true, recurses := true, apart := false, narrowed := true }
def FnExactReadCsrUptoSaid : Prop := fnExactReadCsrUptoRow.holds Try.pinned (OpenSpec.upto fnExactReadCsrSpec)

end Rows
end Go.Proofs.Ytiefjllidnjbdah
