/-
  No cell of these rows narrows 'for every input' (looked for: loops, veiled, ifaces, maps, wideKeys, modest, calm, conditions, laid).
  DERIVED. THE GIVEN ROWS OF THIS SEAT. 6 by the template 'for every input the law returns true; each argument reads behind the call as it read before'; 0 by the template 'total and deterministic' (their statements: YtjkeiedjnefeaagTotals.lean).
  GIVEN WITH THE SEED: the statements are not yours to turn. If you find one false, say at which input.
  Laid BY PROGRAM, IN A SANDBOX (cutbox-rows.mjs): the forced cells as the released guide's own fill.sh prints them over the translation 4630b63bc55e2ac3… (all of the seat's roots in one cut). By AI agents, Wed Nov 11 2026. No macro, syntax, notation, axiom, sorry.
-/
import Derived.Test.YtjkeiedjnefeaagChecked
import GoSem.Claim
import GoSem.ClaimJoined
import GoSem.ClaimMapViews
import Derived.JoinedTies
import Derived.KernelRfl
namespace Go.Proofs.Ytjkeiedjnefeaag
/- THE CELL 'sum', in the pinned program and in every row, IS THE sha256 OF THE DUMP (.gsa) THAT YtjkeiedjnefeaagProg.lean LOADS. Nothing in Lean hashes anything: it is a label: what it is worth is what the hold of that sum in a sandbox is worth. -/
noncomputable def Try.pinned : Pinned := { name := "ytjkeiedjnefeaag", sum := "4630b63bc55e2ac3e734afd4e99d1a773e19d3acbcfb21f42fec2906f5f5c3cb", checked := Try.checked }
namespace Rows
def none {H : Type} : Left H := { results := [], args := [] }

/-- 'laws.FnExactDecode': WHATEVER THE INPUT: true; the input reads as it did. -/
def fnExactDecodeSpec : ChangeSpec := { name := "fnExactDecode", fn := fun _ => fun
  | [d] => { results := [.lit (.bool true)], args := [d] }
  | _ => none }
def fnExactDecodeRow : OpenClaim := { program := "ytjkeiedjnefeaag", sum := "4630b63bc55e2ac3e734afd4e99d1a773e19d3acbcfb21f42fec2906f5f5c3cb", func := "loop.example/g00134/laws.FnExactDecode", spec := "fnExactDecode", plainKeys := false, apart := false }
def FnExactDecodeSaid : Prop := fnExactDecodeRow.holds Try.pinned (OpenSpec.ofChange fnExactDecodeSpec)

/-- ITS FALSE NEIGHBOUR: 'it returns false'. Refute it at one input. -/
def fnExactDecodeWrong : ChangeSpec := { name := "fnExactDecode", fn := fun _ => fun
  | [d] => { results := [.lit (.bool false)], args := [d] }
  | _ => none }
def FnExactDecodeWrongFalsely : Prop := fnExactDecodeRow.holds Try.pinned (OpenSpec.ofChange fnExactDecodeWrong)

/-- 'laws.FnExactEncode': WHATEVER THE INPUT: true; the input reads as it did. -/
def fnExactEncodeSpec : ChangeSpec := { name := "fnExactEncode", fn := fun _ => fun
  | [d] => { results := [.lit (.bool true)], args := [d] }
  | _ => none }
def fnExactEncodeRow : OpenClaim := { program := "ytjkeiedjnefeaag", sum := "4630b63bc55e2ac3e734afd4e99d1a773e19d3acbcfb21f42fec2906f5f5c3cb", func := "loop.example/g00134/laws.FnExactEncode", spec := "fnExactEncode", plainKeys := false, apart := false }
def FnExactEncodeSaid : Prop := fnExactEncodeRow.holds Try.pinned (OpenSpec.ofChange fnExactEncodeSpec)

/-- ITS FALSE NEIGHBOUR: 'it returns false'. Refute it at one input. -/
def fnExactEncodeWrong : ChangeSpec := { name := "fnExactEncode", fn := fun _ => fun
  | [d] => { results := [.lit (.bool false)], args := [d] }
  | _ => none }
def FnExactEncodeWrongFalsely : Prop := fnExactEncodeRow.holds Try.pinned (OpenSpec.ofChange fnExactEncodeWrong)

/-- 'laws.FnExactName': WHATEVER THE INPUT: true; the input reads as it did. -/
def fnExactNameSpec : ChangeSpec := { name := "fnExactName", fn := fun _ => fun
  | [d] => { results := [.lit (.bool true)], args := [d] }
  | _ => none }
def fnExactNameRow : OpenClaim := { program := "ytjkeiedjnefeaag", sum := "4630b63bc55e2ac3e734afd4e99d1a773e19d3acbcfb21f42fec2906f5f5c3cb", func := "loop.example/g00134/laws.FnExactName", spec := "fnExactName", plainKeys := false, apart := false }
def FnExactNameSaid : Prop := fnExactNameRow.holds Try.pinned (OpenSpec.ofChange fnExactNameSpec)

/-- ITS FALSE NEIGHBOUR: 'it returns false'. Refute it at one input. -/
def fnExactNameWrong : ChangeSpec := { name := "fnExactName", fn := fun _ => fun
  | [d] => { results := [.lit (.bool false)], args := [d] }
  | _ => none }
def FnExactNameWrongFalsely : Prop := fnExactNameRow.holds Try.pinned (OpenSpec.ofChange fnExactNameWrong)

/-- 'laws.FnExactOpOf': WHATEVER THE INPUT: true; the input reads as it did. -/
def fnExactOpOfSpec : ChangeSpec := { name := "fnExactOpOf", fn := fun _ => fun
  | [d] => { results := [.lit (.bool true)], args := [d] }
  | _ => none }
def fnExactOpOfRow : OpenClaim := { program := "ytjkeiedjnefeaag", sum := "4630b63bc55e2ac3e734afd4e99d1a773e19d3acbcfb21f42fec2906f5f5c3cb", func := "loop.example/g00134/laws.FnExactOpOf", spec := "fnExactOpOf", plainKeys := false, apart := false }
def FnExactOpOfSaid : Prop := fnExactOpOfRow.holds Try.pinned (OpenSpec.ofChange fnExactOpOfSpec)

/-- ITS FALSE NEIGHBOUR: 'it returns false'. Refute it at one input. -/
def fnExactOpOfWrong : ChangeSpec := { name := "fnExactOpOf", fn := fun _ => fun
  | [d] => { results := [.lit (.bool false)], args := [d] }
  | _ => none }
def FnExactOpOfWrongFalsely : Prop := fnExactOpOfRow.holds Try.pinned (OpenSpec.ofChange fnExactOpOfWrong)

/-- 'laws.FnExactForm': WHATEVER THE INPUT: true; the input reads as it did. -/
def fnExactFormSpec : ChangeSpec := { name := "fnExactForm", fn := fun _ => fun
  | [d] => { results := [.lit (.bool true)], args := [d] }
  | _ => none }
def fnExactFormRow : OpenClaim := { program := "ytjkeiedjnefeaag", sum := "4630b63bc55e2ac3e734afd4e99d1a773e19d3acbcfb21f42fec2906f5f5c3cb", func := "loop.example/g00134/laws.FnExactForm", spec := "fnExactForm", plainKeys := false, apart := false }
def FnExactFormSaid : Prop := fnExactFormRow.holds Try.pinned (OpenSpec.ofChange fnExactFormSpec)

/-- ITS FALSE NEIGHBOUR: 'it returns false'. Refute it at one input. -/
def fnExactFormWrong : ChangeSpec := { name := "fnExactForm", fn := fun _ => fun
  | [d] => { results := [.lit (.bool false)], args := [d] }
  | _ => none }
def FnExactFormWrongFalsely : Prop := fnExactFormRow.holds Try.pinned (OpenSpec.ofChange fnExactFormWrong)

/-- 'laws.FnExactAlu': WHATEVER THE INPUT: true; the input reads as it did. -/
def fnExactAluSpec : ChangeSpec := { name := "fnExactAlu", fn := fun _ => fun
  | [d1, d2, d3] => { results := [.lit (.bool true)], args := [d1, d2, d3] }
  | _ => none }
def fnExactAluRow : OpenClaim := { program := "ytjkeiedjnefeaag", sum := "4630b63bc55e2ac3e734afd4e99d1a773e19d3acbcfb21f42fec2906f5f5c3cb", func := "loop.example/g00134/laws.FnExactAlu", spec := "fnExactAlu", unfollowed := true, recurses := true, plainKeys := false, apart := false }
def FnExactAluSaid : Prop := fnExactAluRow.holds Try.pinned (OpenSpec.ofChange fnExactAluSpec)

/-- ITS FALSE NEIGHBOUR: 'it returns false'. Refute it at one input. -/
def fnExactAluWrong : ChangeSpec := { name := "fnExactAlu", fn := fun _ => fun
  | [d1, d2, d3] => { results := [.lit (.bool false)], args := [d1, d2, d3] }
  | _ => none }
def FnExactAluWrongFalsely : Prop := fnExactAluRow.holds Try.pinned (OpenSpec.ofChange fnExactAluWrong)

/- THE SECOND FORM. 'bulk': how many values and letters a reading holds, each counted each time it is reached (what is shared counts as often as it is met; a slice's spare places count too). A statement '..UptoSaid' is the law's where the arguments, and the package variables that the reading takes, are together of bulk at most 1048576: NARROWER than '..Said'. Prove '..Said' where nothing that the law and all that it calls make is longer than what came in: it says more and counts as full. Else prove '..UptoSaid'. A law counts once. -/
mutual
def uptoBulk {H : Type} : DataW H → Nat
  | .lit (.string bytes) => bytes.length + 1
  | .lit _ => 1
  | .nil => 1
  | .ptr d => uptoBulk d + 1
  | .slice elems spare => uptoBulkAll elems + uptoBulkAll spare + 1
  | .agg parts => uptoBulkAll parts + 1
  | .iface _ d => uptoBulk d + 1
  | .map entries => uptoBulkEntries entries + 1
  | .held _ => 1
def uptoBulkAll {H : Type} : List (DataW H) → Nat
  | [] => 0
  | d :: r => uptoBulk d + uptoBulkAll r
def uptoBulkEntries {H : Type} : List (Lit × DataW H) → Nat
  | [] => 0
  | x :: r => uptoBulkEntry x + uptoBulkEntries r
def uptoBulkEntry {H : Type} : Lit × DataW H → Nat
  | (.string bytes, d) => bytes.length + uptoBulk d + 1
  | (_, d) => uptoBulk d + 1
 end
def uptoSmall : (H : Type) → List (DataW H) → Bool := fun _ ds => decide (uptoBulkAll ds ≤ 1048576)
def OpenSpec.upto (s : _root_.Go.ChangeSpec) : _root_.Go.OpenSpec := { _root_.Go.OpenSpec.ofChange s with cond := some uptoSmall }

/-- 'laws.FnExactDecode', WHERE WHAT IT READS IS OF BULK AT MOST 1048576: true; the input reads as it did. -/
def fnExactDecodeUptoRow : OpenClaim := { program := "ytjkeiedjnefeaag", sum := "4630b63bc55e2ac3e734afd4e99d1a773e19d3acbcfb21f42fec2906f5f5c3cb", func := "loop.example/g00134/laws.FnExactDecode", spec := "fnExactDecode", plainKeys := false, apart := false, narrowed := true }
def FnExactDecodeUptoSaid : Prop := fnExactDecodeUptoRow.holds Try.pinned (OpenSpec.upto fnExactDecodeSpec)

/-- 'laws.FnExactEncode', WHERE WHAT IT READS IS OF BULK AT MOST 1048576: true; the input reads as it did. -/
def fnExactEncodeUptoRow : OpenClaim := { program := "ytjkeiedjnefeaag", sum := "4630b63bc55e2ac3e734afd4e99d1a773e19d3acbcfb21f42fec2906f5f5c3cb", func := "loop.example/g00134/laws.FnExactEncode", spec := "fnExactEncode", plainKeys := false, apart := false, narrowed := true }
def FnExactEncodeUptoSaid : Prop := fnExactEncodeUptoRow.holds Try.pinned (OpenSpec.upto fnExactEncodeSpec)

/-- 'laws.FnExactName', WHERE WHAT IT READS IS OF BULK AT MOST 1048576: true; the input reads as it did. -/
def fnExactNameUptoRow : OpenClaim := { program := "ytjkeiedjnefeaag", sum := "4630b63bc55e2ac3e734afd4e99d1a773e19d3acbcfb21f42fec2906f5f5c3cb", func := "loop.example/g00134/laws.FnExactName", spec := "fnExactName", plainKeys := false, apart := false, narrowed := true }
def FnExactNameUptoSaid : Prop := fnExactNameUptoRow.holds Try.pinned (OpenSpec.upto fnExactNameSpec)

/-- 'laws.FnExactOpOf', WHERE WHAT IT READS IS OF BULK AT MOST 1048576: true; the input reads as it did. -/
def fnExactOpOfUptoRow : OpenClaim := { program := "ytjkeiedjnefeaag", sum := "4630b63bc55e2ac3e734afd4e99d1a773e19d3acbcfb21f42fec2906f5f5c3cb", func := "loop.example/g00134/laws.FnExactOpOf", spec := "fnExactOpOf", plainKeys := false, apart := false, narrowed := true }
def FnExactOpOfUptoSaid : Prop := fnExactOpOfUptoRow.holds Try.pinned (OpenSpec.upto fnExactOpOfSpec)

/-- 'laws.FnExactForm', WHERE WHAT IT READS IS OF BULK AT MOST 1048576: true; the input reads as it did. -/
def fnExactFormUptoRow : OpenClaim := { program := "ytjkeiedjnefeaag", sum := "4630b63bc55e2ac3e734afd4e99d1a773e19d3acbcfb21f42fec2906f5f5c3cb", func := "loop.example/g00134/laws.FnExactForm", spec := "fnExactForm", plainKeys := false, apart := false, narrowed := true }
def FnExactFormUptoSaid : Prop := fnExactFormUptoRow.holds Try.pinned (OpenSpec.upto fnExactFormSpec)

/-- 'laws.FnExactAlu', WHERE WHAT IT READS IS OF BULK AT MOST 1048576: true; the input reads as it did. -/
def fnExactAluUptoRow : OpenClaim := { program := "ytjkeiedjnefeaag", sum := "4630b63bc55e2ac3e734afd4e99d1a773e19d3acbcfb21f42fec2906f5f5c3cb", func := "loop.example/g00134/laws.FnExactAlu", spec := "fnExactAlu", unfollowed := true, recurses := true, plainKeys := false, apart := false, narrowed := true }
def FnExactAluUptoSaid : Prop := fnExactAluUptoRow.holds Try.pinned (OpenSpec.upto fnExactAluSpec)

end Rows
end Go.Proofs.Ytjkeiedjnefeaag
