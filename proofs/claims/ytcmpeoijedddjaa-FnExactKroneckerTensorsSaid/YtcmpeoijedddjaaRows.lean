/-
  No cell of these rows narrows 'for every input' (looked for: loops, veiled, ifaces, maps, wideKeys, modest, calm, conditions, laid).
  DERIVED. THE GIVEN ROWS OF THIS SEAT. 4 by the template 'for every input the law returns true; each argument reads behind the call as it read before'; 0 by the template 'total and deterministic' (their statements: YtcmpeoijedddjaaTotals.lean).
  GIVEN WITH THE SEED: the statements are not yours to turn. If you find one false, say at which input.
  Laid BY PROGRAM, IN A SANDBOX (cutbox-rows.mjs): the forced cells as the released guide's own fill.sh prints them over the translation b8bfeb913cfc8540… (all of the seat's roots in one cut). By AI agents, Wed Nov 11 2026. No macro, syntax, notation, axiom, sorry.
-/
import Derived.Test.YtcmpeoijedddjaaChecked
import GoSem.Claim
import GoSem.ClaimJoined
import GoSem.ClaimMapViews
import Derived.JoinedTies
import Derived.KernelRfl
namespace Go.Proofs.Ytcmpeoijedddjaa
/- THE CELL 'sum', in the pinned program and in every row, IS THE sha256 OF THE DUMP (.gsa) THAT YtcmpeoijedddjaaProg.lean LOADS. Nothing in Lean hashes anything: it is a label: what it is worth is what the hold of that sum in a sandbox is worth. -/
noncomputable def Try.pinned : Pinned := { name := "ytcmpeoijedddjaa", sum := "b8bfeb913cfc8540451a37223cf1d76b9b78c704c4502a77f31e8f052a3e0c16", checked := Try.checked }
namespace Rows
def none {H : Type} : Left H := { results := [], args := [] }

/-- 'laws.FnExactKroneckerTensors': WHATEVER THE INPUT: true; the input reads as it did. -/
def fnExactKroneckerTensorsSpec : ChangeSpec := { name := "fnExactKroneckerTensors", fn := fun _ => fun
  | [d1, d2] => { results := [.lit (.bool true)], args := [d1, d2] }
  | _ => none }
def fnExactKroneckerTensorsRow : OpenClaim := { program := "ytcmpeoijedddjaa", sum := "b8bfeb913cfc8540451a37223cf1d76b9b78c704c4502a77f31e8f052a3e0c16", func := "loop.example/g01262/laws.FnExactKroneckerTensors", spec := "fnExactKroneckerTensors", unfollowed := true, recurses := true, apart := false }
def FnExactKroneckerTensorsSaid : Prop := fnExactKroneckerTensorsRow.holds Try.pinned (OpenSpec.ofChange fnExactKroneckerTensorsSpec)

/-- ITS FALSE NEIGHBOUR: 'it returns false'. Refute it at one input. -/
def fnExactKroneckerTensorsWrong : ChangeSpec := { name := "fnExactKroneckerTensors", fn := fun _ => fun
  | [d1, d2] => { results := [.lit (.bool false)], args := [d1, d2] }
  | _ => none }
def FnExactKroneckerTensorsWrongFalsely : Prop := fnExactKroneckerTensorsRow.holds Try.pinned (OpenSpec.ofChange fnExactKroneckerTensorsWrong)

/-- 'laws.FnExactDirectSum': WHATEVER THE INPUT: true; the input reads as it did. -/
def fnExactDirectSumSpec : ChangeSpec := { name := "fnExactDirectSum", fn := fun _ => fun
  | [d1, d2] => { results := [.lit (.bool true)], args := [d1, d2] }
  | _ => none }
def fnExactDirectSumRow : OpenClaim := { program := "ytcmpeoijedddjaa", sum := "b8bfeb913cfc8540451a37223cf1d76b9b78c704c4502a77f31e8f052a3e0c16", func := "loop.example/g01262/laws.FnExactDirectSum", spec := "fnExactDirectSum", unfollowed := true, recurses := true, apart := false }
def FnExactDirectSumSaid : Prop := fnExactDirectSumRow.holds Try.pinned (OpenSpec.ofChange fnExactDirectSumSpec)

/-- ITS FALSE NEIGHBOUR: 'it returns false'. Refute it at one input. -/
def fnExactDirectSumWrong : ChangeSpec := { name := "fnExactDirectSum", fn := fun _ => fun
  | [d1, d2] => { results := [.lit (.bool false)], args := [d1, d2] }
  | _ => none }
def FnExactDirectSumWrongFalsely : Prop := fnExactDirectSumRow.holds Try.pinned (OpenSpec.ofChange fnExactDirectSumWrong)

/-- 'laws.FnExactTensorOfScheme': WHATEVER THE INPUT: true; the input reads as it did. -/
def fnExactTensorOfSchemeSpec : ChangeSpec := { name := "fnExactTensorOfScheme", fn := fun _ => fun
  | [d] => { results := [.lit (.bool true)], args := [d] }
  | _ => none }
def fnExactTensorOfSchemeRow : OpenClaim := { program := "ytcmpeoijedddjaa", sum := "b8bfeb913cfc8540451a37223cf1d76b9b78c704c4502a77f31e8f052a3e0c16", func := "loop.example/g01262/laws.FnExactTensorOfScheme", spec := "fnExactTensorOfScheme", unfollowed := true, recurses := true, apart := false }
def FnExactTensorOfSchemeSaid : Prop := fnExactTensorOfSchemeRow.holds Try.pinned (OpenSpec.ofChange fnExactTensorOfSchemeSpec)

/-- ITS FALSE NEIGHBOUR: 'it returns false'. Refute it at one input. -/
def fnExactTensorOfSchemeWrong : ChangeSpec := { name := "fnExactTensorOfScheme", fn := fun _ => fun
  | [d] => { results := [.lit (.bool false)], args := [d] }
  | _ => none }
def FnExactTensorOfSchemeWrongFalsely : Prop := fnExactTensorOfSchemeRow.holds Try.pinned (OpenSpec.ofChange fnExactTensorOfSchemeWrong)

/-- 'laws.FnExactMatrixTensor': WHATEVER THE INPUT: true; the input reads as it did. -/
def fnExactMatrixTensorSpec : ChangeSpec := { name := "fnExactMatrixTensor", fn := fun _ => fun
  | [d1, d2, d3, d4] => { results := [.lit (.bool true)], args := [d1, d2, d3, d4] }
  | _ => none }
def fnExactMatrixTensorRow : OpenClaim := { program := "ytcmpeoijedddjaa", sum := "b8bfeb913cfc8540451a37223cf1d76b9b78c704c4502a77f31e8f052a3e0c16", func := "loop.example/g01262/laws.FnExactMatrixTensor", spec := "fnExactMatrixTensor", unfollowed := true, recurses := true, apart := false }
def FnExactMatrixTensorSaid : Prop := fnExactMatrixTensorRow.holds Try.pinned (OpenSpec.ofChange fnExactMatrixTensorSpec)

/-- ITS FALSE NEIGHBOUR: 'it returns false'. Refute it at one input. -/
def fnExactMatrixTensorWrong : ChangeSpec := { name := "fnExactMatrixTensor", fn := fun _ => fun
  | [d1, d2, d3, d4] => { results := [.lit (.bool false)], args := [d1, d2, d3, d4] }
  | _ => none }
def FnExactMatrixTensorWrongFalsely : Prop := fnExactMatrixTensorRow.holds Try.pinned (OpenSpec.ofChange fnExactMatrixTensorWrong)

/- THE SECOND FORM. 'bulk': how many values and letters a reading holds, each counted each time it is reached (what is shared counts as often as it is met; a slice's spare places count too). A statement '..UptoSaid' is the law's where the arguments, and the package variables that the reading takes, are together of bulk at most 1048576: NARROWER than '..Said'. Prove '..Said' where nothing that the law and all that it calls make is longer than what came in: it says more and counts as full. Else prove '..UptoSaid'. A law counts once. -/
mutual
def uptoBulk {H : Type} : DataW H → Nat
  | .lit (.string bytes) => bytes.length + 1
  | .lit _ => 1
  | .nil => 1
  | .ptr d => uptoBulk d + 1
  | .slice elems spare => uptoBulkAll elems + uptoBulkAll spare + 1
  | .agg parts => uptoBulkAll parts + 1
  | .iface _ d => uptoBulk d + 1
  | .map entries => uptoBulkEntries entries + 1
  | .held _ => 1
def uptoBulkAll {H : Type} : List (DataW H) → Nat
  | [] => 0
  | d :: r => uptoBulk d + uptoBulkAll r
def uptoBulkEntries {H : Type} : List (Lit × DataW H) → Nat
  | [] => 0
  | x :: r => uptoBulkEntry x + uptoBulkEntries r
def uptoBulkEntry {H : Type} : Lit × DataW H → Nat
  | (.string bytes, d) => bytes.length + uptoBulk d + 1
  | (_, d) => uptoBulk d + 1
 end
def uptoSmall : (H : Type) → List (DataW H) → Bool := fun _ ds => decide (uptoBulkAll ds ≤ 1048576)
def OpenSpec.upto (s : _root_.Go.ChangeSpec) : _root_.Go.OpenSpec := { _root_.Go.OpenSpec.ofChange s with cond := some uptoSmall }

/-- 'laws.FnExactKroneckerTensors', WHERE WHAT IT READS IS OF BULK AT MOST 1048576: true; the input reads as it did. -/
def fnExactKroneckerTensorsUptoRow : OpenClaim := { program := "ytcmpeoijedddjaa", sum := "b8bfeb913cfc8540451a37223cf1d76b9b78c704c4502a77f31e8f052a3e0c16", func := "loop.example/g01262/laws.FnExactKroneckerTensors", spec := "fnExactKroneckerTensors", unfollowed := true, recurses := true, apart := false, narrowed := true }
def FnExactKroneckerTensorsUptoSaid : Prop := fnExactKroneckerTensorsUptoRow.holds Try.pinned (OpenSpec.upto fnExactKroneckerTensorsSpec)

/-- 'laws.FnExactDirectSum', WHERE WHAT IT READS IS OF BULK AT MOST 1048576: true; the input reads as it did. -/
def fnExactDirectSumUptoRow : OpenClaim := { program := "ytcmpeoijedddjaa", sum := "b8bfeb913cfc8540451a37223cf1d76b9b78c704c4502a77f31e8f052a3e0c16", func := "loop.example/g01262/laws.FnExactDirectSum", spec := "fnExactDirectSum", unfollowed := true, recurses := true, apart := false, narrowed := true }
def FnExactDirectSumUptoSaid : Prop := fnExactDirectSumUptoRow.holds Try.pinned (OpenSpec.upto fnExactDirectSumSpec)

/-- 'laws.FnExactTensorOfScheme', WHERE WHAT IT READS IS OF BULK AT MOST 1048576: true; the input reads as it did. -/
def fnExactTensorOfSchemeUptoRow : OpenClaim := { program := "ytcmpeoijedddjaa", sum := "b8bfeb913cfc8540451a37223cf1d76b9b78c704c4502a77f31e8f052a3e0c16", func := "loop.example/g01262/laws.FnExactTensorOfScheme", spec := "fnExactTensorOfScheme", unfollowed := true, recurses := true, apart := false, narrowed := true }
def FnExactTensorOfSchemeUptoSaid : Prop := fnExactTensorOfSchemeUptoRow.holds Try.pinned (OpenSpec.upto fnExactTensorOfSchemeSpec)

/-- 'laws.FnExactMatrixTensor', WHERE WHAT IT READS IS OF BULK AT MOST 1048576: true; the input reads as it did. -/
def fnExactMatrixTensorUptoRow : OpenClaim := { program := "ytcmpeoijedddjaa", sum := "b8bfeb913cfc8540451a37223cf1d76b9b78c704c4502a77f31e8f052a3e0c16", func := "loop.example/g01262/laws.FnExactMatrixTensor", spec := "fnExactMatrixTensor", unfollowed := true, recurses := true, apart := false, narrowed := true }
def FnExactMatrixTensorUptoSaid : Prop := fnExactMatrixTensorUptoRow.holds Try.pinned (OpenSpec.upto fnExactMatrixTensorSpec)

end Rows
end Go.Proofs.Ytcmpeoijedddjaa
