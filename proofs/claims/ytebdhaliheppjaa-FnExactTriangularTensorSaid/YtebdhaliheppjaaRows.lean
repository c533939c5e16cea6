/-
  No cell of these rows narrows 'for every input' (looked for: loops, veiled, ifaces, maps, wideKeys, modest, calm, conditions, laid).
  DERIVED. THE GIVEN ROWS OF THIS SEAT. 4 by the template 'for every input the law returns true; each argument reads behind the call as it read before'; 0 by the template 'total and deterministic' (their statements: YtebdhaliheppjaaTotals.lean).
  GIVEN WITH THE SEED: the statements are not yours to turn. If you find one false, say at which input.
  Laid BY PROGRAM, IN A SANDBOX (cutbox-rows.mjs): the forced cells as the released guide's own fill.sh prints them over the translation a59345dba3af0e7d… (all of the seat's roots in one cut). By AI agents, Wed Nov 11 2026. No macro, syntax, notation, axiom, sorry.
-/
import Derived.Test.YtebdhaliheppjaaChecked
import GoSem.Claim
import GoSem.ClaimJoined
import GoSem.ClaimMapViews
import Derived.JoinedTies
import Derived.KernelRfl
namespace Go.Proofs.Ytebdhaliheppjaa
/- THE CELL 'sum', in the pinned program and in every row, IS THE sha256 OF THE DUMP (.gsa) THAT YtebdhaliheppjaaProg.lean LOADS. Nothing in Lean hashes anything: it is a label: what it is worth is what the hold of that sum in a sandbox is worth. -/
noncomputable def Try.pinned : Pinned := { name := "ytebdhaliheppjaa", sum := "a59345dba3af0e7d874f94db3be5ca9f10838faf8538690069fd11eca33b557c", checked := Try.checked }
namespace Rows
def none {H : Type} : Left H := { results := [], args := [] }

/-- 'laws.FnExactMethodFits': WHATEVER THE INPUT: true; the input reads as it did. -/
def fnExactMethodFitsSpec : ChangeSpec := { name := "fnExactMethodFits", fn := fun _ => fun
  | [d1, d2] => { results := [.lit (.bool true)], args := [d1, d2] }
  | _ => none }
def fnExactMethodFitsRow : OpenClaim := { program := "ytebdhaliheppjaa", sum := "a59345dba3af0e7d874f94db3be5ca9f10838faf8538690069fd11eca33b557c", func := "loop.example/g01262/laws.FnExactMethodFits", spec := "fnExactMethodFits", unfollowed := true, recurses := true, apart := false }
def FnExactMethodFitsSaid : Prop := fnExactMethodFitsRow.holds Try.pinned (OpenSpec.ofChange fnExactMethodFitsSpec)

/-- ITS FALSE NEIGHBOUR: 'it returns false'. Refute it at one input. -/
def fnExactMethodFitsWrong : ChangeSpec := { name := "fnExactMethodFits", fn := fun _ => fun
  | [d1, d2] => { results := [.lit (.bool false)], args := [d1, d2] }
  | _ => none }
def FnExactMethodFitsWrongFalsely : Prop := fnExactMethodFitsRow.holds Try.pinned (OpenSpec.ofChange fnExactMethodFitsWrong)

/-- 'laws.FnExactMakeList': WHATEVER THE INPUT: true; the input reads as it did. -/
def fnExactMakeListSpec : ChangeSpec := { name := "fnExactMakeList", fn := fun _ => fun
  | [d1, d2, d3] => { results := [.lit (.bool true)], args := [d1, d2, d3] }
  | _ => none }
def fnExactMakeListRow : OpenClaim := { program := "ytebdhaliheppjaa", sum := "a59345dba3af0e7d874f94db3be5ca9f10838faf8538690069fd11eca33b557c", func := "loop.example/g01262/laws.FnExactMakeList", spec := "fnExactMakeList", unfollowed := true, recurses := true, apart := false }
def FnExactMakeListSaid : Prop := fnExactMakeListRow.holds Try.pinned (OpenSpec.ofChange fnExactMakeListSpec)

/-- ITS FALSE NEIGHBOUR: 'it returns false'. Refute it at one input. -/
def fnExactMakeListWrong : ChangeSpec := { name := "fnExactMakeList", fn := fun _ => fun
  | [d1, d2, d3] => { results := [.lit (.bool false)], args := [d1, d2, d3] }
  | _ => none }
def FnExactMakeListWrongFalsely : Prop := fnExactMakeListRow.holds Try.pinned (OpenSpec.ofChange fnExactMakeListWrong)

/-- 'laws.FnExactValueOfTensor': WHATEVER THE INPUT: true; the input reads as it did. -/
def fnExactValueOfTensorSpec : ChangeSpec := { name := "fnExactValueOfTensor", fn := fun _ => fun
  | [d1, d2, d3] => { results := [.lit (.bool true)], args := [d1, d2, d3] }
  | _ => none }
def fnExactValueOfTensorRow : OpenClaim := { program := "ytebdhaliheppjaa", sum := "a59345dba3af0e7d874f94db3be5ca9f10838faf8538690069fd11eca33b557c", func := "loop.example/g01262/laws.FnExactValueOfTensor", spec := "fnExactValueOfTensor", unfollowed := true, recurses := true, apart := false }
def FnExactValueOfTensorSaid : Prop := fnExactValueOfTensorRow.holds Try.pinned (OpenSpec.ofChange fnExactValueOfTensorSpec)

/-- ITS FALSE NEIGHBOUR: 'it returns false'. Refute it at one input. -/
def fnExactValueOfTensorWrong : ChangeSpec := { name := "fnExactValueOfTensor", fn := fun _ => fun
  | [d1, d2, d3] => { results := [.lit (.bool false)], args := [d1, d2, d3] }
  | _ => none }
def FnExactValueOfTensorWrongFalsely : Prop := fnExactValueOfTensorRow.holds Try.pinned (OpenSpec.ofChange fnExactValueOfTensorWrong)

/-- 'laws.FnExactTriangularTensor': WHATEVER THE INPUT: true; the input reads as it did. -/
def fnExactTriangularTensorSpec : ChangeSpec := { name := "fnExactTriangularTensor", fn := fun _ => fun
  | [d1, d2] => { results := [.lit (.bool true)], args := [d1, d2] }
  | _ => none }
def fnExactTriangularTensorRow : OpenClaim := { program := "ytebdhaliheppjaa", sum := "a59345dba3af0e7d874f94db3be5ca9f10838faf8538690069fd11eca33b557c", func := "loop.example/g01262/laws.FnExactTriangularTensor", spec := "fnExactTriangularTensor", unfollowed := true, recurses := true, apart := false }
def FnExactTriangularTensorSaid : Prop := fnExactTriangularTensorRow.holds Try.pinned (OpenSpec.ofChange fnExactTriangularTensorSpec)

/-- ITS FALSE NEIGHBOUR: 'it returns false'. Refute it at one input. -/
def fnExactTriangularTensorWrong : ChangeSpec := { name := "fnExactTriangularTensor", fn := fun _ => fun
  | [d1, d2] => { results := [.lit (.bool false)], args := [d1, d2] }
  | _ => none }
def FnExactTriangularTensorWrongFalsely : Prop := fnExactTriangularTensorRow.holds Try.pinned (OpenSpec.ofChange fnExactTriangularTensorWrong)

/- THE SECOND FORM. 'bulk': how many values and letters a reading holds, each counted each time it is reached (what is shared counts as often as it is met; a slice's spare places count too). A statement '..UptoSaid' is the law's where the arguments, and the package variables that the reading takes, are together of bulk at most 1048576: NARROWER than '..Said'. Prove '..Said' where nothing that the law and all that it calls make is longer than what came in: it says more and counts as full. Else prove '..UptoSaid'. A law counts once. -/
mutual
def uptoBulk {H : Type} : DataW H → Nat
  | .lit (.string bytes) => bytes.length + 1
  | .lit _ => 1
  | .nil => 1
  | .ptr d => uptoBulk d + 1
  | .slice elems spare => uptoBulkAll elems + uptoBulkAll spare + 1
  | .agg parts => uptoBulkAll parts + 1
  | .iface _ d => uptoBulk d + 1
  | .map entries => uptoBulkEntries entries + 1
  | .held _ => 1
def uptoBulkAll {H : Type} : List (DataW H) → Nat
  | [] => 0
  | d :: r => uptoBulk d + uptoBulkAll r
def uptoBulkEntries {H : Type} : List (Lit × DataW H) → Nat
  | [] => 0
  | x :: r => uptoBulkEntry x + uptoBulkEntries r
def uptoBulkEntry {H : Type} : Lit × DataW H → Nat
  | (.string bytes, d) => bytes.length + uptoBulk d + 1
  | (_, d) => uptoBulk d + 1
 end
def uptoSmall : (H : Type) → List (DataW H) → Bool := fun _ ds => decide (uptoBulkAll ds ≤ 1048576)
def OpenSpec.upto (s : _root_.Go.ChangeSpec) : _root_.Go.OpenSpec := { _root_.Go.OpenSpec.ofChange s with cond := some uptoSmall }

/-- 'laws.FnExactMethodFits', WHERE WHAT IT READS IS OF BULK AT MOST 1048576: true; the input reads as it did. -/
def fnExactMethodFitsUptoRow : OpenClaim := { program := "ytebdhaliheppjaa", sum := "a59345dba3af0e7d874f94db3be5ca9f10838faf8538690069fd11eca33b557c", func := "loop.example/g01262/laws.FnExactMethodFits", spec := "fnExactMethodFits", unfollowed := true, recurses := true, apart := false, narrowed := true }
def FnExactMethodFitsUptoSaid : Prop := fnExactMethodFitsUptoRow.holds Try.pinned (OpenSpec.upto fnExactMethodFitsSpec)

/-- 'laws.FnExactMakeList', WHERE WHAT IT READS IS OF BULK AT MOST 1048576: true; the input reads as it did. -/
def fnExactMakeListUptoRow : OpenClaim := { program := "ytebdhaliheppjaa", sum := "a59345dba3af0e7d874f94db3be5ca9f10838faf8538690069fd11eca33b557c", func := "loop.example/g01262/laws.FnExactMakeList", spec := "fnExactMakeList", unfollowed := true, recurses := true, apart := false, narrowed := true }
def FnExactMakeListUptoSaid : Prop := fnExactMakeListUptoRow.holds Try.pinned (OpenSpec.upto fnExactMakeListSpec)

/-- 'laws.FnExactValueOfTensor', WHERE WHAT IT READS IS OF BULK AT MOST 1048576: true; the input reads as it did. -/
def fnExactValueOfTensorUptoRow : OpenClaim := { program := "ytebdhaliheppjaa", sum := "a59345dba3af0e7d874f94db3be5ca9f10838faf8538690069fd11eca33b557c", func := "loop.example/g01262/laws.FnExactValueOfTensor", spec := "fnExactValueOfTensor", unfollowed := true, recurses := true, apart := false, narrowed := true }
def FnExactValueOfTensorUptoSaid : Prop := fnExactValueOfTensorUptoRow.holds Try.pinned (OpenSpec.upto fnExactValueOfTensorSpec)

/-- 'laws.FnExactTriangularTensor', WHERE WHAT IT READS IS OF BULK AT MOST 1048576: true; the input reads as it did. -/
def fnExactTriangularTensorUptoRow : OpenClaim := { program := "ytebdhaliheppjaa", sum := "a59345dba3af0e7d874f94db3be5ca9f10838faf8538690069fd11eca33b557c", func := "loop.example/g01262/laws.FnExactTriangularTensor", spec := "fnExactTriangularTensor", unfollowed := true, recurses := true, apart := false, narrowed := true }
def FnExactTriangularTensorUptoSaid : Prop := fnExactTriangularTensorUptoRow.holds Try.pinned (OpenSpec.upto fnExactTriangularTensorSpec)

end Rows
end Go.Proofs.Ytebdhaliheppjaa
