/-
  No cell of these rows narrows 'for every input' (looked for: loops, veiled, ifaces, maps, wideKeys, modest, calm, conditions, laid).
  DERIVED. THE GIVEN ROWS OF THIS SEAT. 3 by the template 'for every input the law returns true; each argument reads behind the call as it read before'; 0 by the template 'total and deterministic' (their statements: YtlipoaamhmbliaaTotals.lean).
  GIVEN WITH THE SEED: the statements are not yours to turn. If you find one false, say at which input.
  Laid BY PROGRAM, IN A SANDBOX (cutbox-rows.mjs): the forced cells as the released guide's own fill.sh prints them over the translation 12638d4a549b3bce… (all of the seat's roots in one cut). By AI agents, Wed Nov 11 2026. No macro, syntax, notation, axiom, sorry.
-/
import Derived.Test.YtlipoaamhmbliaaChecked
import GoSem.Claim
import GoSem.ClaimJoined
import GoSem.ClaimMapViews
import Derived.JoinedTies
import Derived.KernelRfl
namespace Go.Proofs.Ytlipoaamhmbliaa
/- THE CELL 'sum', in the pinned program and in every row, IS THE sha256 OF THE DUMP (.gsa) THAT YtlipoaamhmbliaaProg.lean LOADS. Nothing in Lean hashes anything: it is a label: what it is worth is what the hold of that sum in a sandbox is worth. -/
noncomputable def Try.pinned : Pinned := { name := "ytlipoaamhmbliaa", sum := "12638d4a549b3bceef5d0c2b7047b2056c00c4d2585fb88fbc6b60c1f7441c29", checked := Try.checked }
namespace Rows
def none {H : Type} : Left H := { results := [], args := [] }

/-- 'laws.FnExactPlainProgram': WHATEVER THE INPUT: true; the input reads as it did. -/
def fnExactPlainProgramSpec : ChangeSpec := { name := "fnExactPlainProgram", fn := fun _ => fun
  | [d1, d2, d3] => { results := [.lit (.bool true)], args := [d1, d2, d3] }
  | _ => none }
def fnExactPlainProgramRow : OpenClaim := { program := "ytlipoaamhmbliaa", sum := "12638d4a549b3bceef5d0c2b7047b2056c00c4d2585fb88fbc6b60c1f7441c29", func := "loop.example/g01262/laws.FnExactPlainProgram", spec := "fnExactPlainProgram", unfollowed := true, recurses := true, leaving := true, apart := false }
def FnExactPlainProgramSaid : Prop := fnExactPlainProgramRow.holds Try.pinned (OpenSpec.ofChange fnExactPlainProgramSpec)

/-- ITS FALSE NEIGHBOUR: 'it returns false'. Refute it at one input. -/
def fnExactPlainProgramWrong : ChangeSpec := { name := "fnExactPlainProgram", fn := fun _ => fun
  | [d1, d2, d3] => { results := [.lit (.bool false)], args := [d1, d2, d3] }
  | _ => none }
def FnExactPlainProgramWrongFalsely : Prop := fnExactPlainProgramRow.holds Try.pinned (OpenSpec.ofChange fnExactPlainProgramWrong)

/-- 'laws.FnExactSharedProgram': WHATEVER THE INPUT: true; the input reads as it did. -/
def fnExactSharedProgramSpec : ChangeSpec := { name := "fnExactSharedProgram", fn := fun _ => fun
  | [d1, d2, d3] => { results := [.lit (.bool true)], args := [d1, d2, d3] }
  | _ => none }
def fnExactSharedProgramRow : OpenClaim := { program := "ytlipoaamhmbliaa", sum := "12638d4a549b3bceef5d0c2b7047b2056c00c4d2585fb88fbc6b60c1f7441c29", func := "loop.example/g01262/laws.FnExactSharedProgram", spec := "fnExactSharedProgram", unfollowed := true, recurses := true, leaving := true, apart := false }
def FnExactSharedProgramSaid : Prop := fnExactSharedProgramRow.holds Try.pinned (OpenSpec.ofChange fnExactSharedProgramSpec)

/-- ITS FALSE NEIGHBOUR: 'it returns false'. Refute it at one input. -/
def fnExactSharedProgramWrong : ChangeSpec := { name := "fnExactSharedProgram", fn := fun _ => fun
  | [d1, d2, d3] => { results := [.lit (.bool false)], args := [d1, d2, d3] }
  | _ => none }
def FnExactSharedProgramWrongFalsely : Prop := fnExactSharedProgramRow.holds Try.pinned (OpenSpec.ofChange fnExactSharedProgramWrong)

/-- 'laws.FnExactWithoutNeedless': WHATEVER THE INPUT: true; the input reads as it did. -/
def fnExactWithoutNeedlessSpec : ChangeSpec := { name := "fnExactWithoutNeedless", fn := fun _ => fun
  | [d] => { results := [.lit (.bool true)], args := [d] }
  | _ => none }
def fnExactWithoutNeedlessRow : OpenClaim := { program := "ytlipoaamhmbliaa", sum := "12638d4a549b3bceef5d0c2b7047b2056c00c4d2585fb88fbc6b60c1f7441c29", func := "loop.example/g01262/laws.FnExactWithoutNeedless", spec := "fnExactWithoutNeedless", unfollowed := true, recurses := true, leaving := true, apart := false }
def FnExactWithoutNeedlessSaid : Prop := fnExactWithoutNeedlessRow.holds Try.pinned (OpenSpec.ofChange fnExactWithoutNeedlessSpec)

/-- ITS FALSE NEIGHBOUR: 'it returns false'. Refute it at one input. -/
def fnExactWithoutNeedlessWrong : ChangeSpec := { name := "fnExactWithoutNeedless", fn := fun _ => fun
  | [d] => { results := [.lit (.bool false)], args := [d] }
  | _ => none }
def FnExactWithoutNeedlessWrongFalsely : Prop := fnExactWithoutNeedlessRow.holds Try.pinned (OpenSpec.ofChange fnExactWithoutNeedlessWrong)

/- THE SECOND FORM. 'bulk': how many values and letters a reading holds, each counted each time it is reached (what is shared counts as often as it is met; a slice's spare places count too). A statement '..UptoSaid' is the law's where the arguments, and the package variables that the reading takes, are together of bulk at most 1048576: NARROWER than '..Said'. Prove '..Said' where nothing that the law and all that it calls make is longer than what came in: it says more and counts as full. Else prove '..UptoSaid'. A law counts once. -/
mutual
def uptoBulk {H : Type} : DataW H → Nat
  | .lit (.string bytes) => bytes.length + 1
  | .lit _ => 1
  | .nil => 1
  | .ptr d => uptoBulk d + 1
  | .slice elems spare => uptoBulkAll elems + uptoBulkAll spare + 1
  | .agg parts => uptoBulkAll parts + 1
  | .iface _ d => uptoBulk d + 1
  | .map entries => uptoBulkEntries entries + 1
  | .held _ => 1
def uptoBulkAll {H : Type} : List (DataW H) → Nat
  | [] => 0
  | d :: r => uptoBulk d + uptoBulkAll r
def uptoBulkEntries {H : Type} : List (Lit × DataW H) → Nat
  | [] => 0
  | x :: r => uptoBulkEntry x + uptoBulkEntries r
def uptoBulkEntry {H : Type} : Lit × DataW H → Nat
  | (.string bytes, d) => bytes.length + uptoBulk d + 1
  | (_, d) => uptoBulk d + 1
 end
def uptoSmall : (H : Type) → List (DataW H) → Bool := fun _ ds => decide (uptoBulkAll ds ≤ 1048576)
def OpenSpec.upto (s : _root_.Go.ChangeSpec) : _root_.Go.OpenSpec := { _root_.Go.OpenSpec.ofChange s with cond := some uptoSmall }

/-- 'laws.FnExactPlainProgram', WHERE WHAT IT READS IS OF BULK AT MOST 1048576: true; the input reads as it did. -/
def fnExactPlainProgramUptoRow : OpenClaim := { program := "ytlipoaamhmbliaa", sum := "12638d4a549b3bceef5d0c2b7047b2056c00c4d2585fb88fbc6b60c1f7441c29", func := "loop.example/g01262/laws.FnExactPlainProgram", spec := "fnExactPlainProgram", unfollowed := true, recurses := true, leaving := true, apart := false, narrowed := true }
def FnExactPlainProgramUptoSaid : Prop := fnExactPlainProgramUptoRow.holds Try.pinned (OpenSpec.upto fnExactPlainProgramSpec)

/-- 'laws.FnExactSharedProgram', WHERE WHAT IT READS IS OF BULK AT MOST 1048576: true; the input reads as it did. -/
def fnExactSharedProgramUptoRow : OpenClaim := { program := "ytlipoaamhmbliaa", sum := "12638d4a549b3bceef5d0c2b7047b2056c00c4d2585fb88fbc6b60c1f7441c29", func := "loop.example/g01262/laws.FnExactSharedProgram", spec := "fnExactSharedProgram", unfollowed := true, recurses := true, leaving := true, apart := false, narrowed := true }
def FnExactSharedProgramUptoSaid : Prop := fnExactSharedProgramUptoRow.holds Try.pinned (OpenSpec.upto fnExactSharedProgramSpec)

/-- 'laws.FnExactWithoutNeedless', WHERE WHAT IT READS IS OF BULK AT MOST 1048576: true; the input reads as it did. -/
def fnExactWithoutNeedlessUptoRow : OpenClaim := { program := "ytlipoaamhmbliaa", sum := "12638d4a549b3bceef5d0c2b7047b2056c00c4d2585fb88fbc6b60c1f7441c29", func := "loop.example/g01262/laws.FnExactWithoutNeedless", spec := "fnExactWithoutNeedless", unfollowed := true, recurses := true, leaving := true, apart := false, narrowed := true }
def FnExactWithoutNeedlessUptoSaid : Prop := fnExactWithoutNeedlessUptoRow.holds Try.pinned (OpenSpec.upto fnExactWithoutNeedlessSpec)

end Rows
end Go.Proofs.Ytlipoaamhmbliaa
