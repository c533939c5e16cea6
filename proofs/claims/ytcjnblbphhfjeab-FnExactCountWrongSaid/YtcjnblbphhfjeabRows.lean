/-
  No cell of these rows narrows 'for every input' (looked for: loops, veiled, ifaces, maps, wideKeys, modest, calm, conditions, laid).
  DERIVED. THE GIVEN ROWS OF THIS SEAT. 6 by the template 'for every input the law returns true; each argument reads behind the call as it read before'; 0 by the template 'total and deterministic' (their statements: YtcjnblbphhfjeabTotals.lean).
  GIVEN WITH THE SEED: the statements are not yours to turn. If you find one false, say at which input.
  Laid BY PROGRAM, IN A SANDBOX (cutbox-rows.mjs): the forced cells as the released guide's own fill.sh prints them over the translation e3e0418885c61f76… (all of the seat's roots in one cut). By AI agents, Wed Nov 11 2026. No macro, syntax, notation, axiom, sorry.
-/
import Derived.Test.YtcjnblbphhfjeabChecked
import GoSem.Claim
import GoSem.ClaimJoined
import GoSem.ClaimMapViews
import Derived.JoinedTies
import Derived.KernelRfl
namespace Go.Proofs.Ytcjnblbphhfjeab
/- THE CELL 'sum', in the pinned program and in every row, IS THE sha256 OF THE DUMP (.gsa) THAT YtcjnblbphhfjeabProg.lean LOADS. Nothing in Lean hashes anything: it is a label: what it is worth is what the hold of that sum in a sandbox is worth. -/
noncomputable def Try.pinned : Pinned := { name := "ytcjnblbphhfjeab", sum := "e3e0418885c61f76241529b18c64cbb98a8d60c1379f7bcfe2026b7f8aa0bbe4", checked := Try.checked }
namespace Rows
def none {H : Type} : Left H := { results := [], args := [] }

/-- 'laws.FnExactIsCorrect': WHATEVER THE INPUT: true; the input reads as it did. -/
def fnExactIsCorrectSpec : ChangeSpec := { name := "fnExactIsCorrect", fn := fun _ => fun
  | [d] => { results := [.lit (.bool true)], args := [d] }
  | _ => none }
def fnExactIsCorrectRow : OpenClaim := { program := "ytcjnblbphhfjeab", sum := "e3e0418885c61f76241529b18c64cbb98a8d60c1379f7bcfe2026b7f8aa0bbe4", func := "loop.example/g01262/laws.FnExactIsCorrect", spec := "fnExactIsCorrect", plainKeys := false, apart := false }
def FnExactIsCorrectSaid : Prop := fnExactIsCorrectRow.holds Try.pinned (OpenSpec.ofChange fnExactIsCorrectSpec)

/-- ITS FALSE NEIGHBOUR: 'it returns false'. Refute it at one input. -/
def fnExactIsCorrectWrong : ChangeSpec := { name := "fnExactIsCorrect", fn := fun _ => fun
  | [d] => { results := [.lit (.bool false)], args := [d] }
  | _ => none }
def FnExactIsCorrectWrongFalsely : Prop := fnExactIsCorrectRow.holds Try.pinned (OpenSpec.ofChange fnExactIsCorrectWrong)

/-- 'laws.FnExactFirstWrong': WHATEVER THE INPUT: true; the input reads as it did. -/
def fnExactFirstWrongSpec : ChangeSpec := { name := "fnExactFirstWrong", fn := fun _ => fun
  | [d] => { results := [.lit (.bool true)], args := [d] }
  | _ => none }
def fnExactFirstWrongRow : OpenClaim := { program := "ytcjnblbphhfjeab", sum := "e3e0418885c61f76241529b18c64cbb98a8d60c1379f7bcfe2026b7f8aa0bbe4", func := "loop.example/g01262/laws.FnExactFirstWrong", spec := "fnExactFirstWrong", plainKeys := false, apart := false }
def FnExactFirstWrongSaid : Prop := fnExactFirstWrongRow.holds Try.pinned (OpenSpec.ofChange fnExactFirstWrongSpec)

/-- ITS FALSE NEIGHBOUR: 'it returns false'. Refute it at one input. -/
def fnExactFirstWrongWrong : ChangeSpec := { name := "fnExactFirstWrong", fn := fun _ => fun
  | [d] => { results := [.lit (.bool false)], args := [d] }
  | _ => none }
def FnExactFirstWrongWrongFalsely : Prop := fnExactFirstWrongRow.holds Try.pinned (OpenSpec.ofChange fnExactFirstWrongWrong)

/-- 'laws.FnExactCountWrong': WHATEVER THE INPUT: true; the input reads as it did. -/
def fnExactCountWrongSpec : ChangeSpec := { name := "fnExactCountWrong", fn := fun _ => fun
  | [d] => { results := [.lit (.bool true)], args := [d] }
  | _ => none }
def fnExactCountWrongRow : OpenClaim := { program := "ytcjnblbphhfjeab", sum := "e3e0418885c61f76241529b18c64cbb98a8d60c1379f7bcfe2026b7f8aa0bbe4", func := "loop.example/g01262/laws.FnExactCountWrong", spec := "fnExactCountWrong", plainKeys := false, apart := false }
def FnExactCountWrongSaid : Prop := fnExactCountWrongRow.holds Try.pinned (OpenSpec.ofChange fnExactCountWrongSpec)

/-- ITS FALSE NEIGHBOUR: 'it returns false'. Refute it at one input. -/
def fnExactCountWrongWrong : ChangeSpec := { name := "fnExactCountWrong", fn := fun _ => fun
  | [d] => { results := [.lit (.bool false)], args := [d] }
  | _ => none }
def FnExactCountWrongWrongFalsely : Prop := fnExactCountWrongRow.holds Try.pinned (OpenSpec.ofChange fnExactCountWrongWrong)

/-- 'laws.FnExactMakeProduct': WHATEVER THE INPUT: true; the input reads as it did. -/
def fnExactMakeProductSpec : ChangeSpec := { name := "fnExactMakeProduct", fn := fun _ => fun
  | [d1, d2, d3] => { results := [.lit (.bool true)], args := [d1, d2, d3] }
  | _ => none }
def fnExactMakeProductRow : OpenClaim := { program := "ytcjnblbphhfjeab", sum := "e3e0418885c61f76241529b18c64cbb98a8d60c1379f7bcfe2026b7f8aa0bbe4", func := "loop.example/g01262/laws.FnExactMakeProduct", spec := "fnExactMakeProduct", plainKeys := false, apart := false }
def FnExactMakeProductSaid : Prop := fnExactMakeProductRow.holds Try.pinned (OpenSpec.ofChange fnExactMakeProductSpec)

/-- ITS FALSE NEIGHBOUR: 'it returns false'. Refute it at one input. -/
def fnExactMakeProductWrong : ChangeSpec := { name := "fnExactMakeProduct", fn := fun _ => fun
  | [d1, d2, d3] => { results := [.lit (.bool false)], args := [d1, d2, d3] }
  | _ => none }
def FnExactMakeProductWrongFalsely : Prop := fnExactMakeProductRow.holds Try.pinned (OpenSpec.ofChange fnExactMakeProductWrong)

/-- 'laws.FnExactPlainProduct': WHATEVER THE INPUT: true; the input reads as it did. -/
def fnExactPlainProductSpec : ChangeSpec := { name := "fnExactPlainProduct", fn := fun _ => fun
  | [d1, d2, d3] => { results := [.lit (.bool true)], args := [d1, d2, d3] }
  | _ => none }
def fnExactPlainProductRow : OpenClaim := { program := "ytcjnblbphhfjeab", sum := "e3e0418885c61f76241529b18c64cbb98a8d60c1379f7bcfe2026b7f8aa0bbe4", func := "loop.example/g01262/laws.FnExactPlainProduct", spec := "fnExactPlainProduct", plainKeys := false, apart := false }
def FnExactPlainProductSaid : Prop := fnExactPlainProductRow.holds Try.pinned (OpenSpec.ofChange fnExactPlainProductSpec)

/-- ITS FALSE NEIGHBOUR: 'it returns false'. Refute it at one input. -/
def fnExactPlainProductWrong : ChangeSpec := { name := "fnExactPlainProduct", fn := fun _ => fun
  | [d1, d2, d3] => { results := [.lit (.bool false)], args := [d1, d2, d3] }
  | _ => none }
def FnExactPlainProductWrongFalsely : Prop := fnExactPlainProductRow.holds Try.pinned (OpenSpec.ofChange fnExactPlainProductWrong)

/-- 'laws.FnExactRanksOf': WHATEVER THE INPUT: true; the input reads as it did. -/
def fnExactRanksOfSpec : ChangeSpec := { name := "fnExactRanksOf", fn := fun _ => fun
  | [d] => { results := [.lit (.bool true)], args := [d] }
  | _ => none }
def fnExactRanksOfRow : OpenClaim := { program := "ytcjnblbphhfjeab", sum := "e3e0418885c61f76241529b18c64cbb98a8d60c1379f7bcfe2026b7f8aa0bbe4", func := "loop.example/g01262/laws.FnExactRanksOf", spec := "fnExactRanksOf", unfollowed := true, recurses := true, plainKeys := false, apart := false }
def FnExactRanksOfSaid : Prop := fnExactRanksOfRow.holds Try.pinned (OpenSpec.ofChange fnExactRanksOfSpec)

/-- ITS FALSE NEIGHBOUR: 'it returns false'. Refute it at one input. -/
def fnExactRanksOfWrong : ChangeSpec := { name := "fnExactRanksOf", fn := fun _ => fun
  | [d] => { results := [.lit (.bool false)], args := [d] }
  | _ => none }
def FnExactRanksOfWrongFalsely : Prop := fnExactRanksOfRow.holds Try.pinned (OpenSpec.ofChange fnExactRanksOfWrong)

/- THE SECOND FORM. 'bulk': how many values and letters a reading holds, each counted each time it is reached (what is shared counts as often as it is met; a slice's spare places count too). A statement '..UptoSaid' is the law's where the arguments, and the package variables that the reading takes, are together of bulk at most 1048576: NARROWER than '..Said'. Prove '..Said' where nothing that the law and all that it calls make is longer than what came in: it says more and counts as full. Else prove '..UptoSaid'. A law counts once. -/
mutual
def uptoBulk {H : Type} : DataW H → Nat
  | .lit (.string bytes) => bytes.length + 1
  | .lit _ => 1
  | .nil => 1
  | .ptr d => uptoBulk d + 1
  | .slice elems spare => uptoBulkAll elems + uptoBulkAll spare + 1
  | .agg parts => uptoBulkAll parts + 1
  | .iface _ d => uptoBulk d + 1
  | .map entries => uptoBulkEntries entries + 1
  | .held _ => 1
def uptoBulkAll {H : Type} : List (DataW H) → Nat
  | [] => 0
  | d :: r => uptoBulk d + uptoBulkAll r
def uptoBulkEntries {H : Type} : List (Lit × DataW H) → Nat
  | [] => 0
  | x :: r => uptoBulkEntry x + uptoBulkEntries r
def uptoBulkEntry {H : Type} : Lit × DataW H → Nat
  | (.string bytes, d) => bytes.length + uptoBulk d + 1
  | (_, d) => uptoBulk d + 1
 end
def uptoSmall : (H : Type) → List (DataW H) → Bool := fun _ ds => decide (uptoBulkAll ds ≤ 1048576)
def OpenSpec.upto (s : _root_.Go.ChangeSpec) : _root_.Go.OpenSpec := { _root_.Go.OpenSpec.ofChange s with cond := some uptoSmall }

/-- 'laws.FnExactIsCorrect', WHERE WHAT IT READS IS OF BULK AT MOST 1048576: true; the input reads as it did. -/
def fnExactIsCorrectUptoRow : OpenClaim := { program := "ytcjnblbphhfjeab", sum := "e3e0418885c61f76241529b18c64cbb98a8d60c1379f7bcfe2026b7f8aa0bbe4", func := "loop.example/g01262/laws.FnExactIsCorrect", spec := "fnExactIsCorrect", plainKeys := false, apart := false, narrowed := true }
def FnExactIsCorrectUptoSaid : Prop := fnExactIsCorrectUptoRow.holds Try.pinned (OpenSpec.upto fnExactIsCorrectSpec)

/-- 'laws.FnExactFirstWrong', WHERE WHAT IT READS IS OF BULK AT MOST 1048576: true; the input reads as it did. -/
def fnExactFirstWrongUptoRow : OpenClaim := { program := "ytcjnblbphhfjeab", sum := "e3e0418885c61f76241529b18c64cbb98a8d60c1379f7bcfe2026b7f8aa0bbe4", func := "loop.example/g01262/laws.FnExactFirstWrong", spec := "fnExactFirstWrong", plainKeys := false, apart := false, narrowed := true }
def FnExactFirstWrongUptoSaid : Prop := fnExactFirstWrongUptoRow.holds Try.pinned (OpenSpec.upto fnExactFirstWrongSpec)

/-- 'laws.FnExactCountWrong', WHERE WHAT IT READS IS OF BULK AT MOST 1048576: true; the input reads as it did. -/
def fnExactCountWrongUptoRow : OpenClaim := { program := "ytcjnblbphhfjeab", sum := "e3e0418885c61f76241529b18c64cbb98a8d60c1379f7bcfe2026b7f8aa0bbe4", func := "loop.example/g01262/laws.FnExactCountWrong", spec := "fnExactCountWrong", plainKeys := false, apart := false, narrowed := true }
def FnExactCountWrongUptoSaid : Prop := fnExactCountWrongUptoRow.holds Try.pinned (OpenSpec.upto fnExactCountWrongSpec)

/-- 'laws.FnExactMakeProduct', WHERE WHAT IT READS IS OF BULK AT MOST 1048576: true; the input reads as it did. -/
def fnExactMakeProductUptoRow : OpenClaim := { program := "ytcjnblbphhfjeab", sum := "e3e0418885c61f76241529b18c64cbb98a8d60c1379f7bcfe2026b7f8aa0bbe4", func := "loop.example/g01262/laws.FnExactMakeProduct", spec := "fnExactMakeProduct", plainKeys := false, apart := false, narrowed := true }
def FnExactMakeProductUptoSaid : Prop := fnExactMakeProductUptoRow.holds Try.pinned (OpenSpec.upto fnExactMakeProductSpec)

/-- 'laws.FnExactPlainProduct', WHERE WHAT IT READS IS OF BULK AT MOST 1048576: true; the input reads as it did. -/
def fnExactPlainProductUptoRow : OpenClaim := { program := "ytcjnblbphhfjeab", sum := "e3e0418885c61f76241529b18c64cbb98a8d60c1379f7bcfe2026b7f8aa0bbe4", func := "loop.example/g01262/laws.FnExactPlainProduct", spec := "fnExactPlainProduct", plainKeys := false, apart := false, narrowed := true }
def FnExactPlainProductUptoSaid : Prop := fnExactPlainProductUptoRow.holds Try.pinned (OpenSpec.upto fnExactPlainProductSpec)

/-- 'laws.FnExactRanksOf', WHERE WHAT IT READS IS OF BULK AT MOST 1048576: true; the input reads as it did. -/
def fnExactRanksOfUptoRow : OpenClaim := { program := "ytcjnblbphhfjeab", sum := "e3e0418885c61f76241529b18c64cbb98a8d60c1379f7bcfe2026b7f8aa0bbe4", func := "loop.example/g01262/laws.FnExactRanksOf", spec := "fnExactRanksOf", unfollowed := true, recurses := true, plainKeys := false, apart := false, narrowed := true }
def FnExactRanksOfUptoSaid : Prop := fnExactRanksOfUptoRow.holds Try.pinned (OpenSpec.upto fnExactRanksOfSpec)

end Rows
end Go.Proofs.Ytcjnblbphhfjeab
