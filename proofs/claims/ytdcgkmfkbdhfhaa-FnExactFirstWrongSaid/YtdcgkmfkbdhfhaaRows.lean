/-
  No cell of these rows narrows 'for every input' (looked for: loops, veiled, ifaces, maps, wideKeys, modest, calm, conditions, laid).
  DERIVED. THE GIVEN ROWS OF THIS SEAT. 5 by the template 'for every input the law returns true; each argument reads behind the call as it read before'; 0 by the template 'total and deterministic' (their statements: YtdcgkmfkbdhfhaaTotals.lean).
  GIVEN WITH THE SEED: the statements are not yours to turn. If you find one false, say at which input.
  Laid BY PROGRAM, IN A SANDBOX (cutbox-rows.mjs): the forced cells as the released guide's own fill.sh prints them over the translation 0c482737188a01d9… (all of the seat's roots in one cut). By AI agents, Wed Nov 11 2026. No macro, syntax, notation, axiom, sorry.
-/
import Derived.Test.YtdcgkmfkbdhfhaaChecked
import GoSem.Claim
import GoSem.ClaimJoined
import GoSem.ClaimMapViews
import Derived.JoinedTies
import Derived.KernelRfl
namespace Go.Proofs.Ytdcgkmfkbdhfhaa
/- THE CELL 'sum', in the pinned program and in every row, IS THE sha256 OF THE DUMP (.gsa) THAT YtdcgkmfkbdhfhaaProg.lean LOADS. Nothing in Lean hashes anything: it is a label: what it is worth is what the hold of that sum in a sandbox is worth. -/
noncomputable def Try.pinned : Pinned := { name := "ytdcgkmfkbdhfhaa", sum := "0c482737188a01d95773c866afbf1d9f8944b2adfc1741bd76f43ab98178dc26", checked := Try.checked }
namespace Rows
def none {H : Type} : Left H := { results := [], args := [] }

/-- 'laws.FnExactLeftSide': WHATEVER THE INPUT: true; the input reads as it did. -/
def fnExactLeftSideSpec : ChangeSpec := { name := "fnExactLeftSide", fn := fun _ => fun
  | [d1, d2, d3, d4] => { results := [.lit (.bool true)], args := [d1, d2, d3, d4] }
  | _ => none }
def fnExactLeftSideRow : OpenClaim := { program := "ytdcgkmfkbdhfhaa", sum := "0c482737188a01d95773c866afbf1d9f8944b2adfc1741bd76f43ab98178dc26", func := "loop.example/g01262/laws.FnExactLeftSide", spec := "fnExactLeftSide", unfollowed := true, recurses := true, apart := false }
def FnExactLeftSideSaid : Prop := fnExactLeftSideRow.holds Try.pinned (OpenSpec.ofChange fnExactLeftSideSpec)

/-- ITS FALSE NEIGHBOUR: 'it returns false'. Refute it at one input. -/
def fnExactLeftSideWrong : ChangeSpec := { name := "fnExactLeftSide", fn := fun _ => fun
  | [d1, d2, d3, d4] => { results := [.lit (.bool false)], args := [d1, d2, d3, d4] }
  | _ => none }
def FnExactLeftSideWrongFalsely : Prop := fnExactLeftSideRow.holds Try.pinned (OpenSpec.ofChange fnExactLeftSideWrong)

/-- 'laws.FnExactRightSide': WHATEVER THE INPUT: true; the input reads as it did. -/
def fnExactRightSideSpec : ChangeSpec := { name := "fnExactRightSide", fn := fun _ => fun
  | [d1, d2, d3, d4] => { results := [.lit (.bool true)], args := [d1, d2, d3, d4] }
  | _ => none }
def fnExactRightSideRow : OpenClaim := { program := "ytdcgkmfkbdhfhaa", sum := "0c482737188a01d95773c866afbf1d9f8944b2adfc1741bd76f43ab98178dc26", func := "loop.example/g01262/laws.FnExactRightSide", spec := "fnExactRightSide", unfollowed := true, recurses := true, apart := false }
def FnExactRightSideSaid : Prop := fnExactRightSideRow.holds Try.pinned (OpenSpec.ofChange fnExactRightSideSpec)

/-- ITS FALSE NEIGHBOUR: 'it returns false'. Refute it at one input. -/
def fnExactRightSideWrong : ChangeSpec := { name := "fnExactRightSide", fn := fun _ => fun
  | [d1, d2, d3, d4] => { results := [.lit (.bool false)], args := [d1, d2, d3, d4] }
  | _ => none }
def FnExactRightSideWrongFalsely : Prop := fnExactRightSideRow.holds Try.pinned (OpenSpec.ofChange fnExactRightSideWrong)

/-- 'laws.FnExactCountWrong': WHATEVER THE INPUT: true; the input reads as it did. -/
def fnExactCountWrongSpec : ChangeSpec := { name := "fnExactCountWrong", fn := fun _ => fun
  | [d] => { results := [.lit (.bool true)], args := [d] }
  | _ => none }
def fnExactCountWrongRow : OpenClaim := { program := "ytdcgkmfkbdhfhaa", sum := "0c482737188a01d95773c866afbf1d9f8944b2adfc1741bd76f43ab98178dc26", func := "loop.example/g01262/laws.FnExactCountWrong", spec := "fnExactCountWrong", unfollowed := true, recurses := true, apart := false }
def FnExactCountWrongSaid : Prop := fnExactCountWrongRow.holds Try.pinned (OpenSpec.ofChange fnExactCountWrongSpec)

/-- ITS FALSE NEIGHBOUR: 'it returns false'. Refute it at one input. -/
def fnExactCountWrongWrong : ChangeSpec := { name := "fnExactCountWrong", fn := fun _ => fun
  | [d] => { results := [.lit (.bool false)], args := [d] }
  | _ => none }
def FnExactCountWrongWrongFalsely : Prop := fnExactCountWrongRow.holds Try.pinned (OpenSpec.ofChange fnExactCountWrongWrong)

/-- 'laws.FnExactIsCorrect': WHATEVER THE INPUT: true; the input reads as it did. -/
def fnExactIsCorrectSpec : ChangeSpec := { name := "fnExactIsCorrect", fn := fun _ => fun
  | [d] => { results := [.lit (.bool true)], args := [d] }
  | _ => none }
def fnExactIsCorrectRow : OpenClaim := { program := "ytdcgkmfkbdhfhaa", sum := "0c482737188a01d95773c866afbf1d9f8944b2adfc1741bd76f43ab98178dc26", func := "loop.example/g01262/laws.FnExactIsCorrect", spec := "fnExactIsCorrect", unfollowed := true, recurses := true, apart := false }
def FnExactIsCorrectSaid : Prop := fnExactIsCorrectRow.holds Try.pinned (OpenSpec.ofChange fnExactIsCorrectSpec)

/-- ITS FALSE NEIGHBOUR: 'it returns false'. Refute it at one input. -/
def fnExactIsCorrectWrong : ChangeSpec := { name := "fnExactIsCorrect", fn := fun _ => fun
  | [d] => { results := [.lit (.bool false)], args := [d] }
  | _ => none }
def FnExactIsCorrectWrongFalsely : Prop := fnExactIsCorrectRow.holds Try.pinned (OpenSpec.ofChange fnExactIsCorrectWrong)

/-- 'laws.FnExactFirstWrong': WHATEVER THE INPUT: true; the input reads as it did. -/
def fnExactFirstWrongSpec : ChangeSpec := { name := "fnExactFirstWrong", fn := fun _ => fun
  | [d] => { results := [.lit (.bool true)], args := [d] }
  | _ => none }
def fnExactFirstWrongRow : OpenClaim := { program := "ytdcgkmfkbdhfhaa", sum := "0c482737188a01d95773c866afbf1d9f8944b2adfc1741bd76f43ab98178dc26", func := "loop.example/g01262/laws.FnExactFirstWrong", spec := "fnExactFirstWrong", unfollowed := true, recurses := true, apart := false }
def FnExactFirstWrongSaid : Prop := fnExactFirstWrongRow.holds Try.pinned (OpenSpec.ofChange fnExactFirstWrongSpec)

/-- ITS FALSE NEIGHBOUR: 'it returns false'. Refute it at one input. -/
def fnExactFirstWrongWrong : ChangeSpec := { name := "fnExactFirstWrong", fn := fun _ => fun
  | [d] => { results := [.lit (.bool false)], args := [d] }
  | _ => none }
def FnExactFirstWrongWrongFalsely : Prop := fnExactFirstWrongRow.holds Try.pinned (OpenSpec.ofChange fnExactFirstWrongWrong)

/- THE SECOND FORM. 'bulk': how many values and letters a reading holds, each counted each time it is reached (what is shared counts as often as it is met; a slice's spare places count too). A statement '..UptoSaid' is the law's where the arguments, and the package variables that the reading takes, are together of bulk at most 1048576: NARROWER than '..Said'. Prove '..Said' where nothing that the law and all that it calls make is longer than what came in: it says more and counts as full. Else prove '..UptoSaid'. A law counts once. -/
mutual
def uptoBulk {H : Type} : DataW H → Nat
  | .lit (.string bytes) => bytes.length + 1
  | .lit _ => 1
  | .nil => 1
  | .ptr d => uptoBulk d + 1
  | .slice elems spare => uptoBulkAll elems + uptoBulkAll spare + 1
  | .agg parts => uptoBulkAll parts + 1
  | .iface _ d => uptoBulk d + 1
  | .map entries => uptoBulkEntries entries + 1
  | .held _ => 1
def uptoBulkAll {H : Type} : List (DataW H) → Nat
  | [] => 0
  | d :: r => uptoBulk d + uptoBulkAll r
def uptoBulkEntries {H : Type} : List (Lit × DataW H) → Nat
  | [] => 0
  | x :: r => uptoBulkEntry x + uptoBulkEntries r
def uptoBulkEntry {H : Type} : Lit × DataW H → Nat
  | (.string bytes, d) => bytes.length + uptoBulk d + 1
  | (_, d) => uptoBulk d + 1
 end
def uptoSmall : (H : Type) → List (DataW H) → Bool := fun _ ds => decide (uptoBulkAll ds ≤ 1048576)
def OpenSpec.upto (s : _root_.Go.ChangeSpec) : _root_.Go.OpenSpec := { _root_.Go.OpenSpec.ofChange s with cond := some uptoSmall }

/-- 'laws.FnExactLeftSide', WHERE WHAT IT READS IS OF BULK AT MOST 1048576: true; the input reads as it did. -/
def fnExactLeftSideUptoRow : OpenClaim := { program := "ytdcgkmfkbdhfhaa", sum := "0c482737188a01d95773c866afbf1d9f8944b2adfc1741bd76f43ab98178dc26", func := "loop.example/g01262/laws.FnExactLeftSide", spec := "fnExactLeftSide", unfollowed := true, recurses := true, apart := false, narrowed := true }
def FnExactLeftSideUptoSaid : Prop := fnExactLeftSideUptoRow.holds Try.pinned (OpenSpec.upto fnExactLeftSideSpec)

/-- 'laws.FnExactRightSide', WHERE WHAT IT READS IS OF BULK AT MOST 1048576: true; the input reads as it did. -/
def fnExactRightSideUptoRow : OpenClaim := { program := "ytdcgkmfkbdhfhaa", sum := "0c482737188a01d95773c866afbf1d9f8944b2adfc1741bd76f43ab98178dc26", func := "loop.example/g01262/laws.FnExactRightSide", spec := "fnExactRightSide", unfollowed := true, recurses := true, apart := false, narrowed := true }
def FnExactRightSideUptoSaid : Prop := fnExactRightSideUptoRow.holds Try.pinned (OpenSpec.upto fnExactRightSideSpec)

/-- 'laws.FnExactCountWrong', WHERE WHAT IT READS IS OF BULK AT MOST 1048576: true; the input reads as it did. -/
def fnExactCountWrongUptoRow : OpenClaim := { program := "ytdcgkmfkbdhfhaa", sum := "0c482737188a01d95773c866afbf1d9f8944b2adfc1741bd76f43ab98178dc26", func := "loop.example/g01262/laws.FnExactCountWrong", spec := "fnExactCountWrong", unfollowed := true, recurses := true, apart := false, narrowed := true }
def FnExactCountWrongUptoSaid : Prop := fnExactCountWrongUptoRow.holds Try.pinned (OpenSpec.upto fnExactCountWrongSpec)

/-- 'laws.FnExactIsCorrect', WHERE WHAT IT READS IS OF BULK AT MOST 1048576: true; the input reads as it did. -/
def fnExactIsCorrectUptoRow : OpenClaim := { program := "ytdcgkmfkbdhfhaa", sum := "0c482737188a01d95773c866afbf1d9f8944b2adfc1741bd76f43ab98178dc26", func := "loop.example/g01262/laws.FnExactIsCorrect", spec := "fnExactIsCorrect", unfollowed := true, recurses := true, apart := false, narrowed := true }
def FnExactIsCorrectUptoSaid : Prop := fnExactIsCorrectUptoRow.holds Try.pinned (OpenSpec.upto fnExactIsCorrectSpec)

/-- 'laws.FnExactFirstWrong', WHERE WHAT IT READS IS OF BULK AT MOST 1048576: true; the input reads as it did. -/
def fnExactFirstWrongUptoRow : OpenClaim := { program := "ytdcgkmfkbdhfhaa", sum := "0c482737188a01d95773c866afbf1d9f8944b2adfc1741bd76f43ab98178dc26", func := "loop.example/g01262/laws.FnExactFirstWrong", spec := "fnExactFirstWrong", unfollowed := true, recurses := true, apart := false, narrowed := true }
def FnExactFirstWrongUptoSaid : Prop := fnExactFirstWrongUptoRow.holds Try.pinned (OpenSpec.upto fnExactFirstWrongSpec)

end Rows
end Go.Proofs.Ytdcgkmfkbdhfhaa
