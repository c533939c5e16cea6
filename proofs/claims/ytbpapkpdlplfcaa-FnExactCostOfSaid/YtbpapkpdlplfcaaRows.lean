/-
  No cell of these rows narrows 'for every input' (looked for: loops, veiled, ifaces, maps, wideKeys, modest, calm, conditions, laid).
  DERIVED. THE GIVEN ROWS OF THIS SEAT. 4 by the template 'for every input the law returns true; each argument reads behind the call as it read before'; 0 by the template 'total and deterministic' (their statements: YtbpapkpdlplfcaaTotals.lean).
  GIVEN WITH THE SEED: the statements are not yours to turn. If you find one false, say at which input.
  Laid BY PROGRAM, IN A SANDBOX (cutbox-rows.mjs): the forced cells as the released guide's own fill.sh prints them over the translation 313bcb5fcb6e9d65… (all of the seat's roots in one cut). By AI agents, Wed Nov 11 2026. No macro, syntax, notation, axiom, sorry.
-/
import Derived.Test.YtbpapkpdlplfcaaChecked
import GoSem.Claim
import GoSem.ClaimJoined
import GoSem.ClaimMapViews
import Derived.JoinedTies
import Derived.KernelRfl
namespace Go.Proofs.Ytbpapkpdlplfcaa
/- THE CELL 'sum', in the pinned program and in every row, IS THE sha256 OF THE DUMP (.gsa) THAT YtbpapkpdlplfcaaProg.lean LOADS. Nothing in Lean hashes anything: it is a label: what it is worth is what the hold of that sum in a sandbox is worth. -/
noncomputable def Try.pinned : Pinned := { name := "ytbpapkpdlplfcaa", sum := "313bcb5fcb6e9d65babdd91b7632df8b9f96ea0d1e25e9172446b688978fa38e", checked := Try.checked }
namespace Rows
def none {H : Type} : Left H := { results := [], args := [] }

/-- 'laws.FnExactCostOf': WHATEVER THE INPUT: true; the input reads as it did. -/
def fnExactCostOfSpec : ChangeSpec := { name := "fnExactCostOf", fn := fun _ => fun
  | [d] => { results := [.lit (.bool true)], args := [d] }
  | _ => none }
def fnExactCostOfRow : OpenClaim := { program := "ytbpapkpdlplfcaa", sum := "313bcb5fcb6e9d65babdd91b7632df8b9f96ea0d1e25e9172446b688978fa38e", func := "loop.example/g01262/laws.FnExactCostOf", spec := "fnExactCostOf", unfollowed := true, recurses := true, apart := false }
def FnExactCostOfSaid : Prop := fnExactCostOfRow.holds Try.pinned (OpenSpec.ofChange fnExactCostOfSpec)

/-- ITS FALSE NEIGHBOUR: 'it returns false'. Refute it at one input. -/
def fnExactCostOfWrong : ChangeSpec := { name := "fnExactCostOf", fn := fun _ => fun
  | [d] => { results := [.lit (.bool false)], args := [d] }
  | _ => none }
def FnExactCostOfWrongFalsely : Prop := fnExactCostOfRow.holds Try.pinned (OpenSpec.ofChange fnExactCostOfWrong)

/-- 'laws.FnExactRepeatedCost': WHATEVER THE INPUT: true; the input reads as it did. -/
def fnExactRepeatedCostSpec : ChangeSpec := { name := "fnExactRepeatedCost", fn := fun _ => fun
  | [d1, d2] => { results := [.lit (.bool true)], args := [d1, d2] }
  | _ => none }
def fnExactRepeatedCostRow : OpenClaim := { program := "ytbpapkpdlplfcaa", sum := "313bcb5fcb6e9d65babdd91b7632df8b9f96ea0d1e25e9172446b688978fa38e", func := "loop.example/g01262/laws.FnExactRepeatedCost", spec := "fnExactRepeatedCost", unfollowed := true, recurses := true, apart := false }
def FnExactRepeatedCostSaid : Prop := fnExactRepeatedCostRow.holds Try.pinned (OpenSpec.ofChange fnExactRepeatedCostSpec)

/-- ITS FALSE NEIGHBOUR: 'it returns false'. Refute it at one input. -/
def fnExactRepeatedCostWrong : ChangeSpec := { name := "fnExactRepeatedCost", fn := fun _ => fun
  | [d1, d2] => { results := [.lit (.bool false)], args := [d1, d2] }
  | _ => none }
def FnExactRepeatedCostWrongFalsely : Prop := fnExactRepeatedCostRow.holds Try.pinned (OpenSpec.ofChange fnExactRepeatedCostWrong)

/-- 'laws.FnExactMixedCost': WHATEVER THE INPUT: true; the input reads as it did. -/
def fnExactMixedCostSpec : ChangeSpec := { name := "fnExactMixedCost", fn := fun _ => fun
  | [d1, d2, d3] => { results := [.lit (.bool true)], args := [d1, d2, d3] }
  | _ => none }
def fnExactMixedCostRow : OpenClaim := { program := "ytbpapkpdlplfcaa", sum := "313bcb5fcb6e9d65babdd91b7632df8b9f96ea0d1e25e9172446b688978fa38e", func := "loop.example/g01262/laws.FnExactMixedCost", spec := "fnExactMixedCost", unfollowed := true, recurses := true, apart := false }
def FnExactMixedCostSaid : Prop := fnExactMixedCostRow.holds Try.pinned (OpenSpec.ofChange fnExactMixedCostSpec)

/-- ITS FALSE NEIGHBOUR: 'it returns false'. Refute it at one input. -/
def fnExactMixedCostWrong : ChangeSpec := { name := "fnExactMixedCost", fn := fun _ => fun
  | [d1, d2, d3] => { results := [.lit (.bool false)], args := [d1, d2, d3] }
  | _ => none }
def FnExactMixedCostWrongFalsely : Prop := fnExactMixedCostRow.holds Try.pinned (OpenSpec.ofChange fnExactMixedCostWrong)

/-- 'laws.FnExactBestLevels': WHATEVER THE INPUT: true; the input reads as it did. -/
def fnExactBestLevelsSpec : ChangeSpec := { name := "fnExactBestLevels", fn := fun _ => fun
  | [d1, d2, d3] => { results := [.lit (.bool true)], args := [d1, d2, d3] }
  | _ => none }
def fnExactBestLevelsRow : OpenClaim := { program := "ytbpapkpdlplfcaa", sum := "313bcb5fcb6e9d65babdd91b7632df8b9f96ea0d1e25e9172446b688978fa38e", func := "loop.example/g01262/laws.FnExactBestLevels", spec := "fnExactBestLevels", unfollowed := true, recurses := true, apart := false }
def FnExactBestLevelsSaid : Prop := fnExactBestLevelsRow.holds Try.pinned (OpenSpec.ofChange fnExactBestLevelsSpec)

/-- ITS FALSE NEIGHBOUR: 'it returns false'. Refute it at one input. -/
def fnExactBestLevelsWrong : ChangeSpec := { name := "fnExactBestLevels", fn := fun _ => fun
  | [d1, d2, d3] => { results := [.lit (.bool false)], args := [d1, d2, d3] }
  | _ => none }
def FnExactBestLevelsWrongFalsely : Prop := fnExactBestLevelsRow.holds Try.pinned (OpenSpec.ofChange fnExactBestLevelsWrong)

/- THE SECOND FORM. 'bulk': how many values and letters a reading holds, each counted each time it is reached (what is shared counts as often as it is met; a slice's spare places count too). A statement '..UptoSaid' is the law's where the arguments, and the package variables that the reading takes, are together of bulk at most 1048576: NARROWER than '..Said'. Prove '..Said' where nothing that the law and all that it calls make is longer than what came in: it says more and counts as full. Else prove '..UptoSaid'. A law counts once. -/
mutual
def uptoBulk {H : Type} : DataW H → Nat
  | .lit (.string bytes) => bytes.length + 1
  | .lit _ => 1
  | .nil => 1
  | .ptr d => uptoBulk d + 1
  | .slice elems spare => uptoBulkAll elems + uptoBulkAll spare + 1
  | .agg parts => uptoBulkAll parts + 1
  | .iface _ d => uptoBulk d + 1
  | .map entries => uptoBulkEntries entries + 1
  | .held _ => 1
def uptoBulkAll {H : Type} : List (DataW H) → Nat
  | [] => 0
  | d :: r => uptoBulk d + uptoBulkAll r
def uptoBulkEntries {H : Type} : List (Lit × DataW H) → Nat
  | [] => 0
  | x :: r => uptoBulkEntry x + uptoBulkEntries r
def uptoBulkEntry {H : Type} : Lit × DataW H → Nat
  | (.string bytes, d) => bytes.length + uptoBulk d + 1
  | (_, d) => uptoBulk d + 1
 end
def uptoSmall : (H : Type) → List (DataW H) → Bool := fun _ ds => decide (uptoBulkAll ds ≤ 1048576)
def OpenSpec.upto (s : _root_.Go.ChangeSpec) : _root_.Go.OpenSpec := { _root_.Go.OpenSpec.ofChange s with cond := some uptoSmall }

/-- 'laws.FnExactCostOf', WHERE WHAT IT READS IS OF BULK AT MOST 1048576: true; the input reads as it did. -/
def fnExactCostOfUptoRow : OpenClaim := { program := "ytbpapkpdlplfcaa", sum := "313bcb5fcb6e9d65babdd91b7632df8b9f96ea0d1e25e9172446b688978fa38e", func := "loop.example/g01262/laws.FnExactCostOf", spec := "fnExactCostOf", unfollowed := true, recurses := true, apart := false, narrowed := true }
def FnExactCostOfUptoSaid : Prop := fnExactCostOfUptoRow.holds Try.pinned (OpenSpec.upto fnExactCostOfSpec)

/-- 'laws.FnExactRepeatedCost', WHERE WHAT IT READS IS OF BULK AT MOST 1048576: true; the input reads as it did. -/
def fnExactRepeatedCostUptoRow : OpenClaim := { program := "ytbpapkpdlplfcaa", sum := "313bcb5fcb6e9d65babdd91b7632df8b9f96ea0d1e25e9172446b688978fa38e", func := "loop.example/g01262/laws.FnExactRepeatedCost", spec := "fnExactRepeatedCost", unfollowed := true, recurses := true, apart := false, narrowed := true }
def FnExactRepeatedCostUptoSaid : Prop := fnExactRepeatedCostUptoRow.holds Try.pinned (OpenSpec.upto fnExactRepeatedCostSpec)

/-- 'laws.FnExactMixedCost', WHERE WHAT IT READS IS OF BULK AT MOST 1048576: true; the input reads as it did. -/
def fnExactMixedCostUptoRow : OpenClaim := { program := "ytbpapkpdlplfcaa", sum := "313bcb5fcb6e9d65babdd91b7632df8b9f96ea0d1e25e9172446b688978fa38e", func := "loop.example/g01262/laws.FnExactMixedCost", spec := "fnExactMixedCost", unfollowed := true, recurses := true, apart := false, narrowed := true }
def FnExactMixedCostUptoSaid : Prop := fnExactMixedCostUptoRow.holds Try.pinned (OpenSpec.upto fnExactMixedCostSpec)

/-- 'laws.FnExactBestLevels', WHERE WHAT IT READS IS OF BULK AT MOST 1048576: true; the input reads as it did. -/
def fnExactBestLevelsUptoRow : OpenClaim := { program := "ytbpapkpdlplfcaa", sum := "313bcb5fcb6e9d65babdd91b7632df8b9f96ea0d1e25e9172446b688978fa38e", func := "loop.example/g01262/laws.FnExactBestLevels", spec := "fnExactBestLevels", unfollowed := true, recurses := true, apart := false, narrowed := true }
def FnExactBestLevelsUptoSaid : Prop := fnExactBestLevelsUptoRow.holds Try.pinned (OpenSpec.upto fnExactBestLevelsSpec)

end Rows
end Go.Proofs.Ytbpapkpdlplfcaa
