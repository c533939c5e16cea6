/-
  No cell of these rows narrows 'for every input' (looked for: loops, veiled, ifaces, maps, wideKeys, modest, calm, conditions, laid).
  DERIVED. THE GIVEN ROWS OF THIS SEAT. 4 by the template 'for every input the law returns true; each argument reads behind the call as it read before'; 0 by the template 'total and deterministic' (their statements: YtkboenfloaagiaaTotals.lean).
  GIVEN WITH THE SEED: the statements are not yours to turn. If you find one false, say at which input.
  Laid BY PROGRAM, IN A SANDBOX (cutbox-rows.mjs): the forced cells as the released guide's own fill.sh prints them over the translation 35759e8a6b2c8b00… (all of the seat's roots in one cut). By AI agents, Wed Nov 11 2026. No macro, syntax, notation, axiom, sorry.
-/
import Derived.Test.YtkboenfloaagiaaChecked
import GoSem.Claim
import GoSem.ClaimJoined
import GoSem.ClaimMapViews
import Derived.JoinedTies
import Derived.KernelRfl
namespace Go.Proofs.Ytkboenfloaagiaa
/- THE CELL 'sum', in the pinned program and in every row, IS THE sha256 OF THE DUMP (.gsa) THAT YtkboenfloaagiaaProg.lean LOADS. Nothing in Lean hashes anything: it is a label: what it is worth is what the hold of that sum in a sandbox is worth. -/
noncomputable def Try.pinned : Pinned := { name := "ytkboenfloaagiaa", sum := "35759e8a6b2c8b003cf5981b82fa698bebc80917fedeb1e0f4f292229b877e2c", checked := Try.checked }
namespace Rows
def none {H : Type} : Left H := { results := [], args := [] }

/-- 'laws.FnExactPairsOf': WHATEVER THE INPUT: true; the input reads as it did. -/
def fnExactPairsOfSpec : ChangeSpec := { name := "fnExactPairsOf", fn := fun _ => fun
  | [d] => { results := [.lit (.bool true)], args := [d] }
  | _ => none }
def fnExactPairsOfRow : OpenClaim := { program := "ytkboenfloaagiaa", sum := "35759e8a6b2c8b003cf5981b82fa698bebc80917fedeb1e0f4f292229b877e2c", func := "loop.example/g01262/laws.FnExactPairsOf", spec := "fnExactPairsOf", unfollowed := true, recurses := true, apart := false }
def FnExactPairsOfSaid : Prop := fnExactPairsOfRow.holds Try.pinned (OpenSpec.ofChange fnExactPairsOfSpec)

/-- ITS FALSE NEIGHBOUR: 'it returns false'. Refute it at one input. -/
def fnExactPairsOfWrong : ChangeSpec := { name := "fnExactPairsOf", fn := fun _ => fun
  | [d] => { results := [.lit (.bool false)], args := [d] }
  | _ => none }
def FnExactPairsOfWrongFalsely : Prop := fnExactPairsOfRow.holds Try.pinned (OpenSpec.ofChange fnExactPairsOfWrong)

/-- 'laws.FnExactAllPairs': WHATEVER THE INPUT: true; the input reads as it did. -/
def fnExactAllPairsSpec : ChangeSpec := { name := "fnExactAllPairs", fn := fun _ => fun
  | [d1, d2, d3] => { results := [.lit (.bool true)], args := [d1, d2, d3] }
  | _ => none }
def fnExactAllPairsRow : OpenClaim := { program := "ytkboenfloaagiaa", sum := "35759e8a6b2c8b003cf5981b82fa698bebc80917fedeb1e0f4f292229b877e2c", func := "loop.example/g01262/laws.FnExactAllPairs", spec := "fnExactAllPairs", apart := false }
def FnExactAllPairsSaid : Prop := fnExactAllPairsRow.holds Try.pinned (OpenSpec.ofChange fnExactAllPairsSpec)

/-- ITS FALSE NEIGHBOUR: 'it returns false'. Refute it at one input. -/
def fnExactAllPairsWrong : ChangeSpec := { name := "fnExactAllPairs", fn := fun _ => fun
  | [d1, d2, d3] => { results := [.lit (.bool false)], args := [d1, d2, d3] }
  | _ => none }
def FnExactAllPairsWrongFalsely : Prop := fnExactAllPairsRow.holds Try.pinned (OpenSpec.ofChange fnExactAllPairsWrong)

/-- 'laws.FnExactMergeScheme': WHATEVER THE INPUT: true; the input reads as it did. -/
def fnExactMergeSchemeSpec : ChangeSpec := { name := "fnExactMergeScheme", fn := fun _ => fun
  | [d] => { results := [.lit (.bool true)], args := [d] }
  | _ => none }
def fnExactMergeSchemeRow : OpenClaim := { program := "ytkboenfloaagiaa", sum := "35759e8a6b2c8b003cf5981b82fa698bebc80917fedeb1e0f4f292229b877e2c", func := "loop.example/g01262/laws.FnExactMergeScheme", spec := "fnExactMergeScheme", unfollowed := true, recurses := true, apart := false }
def FnExactMergeSchemeSaid : Prop := fnExactMergeSchemeRow.holds Try.pinned (OpenSpec.ofChange fnExactMergeSchemeSpec)

/-- ITS FALSE NEIGHBOUR: 'it returns false'. Refute it at one input. -/
def fnExactMergeSchemeWrong : ChangeSpec := { name := "fnExactMergeScheme", fn := fun _ => fun
  | [d] => { results := [.lit (.bool false)], args := [d] }
  | _ => none }
def FnExactMergeSchemeWrongFalsely : Prop := fnExactMergeSchemeRow.holds Try.pinned (OpenSpec.ofChange fnExactMergeSchemeWrong)

/-- 'laws.FnExactWalkScheme': WHATEVER THE INPUT: true; the input reads as it did. -/
def fnExactWalkSchemeSpec : ChangeSpec := { name := "fnExactWalkScheme", fn := fun _ => fun
  | [d1, d2, d3] => { results := [.lit (.bool true)], args := [d1, d2, d3] }
  | _ => none }
def fnExactWalkSchemeRow : OpenClaim := { program := "ytkboenfloaagiaa", sum := "35759e8a6b2c8b003cf5981b82fa698bebc80917fedeb1e0f4f292229b877e2c", func := "loop.example/g01262/laws.FnExactWalkScheme", spec := "fnExactWalkScheme", unfollowed := true, recurses := true, apart := false }
def FnExactWalkSchemeSaid : Prop := fnExactWalkSchemeRow.holds Try.pinned (OpenSpec.ofChange fnExactWalkSchemeSpec)

/-- ITS FALSE NEIGHBOUR: 'it returns false'. Refute it at one input. -/
def fnExactWalkSchemeWrong : ChangeSpec := { name := "fnExactWalkScheme", fn := fun _ => fun
  | [d1, d2, d3] => { results := [.lit (.bool false)], args := [d1, d2, d3] }
  | _ => none }
def FnExactWalkSchemeWrongFalsely : Prop := fnExactWalkSchemeRow.holds Try.pinned (OpenSpec.ofChange fnExactWalkSchemeWrong)

/- THE SECOND FORM. 'bulk': how many values and letters a reading holds, each counted each time it is reached (what is shared counts as often as it is met; a slice's spare places count too). A statement '..UptoSaid' is the law's where the arguments, and the package variables that the reading takes, are together of bulk at most 1048576: NARROWER than '..Said'. Prove '..Said' where nothing that the law and all that it calls make is longer than what came in: it says more and counts as full. Else prove '..UptoSaid'. A law counts once. -/
mutual
def uptoBulk {H : Type} : DataW H → Nat
  | .lit (.string bytes) => bytes.length + 1
  | .lit _ => 1
  | .nil => 1
  | .ptr d => uptoBulk d + 1
  | .slice elems spare => uptoBulkAll elems + uptoBulkAll spare + 1
  | .agg parts => uptoBulkAll parts + 1
  | .iface _ d => uptoBulk d + 1
  | .map entries => uptoBulkEntries entries + 1
  | .held _ => 1
def uptoBulkAll {H : Type} : List (DataW H) → Nat
  | [] => 0
  | d :: r => uptoBulk d + uptoBulkAll r
def uptoBulkEntries {H : Type} : List (Lit × DataW H) → Nat
  | [] => 0
  | x :: r => uptoBulkEntry x + uptoBulkEntries r
def uptoBulkEntry {H : Type} : Lit × DataW H → Nat
  | (.string bytes, d) => bytes.length + uptoBulk d + 1
  | (_, d) => uptoBulk d + 1
 end
def uptoSmall : (H : Type) → List (DataW H) → Bool := fun _ ds => decide (uptoBulkAll ds ≤ 1048576)
def OpenSpec.upto (s : _root_.Go.ChangeSpec) : _root_.Go.OpenSpec := { _root_.Go.OpenSpec.ofChange s with cond := some uptoSmall }

/-- 'laws.FnExactPairsOf', WHERE WHAT IT READS IS OF BULK AT MOST 1048576: true; the input reads as it did. -/
def fnExactPairsOfUptoRow : OpenClaim := { program := "ytkboenfloaagiaa", sum := "35759e8a6b2c8b003cf5981b82fa698bebc80917fedeb1e0f4f292229b877e2c", func := "loop.example/g01262/laws.FnExactPairsOf", spec := "fnExactPairsOf", unfollowed := true, recurses := true, apart := false, narrowed := true }
def FnExactPairsOfUptoSaid : Prop := fnExactPairsOfUptoRow.holds Try.pinned (OpenSpec.upto fnExactPairsOfSpec)

/-- 'laws.FnExactAllPairs', WHERE WHAT IT READS IS OF BULK AT MOST 1048576: true; the input reads as it did. -/
def fnExactAllPairsUptoRow : OpenClaim := { program := "ytkboenfloaagiaa", sum := "35759e8a6b2c8b003cf5981b82fa698bebc80917fedeb1e0f4f292229b877e2c", func := "loop.example/g01262/laws.FnExactAllPairs", spec := "fnExactAllPairs", apart := false, narrowed := true }
def FnExactAllPairsUptoSaid : Prop := fnExactAllPairsUptoRow.holds Try.pinned (OpenSpec.upto fnExactAllPairsSpec)

/-- 'laws.FnExactMergeScheme', WHERE WHAT IT READS IS OF BULK AT MOST 1048576: true; the input reads as it did. -/
def fnExactMergeSchemeUptoRow : OpenClaim := { program := "ytkboenfloaagiaa", sum := "35759e8a6b2c8b003cf5981b82fa698bebc80917fedeb1e0f4f292229b877e2c", func := "loop.example/g01262/laws.FnExactMergeScheme", spec := "fnExactMergeScheme", unfollowed := true, recurses := true, apart := false, narrowed := true }
def FnExactMergeSchemeUptoSaid : Prop := fnExactMergeSchemeUptoRow.holds Try.pinned (OpenSpec.upto fnExactMergeSchemeSpec)

/-- 'laws.FnExactWalkScheme', WHERE WHAT IT READS IS OF BULK AT MOST 1048576: true; the input reads as it did. -/
def fnExactWalkSchemeUptoRow : OpenClaim := { program := "ytkboenfloaagiaa", sum := "35759e8a6b2c8b003cf5981b82fa698bebc80917fedeb1e0f4f292229b877e2c", func := "loop.example/g01262/laws.FnExactWalkScheme", spec := "fnExactWalkScheme", unfollowed := true, recurses := true, apart := false, narrowed := true }
def FnExactWalkSchemeUptoSaid : Prop := fnExactWalkSchemeUptoRow.holds Try.pinned (OpenSpec.upto fnExactWalkSchemeSpec)

end Rows
end Go.Proofs.Ytkboenfloaagiaa
