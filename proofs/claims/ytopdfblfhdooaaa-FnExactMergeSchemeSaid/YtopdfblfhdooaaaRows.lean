/-
  No cell of these rows narrows 'for every input' (looked for: loops, veiled, ifaces, maps, wideKeys, modest, calm, conditions, laid).
  DERIVED. THE GIVEN ROWS OF THIS SEAT. 3 by the template 'for every input the law returns true; each argument reads behind the call as it read before'; 0 by the template 'total and deterministic' (their statements: YtopdfblfhdooaaaTotals.lean).
  GIVEN WITH THE SEED: the statements are not yours to turn. If you find one false, say at which input.
  Laid BY PROGRAM, IN A SANDBOX (cutbox-rows.mjs): the forced cells as the released guide's own fill.sh prints them over the translation 71955f3a76cab136… (all of the seat's roots in one cut). By AI agents, Wed Nov 11 2026. No macro, syntax, notation, axiom, sorry.
-/
import Derived.Test.YtopdfblfhdooaaaChecked
import GoSem.Claim
import GoSem.ClaimJoined
import GoSem.ClaimMapViews
import Derived.JoinedTies
import Derived.KernelRfl
namespace Go.Proofs.Ytopdfblfhdooaaa
/- THE CELL 'sum', in the pinned program and in every row, IS THE sha256 OF THE DUMP (.gsa) THAT YtopdfblfhdooaaaProg.lean LOADS. Nothing in Lean hashes anything: it is a label: what it is worth is what the hold of that sum in a sandbox is worth. -/
noncomputable def Try.pinned : Pinned := { name := "ytopdfblfhdooaaa", sum := "71955f3a76cab1360532529af8b250699f7ca1af9feb197d14c0aa95c54cbbdd", checked := Try.checked }
namespace Rows
def none {H : Type} : Left H := { results := [], args := [] }

/-- 'laws.FnExactKroneckerMethods': WHATEVER THE INPUT: true; the input reads as it did. -/
def fnExactKroneckerMethodsSpec : ChangeSpec := { name := "fnExactKroneckerMethods", fn := fun _ => fun
  | [d1, d2] => { results := [.lit (.bool true)], args := [d1, d2] }
  | _ => none }
def fnExactKroneckerMethodsRow : OpenClaim := { program := "ytopdfblfhdooaaa", sum := "71955f3a76cab1360532529af8b250699f7ca1af9feb197d14c0aa95c54cbbdd", func := "loop.example/g01262/laws.FnExactKroneckerMethods", spec := "fnExactKroneckerMethods", unfollowed := true, recurses := true, apart := false }
def FnExactKroneckerMethodsSaid : Prop := fnExactKroneckerMethodsRow.holds Try.pinned (OpenSpec.ofChange fnExactKroneckerMethodsSpec)

/-- ITS FALSE NEIGHBOUR: 'it returns false'. Refute it at one input. -/
def fnExactKroneckerMethodsWrong : ChangeSpec := { name := "fnExactKroneckerMethods", fn := fun _ => fun
  | [d1, d2] => { results := [.lit (.bool false)], args := [d1, d2] }
  | _ => none }
def FnExactKroneckerMethodsWrongFalsely : Prop := fnExactKroneckerMethodsRow.holds Try.pinned (OpenSpec.ofChange fnExactKroneckerMethodsWrong)

/-- 'laws.FnExactMultiplySchemes': WHATEVER THE INPUT: true; the input reads as it did. -/
def fnExactMultiplySchemesSpec : ChangeSpec := { name := "fnExactMultiplySchemes", fn := fun _ => fun
  | [d1, d2] => { results := [.lit (.bool true)], args := [d1, d2] }
  | _ => none }
def fnExactMultiplySchemesRow : OpenClaim := { program := "ytopdfblfhdooaaa", sum := "71955f3a76cab1360532529af8b250699f7ca1af9feb197d14c0aa95c54cbbdd", func := "loop.example/g01262/laws.FnExactMultiplySchemes", spec := "fnExactMultiplySchemes", unfollowed := true, recurses := true, apart := false }
def FnExactMultiplySchemesSaid : Prop := fnExactMultiplySchemesRow.holds Try.pinned (OpenSpec.ofChange fnExactMultiplySchemesSpec)

/-- ITS FALSE NEIGHBOUR: 'it returns false'. Refute it at one input. -/
def fnExactMultiplySchemesWrong : ChangeSpec := { name := "fnExactMultiplySchemes", fn := fun _ => fun
  | [d1, d2] => { results := [.lit (.bool false)], args := [d1, d2] }
  | _ => none }
def FnExactMultiplySchemesWrongFalsely : Prop := fnExactMultiplySchemesRow.holds Try.pinned (OpenSpec.ofChange fnExactMultiplySchemesWrong)

/-- 'laws.FnExactMergeScheme': WHATEVER THE INPUT: true; the input reads as it did. -/
def fnExactMergeSchemeSpec : ChangeSpec := { name := "fnExactMergeScheme", fn := fun _ => fun
  | [d] => { results := [.lit (.bool true)], args := [d] }
  | _ => none }
def fnExactMergeSchemeRow : OpenClaim := { program := "ytopdfblfhdooaaa", sum := "71955f3a76cab1360532529af8b250699f7ca1af9feb197d14c0aa95c54cbbdd", func := "loop.example/g01262/laws.FnExactMergeScheme", spec := "fnExactMergeScheme", unfollowed := true, recurses := true, apart := false }
def FnExactMergeSchemeSaid : Prop := fnExactMergeSchemeRow.holds Try.pinned (OpenSpec.ofChange fnExactMergeSchemeSpec)

/-- ITS FALSE NEIGHBOUR: 'it returns false'. Refute it at one input. -/
def fnExactMergeSchemeWrong : ChangeSpec := { name := "fnExactMergeScheme", fn := fun _ => fun
  | [d] => { results := [.lit (.bool false)], args := [d] }
  | _ => none }
def FnExactMergeSchemeWrongFalsely : Prop := fnExactMergeSchemeRow.holds Try.pinned (OpenSpec.ofChange fnExactMergeSchemeWrong)

/- THE SECOND FORM. 'bulk': how many values and letters a reading holds, each counted each time it is reached (what is shared counts as often as it is met; a slice's spare places count too). A statement '..UptoSaid' is the law's where the arguments, and the package variables that the reading takes, are together of bulk at most 1048576: NARROWER than '..Said'. Prove '..Said' where nothing that the law and all that it calls make is longer than what came in: it says more and counts as full. Else prove '..UptoSaid'. A law counts once. -/
mutual
def uptoBulk {H : Type} : DataW H → Nat
  | .lit (.string bytes) => bytes.length + 1
  | .lit _ => 1
  | .nil => 1
  | .ptr d => uptoBulk d + 1
  | .slice elems spare => uptoBulkAll elems + uptoBulkAll spare + 1
  | .agg parts => uptoBulkAll parts + 1
  | .iface _ d => uptoBulk d + 1
  | .map entries => uptoBulkEntries entries + 1
  | .held _ => 1
def uptoBulkAll {H : Type} : List (DataW H) → Nat
  | [] => 0
  | d :: r => uptoBulk d + uptoBulkAll r
def uptoBulkEntries {H : Type} : List (Lit × DataW H) → Nat
  | [] => 0
  | x :: r => uptoBulkEntry x + uptoBulkEntries r
def uptoBulkEntry {H : Type} : Lit × DataW H → Nat
  | (.string bytes, d) => bytes.length + uptoBulk d + 1
  | (_, d) => uptoBulk d + 1
 end
def uptoSmall : (H : Type) → List (DataW H) → Bool := fun _ ds => decide (uptoBulkAll ds ≤ 1048576)
def OpenSpec.upto (s : _root_.Go.ChangeSpec) : _root_.Go.OpenSpec := { _root_.Go.OpenSpec.ofChange s with cond := some uptoSmall }

/-- 'laws.FnExactKroneckerMethods', WHERE WHAT IT READS IS OF BULK AT MOST 1048576: true; the input reads as it did. -/
def fnExactKroneckerMethodsUptoRow : OpenClaim := { program := "ytopdfblfhdooaaa", sum := "71955f3a76cab1360532529af8b250699f7ca1af9feb197d14c0aa95c54cbbdd", func := "loop.example/g01262/laws.FnExactKroneckerMethods", spec := "fnExactKroneckerMethods", unfollowed := true, recurses := true, apart := false, narrowed := true }
def FnExactKroneckerMethodsUptoSaid : Prop := fnExactKroneckerMethodsUptoRow.holds Try.pinned (OpenSpec.upto fnExactKroneckerMethodsSpec)

/-- 'laws.FnExactMultiplySchemes', WHERE WHAT IT READS IS OF BULK AT MOST 1048576: true; the input reads as it did. -/
def fnExactMultiplySchemesUptoRow : OpenClaim := { program := "ytopdfblfhdooaaa", sum := "71955f3a76cab1360532529af8b250699f7ca1af9feb197d14c0aa95c54cbbdd", func := "loop.example/g01262/laws.FnExactMultiplySchemes", spec := "fnExactMultiplySchemes", unfollowed := true, recurses := true, apart := false, narrowed := true }
def FnExactMultiplySchemesUptoSaid : Prop := fnExactMultiplySchemesUptoRow.holds Try.pinned (OpenSpec.upto fnExactMultiplySchemesSpec)

/-- 'laws.FnExactMergeScheme', WHERE WHAT IT READS IS OF BULK AT MOST 1048576: true; the input reads as it did. -/
def fnExactMergeSchemeUptoRow : OpenClaim := { program := "ytopdfblfhdooaaa", sum := "71955f3a76cab1360532529af8b250699f7ca1af9feb197d14c0aa95c54cbbdd", func := "loop.example/g01262/laws.FnExactMergeScheme", spec := "fnExactMergeScheme", unfollowed := true, recurses := true, apart := false, narrowed := true }
def FnExactMergeSchemeUptoSaid : Prop := fnExactMergeSchemeUptoRow.holds Try.pinned (OpenSpec.upto fnExactMergeSchemeSpec)

end Rows
end Go.Proofs.Ytopdfblfhdooaaa
