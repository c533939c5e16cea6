/-
  No cell of these rows narrows 'for every input' (looked for: loops, veiled, ifaces, maps, wideKeys, modest, calm, conditions, laid).
  DERIVED. THE GIVEN ROWS OF THIS SEAT. 4 by the template 'for every input the law returns true; each argument reads behind the call as it read before'; 0 by the template 'total and deterministic' (their statements: YtnlidegmllcdhaaTotals.lean).
  GIVEN WITH THE SEED: the statements are not yours to turn. If you find one false, say at which input.
  Laid BY PROGRAM, IN A SANDBOX (cutbox-rows.mjs): the forced cells as the released guide's own fill.sh prints them over the translation e8db548683410a7e… (all of the seat's roots in one cut). By AI agents, Wed Nov 11 2026. No macro, syntax, notation, axiom, sorry.
-/
import Derived.Test.YtnlidegmllcdhaaChecked
import GoSem.Claim
import GoSem.ClaimJoined
import GoSem.ClaimMapViews
import Derived.JoinedTies
import Derived.KernelRfl
namespace Go.Proofs.Ytnlidegmllcdhaa
/- THE CELL 'sum', in the pinned program and in every row, IS THE sha256 OF THE DUMP (.gsa) THAT YtnlidegmllcdhaaProg.lean LOADS. Nothing in Lean hashes anything: it is a label: what it is worth is what the hold of that sum in a sandbox is worth. -/
noncomputable def Try.pinned : Pinned := { name := "ytnlidegmllcdhaa", sum := "e8db548683410a7e8db0769f6e0d60d1567a2eead117312860419b7dffeedd99", checked := Try.checked }
namespace Rows
def none {H : Type} : Left H := { results := [], args := [] }

/-- 'laws.FnExactValueOfBorder': WHATEVER THE INPUT: true; the input reads as it did. -/
def fnExactValueOfBorderSpec : ChangeSpec := { name := "fnExactValueOfBorder", fn := fun _ => fun
  | [d1, d2] => { results := [.lit (.bool true)], args := [d1, d2] }
  | _ => none }
def fnExactValueOfBorderRow : OpenClaim := { program := "ytnlidegmllcdhaa", sum := "e8db548683410a7e8db0769f6e0d60d1567a2eead117312860419b7dffeedd99", func := "loop.example/g01262/laws.FnExactValueOfBorder", spec := "fnExactValueOfBorder", unfollowed := true, recurses := true, apart := false }
def FnExactValueOfBorderSaid : Prop := fnExactValueOfBorderRow.holds Try.pinned (OpenSpec.ofChange fnExactValueOfBorderSpec)

/-- ITS FALSE NEIGHBOUR: 'it returns false'. Refute it at one input. -/
def fnExactValueOfBorderWrong : ChangeSpec := { name := "fnExactValueOfBorder", fn := fun _ => fun
  | [d1, d2] => { results := [.lit (.bool false)], args := [d1, d2] }
  | _ => none }
def FnExactValueOfBorderWrongFalsely : Prop := fnExactValueOfBorderRow.holds Try.pinned (OpenSpec.ofChange fnExactValueOfBorderWrong)

/-- 'laws.FnExactCountExact': WHATEVER THE INPUT: true; the input reads as it did. -/
def fnExactCountExactSpec : ChangeSpec := { name := "fnExactCountExact", fn := fun _ => fun
  | [d1, d2] => { results := [.lit (.bool true)], args := [d1, d2] }
  | _ => none }
def fnExactCountExactRow : OpenClaim := { program := "ytnlidegmllcdhaa", sum := "e8db548683410a7e8db0769f6e0d60d1567a2eead117312860419b7dffeedd99", func := "loop.example/g01262/laws.FnExactCountExact", spec := "fnExactCountExact", unfollowed := true, recurses := true, apart := false }
def FnExactCountExactSaid : Prop := fnExactCountExactRow.holds Try.pinned (OpenSpec.ofChange fnExactCountExactSpec)

/-- ITS FALSE NEIGHBOUR: 'it returns false'. Refute it at one input. -/
def fnExactCountExactWrong : ChangeSpec := { name := "fnExactCountExact", fn := fun _ => fun
  | [d1, d2] => { results := [.lit (.bool false)], args := [d1, d2] }
  | _ => none }
def FnExactCountExactWrongFalsely : Prop := fnExactCountExactRow.holds Try.pinned (OpenSpec.ofChange fnExactCountExactWrong)

/-- 'laws.FnExactExactScheme': WHATEVER THE INPUT: true; the input reads as it did. -/
def fnExactExactSchemeSpec : ChangeSpec := { name := "fnExactExactScheme", fn := fun _ => fun
  | [d1, d2] => { results := [.lit (.bool true)], args := [d1, d2] }
  | _ => none }
def fnExactExactSchemeRow : OpenClaim := { program := "ytnlidegmllcdhaa", sum := "e8db548683410a7e8db0769f6e0d60d1567a2eead117312860419b7dffeedd99", func := "loop.example/g01262/laws.FnExactExactScheme", spec := "fnExactExactScheme", unfollowed := true, recurses := true, apart := false }
def FnExactExactSchemeSaid : Prop := fnExactExactSchemeRow.holds Try.pinned (OpenSpec.ofChange fnExactExactSchemeSpec)

/-- ITS FALSE NEIGHBOUR: 'it returns false'. Refute it at one input. -/
def fnExactExactSchemeWrong : ChangeSpec := { name := "fnExactExactScheme", fn := fun _ => fun
  | [d1, d2] => { results := [.lit (.bool false)], args := [d1, d2] }
  | _ => none }
def FnExactExactSchemeWrongFalsely : Prop := fnExactExactSchemeRow.holds Try.pinned (OpenSpec.ofChange fnExactExactSchemeWrong)

/-- 'laws.FnExactCoefficientAt': WHATEVER THE INPUT: true; the input reads as it did. -/
def fnExactCoefficientAtSpec : ChangeSpec := { name := "fnExactCoefficientAt", fn := fun _ => fun
  | [d1, d2, d3, d4, d5] => { results := [.lit (.bool true)], args := [d1, d2, d3, d4, d5] }
  | _ => none }
def fnExactCoefficientAtRow : OpenClaim := { program := "ytnlidegmllcdhaa", sum := "e8db548683410a7e8db0769f6e0d60d1567a2eead117312860419b7dffeedd99", func := "loop.example/g01262/laws.FnExactCoefficientAt", spec := "fnExactCoefficientAt", unfollowed := true, recurses := true, apart := false }
def FnExactCoefficientAtSaid : Prop := fnExactCoefficientAtRow.holds Try.pinned (OpenSpec.ofChange fnExactCoefficientAtSpec)

/-- ITS FALSE NEIGHBOUR: 'it returns false'. Refute it at one input. -/
def fnExactCoefficientAtWrong : ChangeSpec := { name := "fnExactCoefficientAt", fn := fun _ => fun
  | [d1, d2, d3, d4, d5] => { results := [.lit (.bool false)], args := [d1, d2, d3, d4, d5] }
  | _ => none }
def FnExactCoefficientAtWrongFalsely : Prop := fnExactCoefficientAtRow.holds Try.pinned (OpenSpec.ofChange fnExactCoefficientAtWrong)

/- THE SECOND FORM. 'bulk': how many values and letters a reading holds, each counted each time it is reached (what is shared counts as often as it is met; a slice's spare places count too). A statement '..UptoSaid' is the law's where the arguments, and the package variables that the reading takes, are together of bulk at most 1048576: NARROWER than '..Said'. Prove '..Said' where nothing that the law and all that it calls make is longer than what came in: it says more and counts as full. Else prove '..UptoSaid'. A law counts once. -/
mutual
def uptoBulk {H : Type} : DataW H → Nat
  | .lit (.string bytes) => bytes.length + 1
  | .lit _ => 1
  | .nil => 1
  | .ptr d => uptoBulk d + 1
  | .slice elems spare => uptoBulkAll elems + uptoBulkAll spare + 1
  | .agg parts => uptoBulkAll parts + 1
  | .iface _ d => uptoBulk d + 1
  | .map entries => uptoBulkEntries entries + 1
  | .held _ => 1
def uptoBulkAll {H : Type} : List (DataW H) → Nat
  | [] => 0
  | d :: r => uptoBulk d + uptoBulkAll r
def uptoBulkEntries {H : Type} : List (Lit × DataW H) → Nat
  | [] => 0
  | x :: r => uptoBulkEntry x + uptoBulkEntries r
def uptoBulkEntry {H : Type} : Lit × DataW H → Nat
  | (.string bytes, d) => bytes.length + uptoBulk d + 1
  | (_, d) => uptoBulk d + 1
 end
def uptoSmall : (H : Type) → List (DataW H) → Bool := fun _ ds => decide (uptoBulkAll ds ≤ 1048576)
def OpenSpec.upto (s : _root_.Go.ChangeSpec) : _root_.Go.OpenSpec := { _root_.Go.OpenSpec.ofChange s with cond := some uptoSmall }

/-- 'laws.FnExactValueOfBorder', WHERE WHAT IT READS IS OF BULK AT MOST 1048576: true; the input reads as it did. -/
def fnExactValueOfBorderUptoRow : OpenClaim := { program := "ytnlidegmllcdhaa", sum := "e8db548683410a7e8db0769f6e0d60d1567a2eead117312860419b7dffeedd99", func := "loop.example/g01262/laws.FnExactValueOfBorder", spec := "fnExactValueOfBorder", unfollowed := true, recurses := true, apart := false, narrowed := true }
def FnExactValueOfBorderUptoSaid : Prop := fnExactValueOfBorderUptoRow.holds Try.pinned (OpenSpec.upto fnExactValueOfBorderSpec)

/-- 'laws.FnExactCountExact', WHERE WHAT IT READS IS OF BULK AT MOST 1048576: true; the input reads as it did. -/
def fnExactCountExactUptoRow : OpenClaim := { program := "ytnlidegmllcdhaa", sum := "e8db548683410a7e8db0769f6e0d60d1567a2eead117312860419b7dffeedd99", func := "loop.example/g01262/laws.FnExactCountExact", spec := "fnExactCountExact", unfollowed := true, recurses := true, apart := false, narrowed := true }
def FnExactCountExactUptoSaid : Prop := fnExactCountExactUptoRow.holds Try.pinned (OpenSpec.upto fnExactCountExactSpec)

/-- 'laws.FnExactExactScheme', WHERE WHAT IT READS IS OF BULK AT MOST 1048576: true; the input reads as it did. -/
def fnExactExactSchemeUptoRow : OpenClaim := { program := "ytnlidegmllcdhaa", sum := "e8db548683410a7e8db0769f6e0d60d1567a2eead117312860419b7dffeedd99", func := "loop.example/g01262/laws.FnExactExactScheme", spec := "fnExactExactScheme", unfollowed := true, recurses := true, apart := false, narrowed := true }
def FnExactExactSchemeUptoSaid : Prop := fnExactExactSchemeUptoRow.holds Try.pinned (OpenSpec.upto fnExactExactSchemeSpec)

/-- 'laws.FnExactCoefficientAt', WHERE WHAT IT READS IS OF BULK AT MOST 1048576: true; the input reads as it did. -/
def fnExactCoefficientAtUptoRow : OpenClaim := { program := "ytnlidegmllcdhaa", sum := "e8db548683410a7e8db0769f6e0d60d1567a2eead117312860419b7dffeedd99", func := "loop.example/g01262/laws.FnExactCoefficientAt", spec := "fnExactCoefficientAt", unfollowed := true, recurses := true, apart := false, narrowed := true }
def FnExactCoefficientAtUptoSaid : Prop := fnExactCoefficientAtUptoRow.holds Try.pinned (OpenSpec.upto fnExactCoefficientAtSpec)

end Rows
end Go.Proofs.Ytnlidegmllcdhaa
