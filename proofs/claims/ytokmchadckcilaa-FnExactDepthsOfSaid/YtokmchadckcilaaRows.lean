/-
  No cell of these rows narrows 'for every input' (looked for: loops, veiled, ifaces, maps, wideKeys, modest, calm, conditions, laid).
  DERIVED. THE GIVEN ROWS OF THIS SEAT. 5 by the template 'for every input the law returns true; each argument reads behind the call as it read before'; 0 by the template 'total and deterministic' (their statements: YtokmchadckcilaaTotals.lean).
  GIVEN WITH THE SEED: the statements are not yours to turn. If you find one false, say at which input.
  Laid BY PROGRAM, IN A SANDBOX (cutbox-rows.mjs): the forced cells as the released guide's own fill.sh prints them over the translation 4842fd37f36ae9f1… (all of the seat's roots in one cut). By AI agents, Wed Nov 11 2026. No macro, syntax, notation, axiom, sorry.
-/
import Derived.Test.YtokmchadckcilaaChecked
import GoSem.Claim
import GoSem.ClaimJoined
import GoSem.ClaimMapViews
import Derived.JoinedTies
import Derived.KernelRfl
namespace Go.Proofs.Ytokmchadckcilaa
/- THE CELL 'sum', in the pinned program and in every row, IS THE sha256 OF THE DUMP (.gsa) THAT YtokmchadckcilaaProg.lean LOADS. Nothing in Lean hashes anything: it is a label: what it is worth is what the hold of that sum in a sandbox is worth. -/
noncomputable def Try.pinned : Pinned := { name := "ytokmchadckcilaa", sum := "4842fd37f36ae9f18760988d04602a3290f1ae34fae157b11d6fa4158fd17783", checked := Try.checked }
namespace Rows
def none {H : Type} : Left H := { results := [], args := [] }

/-- 'laws.FnExactCountInvertible': WHATEVER THE INPUT: true; the input reads as it did. -/
def fnExactCountInvertibleSpec : ChangeSpec := { name := "fnExactCountInvertible", fn := fun _ => fun
  | [d1, d2] => { results := [.lit (.bool true)], args := [d1, d2] }
  | _ => none }
def fnExactCountInvertibleRow : OpenClaim := { program := "ytokmchadckcilaa", sum := "4842fd37f36ae9f18760988d04602a3290f1ae34fae157b11d6fa4158fd17783", func := "loop.example/g01262/laws.FnExactCountInvertible", spec := "fnExactCountInvertible", apart := false }
def FnExactCountInvertibleSaid : Prop := fnExactCountInvertibleRow.holds Try.pinned (OpenSpec.ofChange fnExactCountInvertibleSpec)

/-- ITS FALSE NEIGHBOUR: 'it returns false'. Refute it at one input. -/
def fnExactCountInvertibleWrong : ChangeSpec := { name := "fnExactCountInvertible", fn := fun _ => fun
  | [d1, d2] => { results := [.lit (.bool false)], args := [d1, d2] }
  | _ => none }
def FnExactCountInvertibleWrongFalsely : Prop := fnExactCountInvertibleRow.holds Try.pinned (OpenSpec.ofChange fnExactCountInvertibleWrong)

/-- 'laws.FnExactPlainCost': WHATEVER THE INPUT: true; the input reads as it did. -/
def fnExactPlainCostSpec : ChangeSpec := { name := "fnExactPlainCost", fn := fun _ => fun
  | [d] => { results := [.lit (.bool true)], args := [d] }
  | _ => none }
def fnExactPlainCostRow : OpenClaim := { program := "ytokmchadckcilaa", sum := "4842fd37f36ae9f18760988d04602a3290f1ae34fae157b11d6fa4158fd17783", func := "loop.example/g01262/laws.FnExactPlainCost", spec := "fnExactPlainCost", apart := false }
def FnExactPlainCostSaid : Prop := fnExactPlainCostRow.holds Try.pinned (OpenSpec.ofChange fnExactPlainCostSpec)

/-- ITS FALSE NEIGHBOUR: 'it returns false'. Refute it at one input. -/
def fnExactPlainCostWrong : ChangeSpec := { name := "fnExactPlainCost", fn := fun _ => fun
  | [d] => { results := [.lit (.bool false)], args := [d] }
  | _ => none }
def FnExactPlainCostWrongFalsely : Prop := fnExactPlainCostRow.holds Try.pinned (OpenSpec.ofChange fnExactPlainCostWrong)

/-- 'laws.FnExactIsProgram': WHATEVER THE INPUT: true; the input reads as it did. -/
def fnExactIsProgramSpec : ChangeSpec := { name := "fnExactIsProgram", fn := fun _ => fun
  | [d] => { results := [.lit (.bool true)], args := [d] }
  | _ => none }
def fnExactIsProgramRow : OpenClaim := { program := "ytokmchadckcilaa", sum := "4842fd37f36ae9f18760988d04602a3290f1ae34fae157b11d6fa4158fd17783", func := "loop.example/g01262/laws.FnExactIsProgram", spec := "fnExactIsProgram", unfollowed := true, recurses := true, apart := false }
def FnExactIsProgramSaid : Prop := fnExactIsProgramRow.holds Try.pinned (OpenSpec.ofChange fnExactIsProgramSpec)

/-- ITS FALSE NEIGHBOUR: 'it returns false'. Refute it at one input. -/
def fnExactIsProgramWrong : ChangeSpec := { name := "fnExactIsProgram", fn := fun _ => fun
  | [d] => { results := [.lit (.bool false)], args := [d] }
  | _ => none }
def FnExactIsProgramWrongFalsely : Prop := fnExactIsProgramRow.holds Try.pinned (OpenSpec.ofChange fnExactIsProgramWrong)

/-- 'laws.FnExactFormsOf': WHATEVER THE INPUT: true; the input reads as it did. -/
def fnExactFormsOfSpec : ChangeSpec := { name := "fnExactFormsOf", fn := fun _ => fun
  | [d] => { results := [.lit (.bool true)], args := [d] }
  | _ => none }
def fnExactFormsOfRow : OpenClaim := { program := "ytokmchadckcilaa", sum := "4842fd37f36ae9f18760988d04602a3290f1ae34fae157b11d6fa4158fd17783", func := "loop.example/g01262/laws.FnExactFormsOf", spec := "fnExactFormsOf", unfollowed := true, recurses := true, apart := false }
def FnExactFormsOfSaid : Prop := fnExactFormsOfRow.holds Try.pinned (OpenSpec.ofChange fnExactFormsOfSpec)

/-- ITS FALSE NEIGHBOUR: 'it returns false'. Refute it at one input. -/
def fnExactFormsOfWrong : ChangeSpec := { name := "fnExactFormsOf", fn := fun _ => fun
  | [d] => { results := [.lit (.bool false)], args := [d] }
  | _ => none }
def FnExactFormsOfWrongFalsely : Prop := fnExactFormsOfRow.holds Try.pinned (OpenSpec.ofChange fnExactFormsOfWrong)

/-- 'laws.FnExactDepthsOf': WHATEVER THE INPUT: true; the input reads as it did. -/
def fnExactDepthsOfSpec : ChangeSpec := { name := "fnExactDepthsOf", fn := fun _ => fun
  | [d] => { results := [.lit (.bool true)], args := [d] }
  | _ => none }
def fnExactDepthsOfRow : OpenClaim := { program := "ytokmchadckcilaa", sum := "4842fd37f36ae9f18760988d04602a3290f1ae34fae157b11d6fa4158fd17783", func := "loop.example/g01262/laws.FnExactDepthsOf", spec := "fnExactDepthsOf", unfollowed := true, recurses := true, apart := false }
def FnExactDepthsOfSaid : Prop := fnExactDepthsOfRow.holds Try.pinned (OpenSpec.ofChange fnExactDepthsOfSpec)

/-- ITS FALSE NEIGHBOUR: 'it returns false'. Refute it at one input. -/
def fnExactDepthsOfWrong : ChangeSpec := { name := "fnExactDepthsOf", fn := fun _ => fun
  | [d] => { results := [.lit (.bool false)], args := [d] }
  | _ => none }
def FnExactDepthsOfWrongFalsely : Prop := fnExactDepthsOfRow.holds Try.pinned (OpenSpec.ofChange fnExactDepthsOfWrong)

/- THE SECOND FORM. 'bulk': how many values and letters a reading holds, each counted each time it is reached (what is shared counts as often as it is met; a slice's spare places count too). A statement '..UptoSaid' is the law's where the arguments, and the package variables that the reading takes, are together of bulk at most 1048576: NARROWER than '..Said'. Prove '..Said' where nothing that the law and all that it calls make is longer than what came in: it says more and counts as full. Else prove '..UptoSaid'. A law counts once. -/
mutual
def uptoBulk {H : Type} : DataW H → Nat
  | .lit (.string bytes) => bytes.length + 1
  | .lit _ => 1
  | .nil => 1
  | .ptr d => uptoBulk d + 1
  | .slice elems spare => uptoBulkAll elems + uptoBulkAll spare + 1
  | .agg parts => uptoBulkAll parts + 1
  | .iface _ d => uptoBulk d + 1
  | .map entries => uptoBulkEntries entries + 1
  | .held _ => 1
def uptoBulkAll {H : Type} : List (DataW H) → Nat
  | [] => 0
  | d :: r => uptoBulk d + uptoBulkAll r
def uptoBulkEntries {H : Type} : List (Lit × DataW H) → Nat
  | [] => 0
  | x :: r => uptoBulkEntry x + uptoBulkEntries r
def uptoBulkEntry {H : Type} : Lit × DataW H → Nat
  | (.string bytes, d) => bytes.length + uptoBulk d + 1
  | (_, d) => uptoBulk d + 1
 end
def uptoSmall : (H : Type) → List (DataW H) → Bool := fun _ ds => decide (uptoBulkAll ds ≤ 1048576)
def OpenSpec.upto (s : _root_.Go.ChangeSpec) : _root_.Go.OpenSpec := { _root_.Go.OpenSpec.ofChange s with cond := some uptoSmall }

/-- 'laws.FnExactCountInvertible', WHERE WHAT IT READS IS OF BULK AT MOST 1048576: true; the input reads as it did. -/
def fnExactCountInvertibleUptoRow : OpenClaim := { program := "ytokmchadckcilaa", sum := "4842fd37f36ae9f18760988d04602a3290f1ae34fae157b11d6fa4158fd17783", func := "loop.example/g01262/laws.FnExactCountInvertible", spec := "fnExactCountInvertible", apart := false, narrowed := true }
def FnExactCountInvertibleUptoSaid : Prop := fnExactCountInvertibleUptoRow.holds Try.pinned (OpenSpec.upto fnExactCountInvertibleSpec)

/-- 'laws.FnExactPlainCost', WHERE WHAT IT READS IS OF BULK AT MOST 1048576: true; the input reads as it did. -/
def fnExactPlainCostUptoRow : OpenClaim := { program := "ytokmchadckcilaa", sum := "4842fd37f36ae9f18760988d04602a3290f1ae34fae157b11d6fa4158fd17783", func := "loop.example/g01262/laws.FnExactPlainCost", spec := "fnExactPlainCost", apart := false, narrowed := true }
def FnExactPlainCostUptoSaid : Prop := fnExactPlainCostUptoRow.holds Try.pinned (OpenSpec.upto fnExactPlainCostSpec)

/-- 'laws.FnExactIsProgram', WHERE WHAT IT READS IS OF BULK AT MOST 1048576: true; the input reads as it did. -/
def fnExactIsProgramUptoRow : OpenClaim := { program := "ytokmchadckcilaa", sum := "4842fd37f36ae9f18760988d04602a3290f1ae34fae157b11d6fa4158fd17783", func := "loop.example/g01262/laws.FnExactIsProgram", spec := "fnExactIsProgram", unfollowed := true, recurses := true, apart := false, narrowed := true }
def FnExactIsProgramUptoSaid : Prop := fnExactIsProgramUptoRow.holds Try.pinned (OpenSpec.upto fnExactIsProgramSpec)

/-- 'laws.FnExactFormsOf', WHERE WHAT IT READS IS OF BULK AT MOST 1048576: true; the input reads as it did. -/
def fnExactFormsOfUptoRow : OpenClaim := { program := "ytokmchadckcilaa", sum := "4842fd37f36ae9f18760988d04602a3290f1ae34fae157b11d6fa4158fd17783", func := "loop.example/g01262/laws.FnExactFormsOf", spec := "fnExactFormsOf", unfollowed := true, recurses := true, apart := false, narrowed := true }
def FnExactFormsOfUptoSaid : Prop := fnExactFormsOfUptoRow.holds Try.pinned (OpenSpec.upto fnExactFormsOfSpec)

/-- 'laws.FnExactDepthsOf', WHERE WHAT IT READS IS OF BULK AT MOST 1048576: true; the input reads as it did. -/
def fnExactDepthsOfUptoRow : OpenClaim := { program := "ytokmchadckcilaa", sum := "4842fd37f36ae9f18760988d04602a3290f1ae34fae157b11d6fa4158fd17783", func := "loop.example/g01262/laws.FnExactDepthsOf", spec := "fnExactDepthsOf", unfollowed := true, recurses := true, apart := false, narrowed := true }
def FnExactDepthsOfUptoSaid : Prop := fnExactDepthsOfUptoRow.holds Try.pinned (OpenSpec.upto fnExactDepthsOfSpec)

end Rows
end Go.Proofs.Ytokmchadckcilaa
