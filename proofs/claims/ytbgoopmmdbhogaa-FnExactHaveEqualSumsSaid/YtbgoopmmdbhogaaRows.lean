/-
  No cell of these rows narrows 'for every input' (looked for: loops, veiled, ifaces, maps, wideKeys, modest, calm, conditions, laid).
  DERIVED. THE GIVEN ROWS OF THIS SEAT. 4 by the template 'for every input the law returns true; each argument reads behind the call as it read before'; 0 by the template 'total and deterministic' (their statements: YtbgoopmmdbhogaaTotals.lean).
  GIVEN WITH THE SEED: the statements are not yours to turn. If you find one false, say at which input.
  Laid BY PROGRAM, IN A SANDBOX (cutbox-rows.mjs): the forced cells as the released guide's own fill.sh prints them over the translation 47fa3ff4698ad221… (all of the seat's roots in one cut). By AI agents, Wed Nov 11 2026. No macro, syntax, notation, axiom, sorry.
-/
import Derived.Test.YtbgoopmmdbhogaaChecked
import GoSem.Claim
import GoSem.ClaimJoined
import GoSem.ClaimMapViews
import Derived.JoinedTies
import Derived.KernelRfl
namespace Go.Proofs.Ytbgoopmmdbhogaa
/- THE CELL 'sum', in the pinned program and in every row, IS THE sha256 OF THE DUMP (.gsa) THAT YtbgoopmmdbhogaaProg.lean LOADS. Nothing in Lean hashes anything: it is a label: what it is worth is what the hold of that sum in a sandbox is worth. -/
noncomputable def Try.pinned : Pinned := { name := "ytbgoopmmdbhogaa", sum := "47fa3ff4698ad2210354448519f95b5c664288ecf22b0d1c4ab1813d66064edd", checked := Try.checked }
namespace Rows
def none {H : Type} : Left H := { results := [], args := [] }

/-- 'laws.FnExactNormalProducts': WHATEVER THE INPUT: true; the input reads as it did. -/
def fnExactNormalProductsSpec : ChangeSpec := { name := "fnExactNormalProducts", fn := fun _ => fun
  | [d] => { results := [.lit (.bool true)], args := [d] }
  | _ => none }
def fnExactNormalProductsRow : OpenClaim := { program := "ytbgoopmmdbhogaa", sum := "47fa3ff4698ad2210354448519f95b5c664288ecf22b0d1c4ab1813d66064edd", func := "loop.example/g01262/laws.FnExactNormalProducts", spec := "fnExactNormalProducts", unfollowed := true, recurses := true, apart := false }
def FnExactNormalProductsSaid : Prop := fnExactNormalProductsRow.holds Try.pinned (OpenSpec.ofChange fnExactNormalProductsSpec)

/-- ITS FALSE NEIGHBOUR: 'it returns false'. Refute it at one input. -/
def fnExactNormalProductsWrong : ChangeSpec := { name := "fnExactNormalProducts", fn := fun _ => fun
  | [d] => { results := [.lit (.bool false)], args := [d] }
  | _ => none }
def FnExactNormalProductsWrongFalsely : Prop := fnExactNormalProductsRow.holds Try.pinned (OpenSpec.ofChange fnExactNormalProductsWrong)

/-- 'laws.FnExactPlusMove': WHATEVER THE INPUT: true; the input reads as it did. -/
def fnExactPlusMoveSpec : ChangeSpec := { name := "fnExactPlusMove", fn := fun _ => fun
  | [d1, d2, d3] => { results := [.lit (.bool true)], args := [d1, d2, d3] }
  | _ => none }
def fnExactPlusMoveRow : OpenClaim := { program := "ytbgoopmmdbhogaa", sum := "47fa3ff4698ad2210354448519f95b5c664288ecf22b0d1c4ab1813d66064edd", func := "loop.example/g01262/laws.FnExactPlusMove", spec := "fnExactPlusMove", unfollowed := true, recurses := true, apart := false }
def FnExactPlusMoveSaid : Prop := fnExactPlusMoveRow.holds Try.pinned (OpenSpec.ofChange fnExactPlusMoveSpec)

/-- ITS FALSE NEIGHBOUR: 'it returns false'. Refute it at one input. -/
def fnExactPlusMoveWrong : ChangeSpec := { name := "fnExactPlusMove", fn := fun _ => fun
  | [d1, d2, d3] => { results := [.lit (.bool false)], args := [d1, d2, d3] }
  | _ => none }
def FnExactPlusMoveWrongFalsely : Prop := fnExactPlusMoveRow.holds Try.pinned (OpenSpec.ofChange fnExactPlusMoveWrong)

/-- 'laws.FnExactSplitProduct': WHATEVER THE INPUT: true; the input reads as it did. -/
def fnExactSplitProductSpec : ChangeSpec := { name := "fnExactSplitProduct", fn := fun _ => fun
  | [d1, d2, d3, d4] => { results := [.lit (.bool true)], args := [d1, d2, d3, d4] }
  | _ => none }
def fnExactSplitProductRow : OpenClaim := { program := "ytbgoopmmdbhogaa", sum := "47fa3ff4698ad2210354448519f95b5c664288ecf22b0d1c4ab1813d66064edd", func := "loop.example/g01262/laws.FnExactSplitProduct", spec := "fnExactSplitProduct", unfollowed := true, recurses := true, apart := false }
def FnExactSplitProductSaid : Prop := fnExactSplitProductRow.holds Try.pinned (OpenSpec.ofChange fnExactSplitProductSpec)

/-- ITS FALSE NEIGHBOUR: 'it returns false'. Refute it at one input. -/
def fnExactSplitProductWrong : ChangeSpec := { name := "fnExactSplitProduct", fn := fun _ => fun
  | [d1, d2, d3, d4] => { results := [.lit (.bool false)], args := [d1, d2, d3, d4] }
  | _ => none }
def FnExactSplitProductWrongFalsely : Prop := fnExactSplitProductRow.holds Try.pinned (OpenSpec.ofChange fnExactSplitProductWrong)

/-- 'laws.FnExactHaveEqualSums': WHATEVER THE INPUT: true; the input reads as it did. -/
def fnExactHaveEqualSumsSpec : ChangeSpec := { name := "fnExactHaveEqualSums", fn := fun _ => fun
  | [d1, d2] => { results := [.lit (.bool true)], args := [d1, d2] }
  | _ => none }
def fnExactHaveEqualSumsRow : OpenClaim := { program := "ytbgoopmmdbhogaa", sum := "47fa3ff4698ad2210354448519f95b5c664288ecf22b0d1c4ab1813d66064edd", func := "loop.example/g01262/laws.FnExactHaveEqualSums", spec := "fnExactHaveEqualSums", unfollowed := true, recurses := true, apart := false }
def FnExactHaveEqualSumsSaid : Prop := fnExactHaveEqualSumsRow.holds Try.pinned (OpenSpec.ofChange fnExactHaveEqualSumsSpec)

/-- ITS FALSE NEIGHBOUR: 'it returns false'. Refute it at one input. -/
def fnExactHaveEqualSumsWrong : ChangeSpec := { name := "fnExactHaveEqualSums", fn := fun _ => fun
  | [d1, d2] => { results := [.lit (.bool false)], args := [d1, d2] }
  | _ => none }
def FnExactHaveEqualSumsWrongFalsely : Prop := fnExactHaveEqualSumsRow.holds Try.pinned (OpenSpec.ofChange fnExactHaveEqualSumsWrong)

/- THE SECOND FORM. 'bulk': how many values and letters a reading holds, each counted each time it is reached (what is shared counts as often as it is met; a slice's spare places count too). A statement '..UptoSaid' is the law's where the arguments, and the package variables that the reading takes, are together of bulk at most 1048576: NARROWER than '..Said'. Prove '..Said' where nothing that the law and all that it calls make is longer than what came in: it says more and counts as full. Else prove '..UptoSaid'. A law counts once. -/
mutual
def uptoBulk {H : Type} : DataW H → Nat
  | .lit (.string bytes) => bytes.length + 1
  | .lit _ => 1
  | .nil => 1
  | .ptr d => uptoBulk d + 1
  | .slice elems spare => uptoBulkAll elems + uptoBulkAll spare + 1
  | .agg parts => uptoBulkAll parts + 1
  | .iface _ d => uptoBulk d + 1
  | .map entries => uptoBulkEntries entries + 1
  | .held _ => 1
def uptoBulkAll {H : Type} : List (DataW H) → Nat
  | [] => 0
  | d :: r => uptoBulk d + uptoBulkAll r
def uptoBulkEntries {H : Type} : List (Lit × DataW H) → Nat
  | [] => 0
  | x :: r => uptoBulkEntry x + uptoBulkEntries r
def uptoBulkEntry {H : Type} : Lit × DataW H → Nat
  | (.string bytes, d) => bytes.length + uptoBulk d + 1
  | (_, d) => uptoBulk d + 1
 end
def uptoSmall : (H : Type) → List (DataW H) → Bool := fun _ ds => decide (uptoBulkAll ds ≤ 1048576)
def OpenSpec.upto (s : _root_.Go.ChangeSpec) : _root_.Go.OpenSpec := { _root_.Go.OpenSpec.ofChange s with cond := some uptoSmall }

/-- 'laws.FnExactNormalProducts', WHERE WHAT IT READS IS OF BULK AT MOST 1048576: true; the input reads as it did. -/
def fnExactNormalProductsUptoRow : OpenClaim := { program := "ytbgoopmmdbhogaa", sum := "47fa3ff4698ad2210354448519f95b5c664288ecf22b0d1c4ab1813d66064edd", func := "loop.example/g01262/laws.FnExactNormalProducts", spec := "fnExactNormalProducts", unfollowed := true, recurses := true, apart := false, narrowed := true }
def FnExactNormalProductsUptoSaid : Prop := fnExactNormalProductsUptoRow.holds Try.pinned (OpenSpec.upto fnExactNormalProductsSpec)

/-- 'laws.FnExactPlusMove', WHERE WHAT IT READS IS OF BULK AT MOST 1048576: true; the input reads as it did. -/
def fnExactPlusMoveUptoRow : OpenClaim := { program := "ytbgoopmmdbhogaa", sum := "47fa3ff4698ad2210354448519f95b5c664288ecf22b0d1c4ab1813d66064edd", func := "loop.example/g01262/laws.FnExactPlusMove", spec := "fnExactPlusMove", unfollowed := true, recurses := true, apart := false, narrowed := true }
def FnExactPlusMoveUptoSaid : Prop := fnExactPlusMoveUptoRow.holds Try.pinned (OpenSpec.upto fnExactPlusMoveSpec)

/-- 'laws.FnExactSplitProduct', WHERE WHAT IT READS IS OF BULK AT MOST 1048576: true; the input reads as it did. -/
def fnExactSplitProductUptoRow : OpenClaim := { program := "ytbgoopmmdbhogaa", sum := "47fa3ff4698ad2210354448519f95b5c664288ecf22b0d1c4ab1813d66064edd", func := "loop.example/g01262/laws.FnExactSplitProduct", spec := "fnExactSplitProduct", unfollowed := true, recurses := true, apart := false, narrowed := true }
def FnExactSplitProductUptoSaid : Prop := fnExactSplitProductUptoRow.holds Try.pinned (OpenSpec.upto fnExactSplitProductSpec)

/-- 'laws.FnExactHaveEqualSums', WHERE WHAT IT READS IS OF BULK AT MOST 1048576: true; the input reads as it did. -/
def fnExactHaveEqualSumsUptoRow : OpenClaim := { program := "ytbgoopmmdbhogaa", sum := "47fa3ff4698ad2210354448519f95b5c664288ecf22b0d1c4ab1813d66064edd", func := "loop.example/g01262/laws.FnExactHaveEqualSums", spec := "fnExactHaveEqualSums", unfollowed := true, recurses := true, apart := false, narrowed := true }
def FnExactHaveEqualSumsUptoSaid : Prop := fnExactHaveEqualSumsUptoRow.holds Try.pinned (OpenSpec.upto fnExactHaveEqualSumsSpec)

end Rows
end Go.Proofs.Ytbgoopmmdbhogaa
