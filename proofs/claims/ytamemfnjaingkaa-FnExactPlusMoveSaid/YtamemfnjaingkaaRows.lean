/-
  No cell of these rows narrows 'for every input' (looked for: loops, veiled, ifaces, maps, wideKeys, modest, calm, conditions, laid).
  DERIVED. THE GIVEN ROWS OF THIS SEAT. 4 by the template 'for every input the law returns true; each argument reads behind the call as it read before'; 0 by the template 'total and deterministic' (their statements: YtamemfnjaingkaaTotals.lean).
  GIVEN WITH THE SEED: the statements are not yours to turn. If you find one false, say at which input.
  Laid BY PROGRAM, IN A SANDBOX (cutbox-rows.mjs): the forced cells as the released guide's own fill.sh prints them over the translation c90d89a08e6e365f… (all of the seat's roots in one cut). By AI agents, Wed Nov 11 2026. No macro, syntax, notation, axiom, sorry.
-/
import Derived.Test.YtamemfnjaingkaaChecked
import GoSem.Claim
import GoSem.ClaimJoined
import GoSem.ClaimMapViews
import Derived.JoinedTies
import Derived.KernelRfl
namespace Go.Proofs.Ytamemfnjaingkaa
/- THE CELL 'sum', in the pinned program and in every row, IS THE sha256 OF THE DUMP (.gsa) THAT YtamemfnjaingkaaProg.lean LOADS. Nothing in Lean hashes anything: it is a label: what it is worth is what the hold of that sum in a sandbox is worth. -/
noncomputable def Try.pinned : Pinned := { name := "ytamemfnjaingkaa", sum := "c90d89a08e6e365fc21f4e6c58bb403c14f9b3631807f78546f8700e4a55c176", checked := Try.checked }
namespace Rows
def none {H : Type} : Left H := { results := [], args := [] }

/-- 'laws.FnExactNormalProducts': WHATEVER THE INPUT: true; the input reads as it did. -/
def fnExactNormalProductsSpec : ChangeSpec := { name := "fnExactNormalProducts", fn := fun _ => fun
  | [d] => { results := [.lit (.bool true)], args := [d] }
  | _ => none }
def fnExactNormalProductsRow : OpenClaim := { program := "ytamemfnjaingkaa", sum := "c90d89a08e6e365fc21f4e6c58bb403c14f9b3631807f78546f8700e4a55c176", func := "loop.example/g01262/laws.FnExactNormalProducts", spec := "fnExactNormalProducts", unfollowed := true, recurses := true, apart := false }
def FnExactNormalProductsSaid : Prop := fnExactNormalProductsRow.holds Try.pinned (OpenSpec.ofChange fnExactNormalProductsSpec)

/-- ITS FALSE NEIGHBOUR: 'it returns false'. Refute it at one input. -/
def fnExactNormalProductsWrong : ChangeSpec := { name := "fnExactNormalProducts", fn := fun _ => fun
  | [d] => { results := [.lit (.bool false)], args := [d] }
  | _ => none }
def FnExactNormalProductsWrongFalsely : Prop := fnExactNormalProductsRow.holds Try.pinned (OpenSpec.ofChange fnExactNormalProductsWrong)

/-- 'laws.FnExactPlusMove': WHATEVER THE INPUT: true; the input reads as it did. -/
def fnExactPlusMoveSpec : ChangeSpec := { name := "fnExactPlusMove", fn := fun _ => fun
  | [d1, d2, d3] => { results := [.lit (.bool true)], args := [d1, d2, d3] }
  | _ => none }
def fnExactPlusMoveRow : OpenClaim := { program := "ytamemfnjaingkaa", sum := "c90d89a08e6e365fc21f4e6c58bb403c14f9b3631807f78546f8700e4a55c176", func := "loop.example/g01262/laws.FnExactPlusMove", spec := "fnExactPlusMove", unfollowed := true, recurses := true, apart := false }
def FnExactPlusMoveSaid : Prop := fnExactPlusMoveRow.holds Try.pinned (OpenSpec.ofChange fnExactPlusMoveSpec)

/-- ITS FALSE NEIGHBOUR: 'it returns false'. Refute it at one input. -/
def fnExactPlusMoveWrong : ChangeSpec := { name := "fnExactPlusMove", fn := fun _ => fun
  | [d1, d2, d3] => { results := [.lit (.bool false)], args := [d1, d2, d3] }
  | _ => none }
def FnExactPlusMoveWrongFalsely : Prop := fnExactPlusMoveRow.holds Try.pinned (OpenSpec.ofChange fnExactPlusMoveWrong)

/-- 'laws.FnExactFlipProducts': WHATEVER THE INPUT: true; the input reads as it did. -/
def fnExactFlipProductsSpec : ChangeSpec := { name := "fnExactFlipProducts", fn := fun _ => fun
  | [d1, d2, d3, d4, d5] => { results := [.lit (.bool true)], args := [d1, d2, d3, d4, d5] }
  | _ => none }
def fnExactFlipProductsRow : OpenClaim := { program := "ytamemfnjaingkaa", sum := "c90d89a08e6e365fc21f4e6c58bb403c14f9b3631807f78546f8700e4a55c176", func := "loop.example/g01262/laws.FnExactFlipProducts", spec := "fnExactFlipProducts", unfollowed := true, recurses := true, apart := false }
def FnExactFlipProductsSaid : Prop := fnExactFlipProductsRow.holds Try.pinned (OpenSpec.ofChange fnExactFlipProductsSpec)

/-- ITS FALSE NEIGHBOUR: 'it returns false'. Refute it at one input. -/
def fnExactFlipProductsWrong : ChangeSpec := { name := "fnExactFlipProducts", fn := fun _ => fun
  | [d1, d2, d3, d4, d5] => { results := [.lit (.bool false)], args := [d1, d2, d3, d4, d5] }
  | _ => none }
def FnExactFlipProductsWrongFalsely : Prop := fnExactFlipProductsRow.holds Try.pinned (OpenSpec.ofChange fnExactFlipProductsWrong)

/-- 'laws.FnExactSplitProduct': WHATEVER THE INPUT: true; the input reads as it did. -/
def fnExactSplitProductSpec : ChangeSpec := { name := "fnExactSplitProduct", fn := fun _ => fun
  | [d1, d2, d3, d4] => { results := [.lit (.bool true)], args := [d1, d2, d3, d4] }
  | _ => none }
def fnExactSplitProductRow : OpenClaim := { program := "ytamemfnjaingkaa", sum := "c90d89a08e6e365fc21f4e6c58bb403c14f9b3631807f78546f8700e4a55c176", func := "loop.example/g01262/laws.FnExactSplitProduct", spec := "fnExactSplitProduct", apart := false }
def FnExactSplitProductSaid : Prop := fnExactSplitProductRow.holds Try.pinned (OpenSpec.ofChange fnExactSplitProductSpec)

/-- ITS FALSE NEIGHBOUR: 'it returns false'. Refute it at one input. -/
def fnExactSplitProductWrong : ChangeSpec := { name := "fnExactSplitProduct", fn := fun _ => fun
  | [d1, d2, d3, d4] => { results := [.lit (.bool false)], args := [d1, d2, d3, d4] }
  | _ => none }
def FnExactSplitProductWrongFalsely : Prop := fnExactSplitProductRow.holds Try.pinned (OpenSpec.ofChange fnExactSplitProductWrong)

/- THE SECOND FORM. 'bulk': how many values and letters a reading holds, each counted each time it is reached (what is shared counts as often as it is met; a slice's spare places count too). A statement '..UptoSaid' is the law's where the arguments, and the package variables that the reading takes, are together of bulk at most 1048576: NARROWER than '..Said'. Prove '..Said' where nothing that the law and all that it calls make is longer than what came in: it says more and counts as full. Else prove '..UptoSaid'. A law counts once. -/
mutual
def uptoBulk {H : Type} : DataW H → Nat
  | .lit (.string bytes) => bytes.length + 1
  | .lit _ => 1
  | .nil => 1
  | .ptr d => uptoBulk d + 1
  | .slice elems spare => uptoBulkAll elems + uptoBulkAll spare + 1
  | .agg parts => uptoBulkAll parts + 1
  | .iface _ d => uptoBulk d + 1
  | .map entries => uptoBulkEntries entries + 1
  | .held _ => 1
def uptoBulkAll {H : Type} : List (DataW H) → Nat
  | [] => 0
  | d :: r => uptoBulk d + uptoBulkAll r
def uptoBulkEntries {H : Type} : List (Lit × DataW H) → Nat
  | [] => 0
  | x :: r => uptoBulkEntry x + uptoBulkEntries r
def uptoBulkEntry {H : Type} : Lit × DataW H → Nat
  | (.string bytes, d) => bytes.length + uptoBulk d + 1
  | (_, d) => uptoBulk d + 1
 end
def uptoSmall : (H : Type) → List (DataW H) → Bool := fun _ ds => decide (uptoBulkAll ds ≤ 1048576)
def OpenSpec.upto (s : _root_.Go.ChangeSpec) : _root_.Go.OpenSpec := { _root_.Go.OpenSpec.ofChange s with cond := some uptoSmall }

/-- 'laws.FnExactNormalProducts', WHERE WHAT IT READS IS OF BULK AT MOST 1048576: true; the input reads as it did. -/
def fnExactNormalProductsUptoRow : OpenClaim := { program := "ytamemfnjaingkaa", sum := "c90d89a08e6e365fc21f4e6c58bb403c14f9b3631807f78546f8700e4a55c176", func := "loop.example/g01262/laws.FnExactNormalProducts", spec := "fnExactNormalProducts", unfollowed := true, recurses := true, apart := false, narrowed := true }
def FnExactNormalProductsUptoSaid : Prop := fnExactNormalProductsUptoRow.holds Try.pinned (OpenSpec.upto fnExactNormalProductsSpec)

/-- 'laws.FnExactPlusMove', WHERE WHAT IT READS IS OF BULK AT MOST 1048576: true; the input reads as it did. -/
def fnExactPlusMoveUptoRow : OpenClaim := { program := "ytamemfnjaingkaa", sum := "c90d89a08e6e365fc21f4e6c58bb403c14f9b3631807f78546f8700e4a55c176", func := "loop.example/g01262/laws.FnExactPlusMove", spec := "fnExactPlusMove", unfollowed := true, recurses := true, apart := false, narrowed := true }
def FnExactPlusMoveUptoSaid : Prop := fnExactPlusMoveUptoRow.holds Try.pinned (OpenSpec.upto fnExactPlusMoveSpec)

/-- 'laws.FnExactFlipProducts', WHERE WHAT IT READS IS OF BULK AT MOST 1048576: true; the input reads as it did. -/
def fnExactFlipProductsUptoRow : OpenClaim := { program := "ytamemfnjaingkaa", sum := "c90d89a08e6e365fc21f4e6c58bb403c14f9b3631807f78546f8700e4a55c176", func := "loop.example/g01262/laws.FnExactFlipProducts", spec := "fnExactFlipProducts", unfollowed := true, recurses := true, apart := false, narrowed := true }
def FnExactFlipProductsUptoSaid : Prop := fnExactFlipProductsUptoRow.holds Try.pinned (OpenSpec.upto fnExactFlipProductsSpec)

/-- 'laws.FnExactSplitProduct', WHERE WHAT IT READS IS OF BULK AT MOST 1048576: true; the input reads as it did. -/
def fnExactSplitProductUptoRow : OpenClaim := { program := "ytamemfnjaingkaa", sum := "c90d89a08e6e365fc21f4e6c58bb403c14f9b3631807f78546f8700e4a55c176", func := "loop.example/g01262/laws.FnExactSplitProduct", spec := "fnExactSplitProduct", apart := false, narrowed := true }
def FnExactSplitProductUptoSaid : Prop := fnExactSplitProductUptoRow.holds Try.pinned (OpenSpec.upto fnExactSplitProductSpec)

end Rows
end Go.Proofs.Ytamemfnjaingkaa
