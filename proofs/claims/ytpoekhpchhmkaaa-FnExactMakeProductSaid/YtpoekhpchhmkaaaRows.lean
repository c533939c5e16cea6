/-
  No cell of these rows narrows 'for every input' (looked for: loops, veiled, ifaces, maps, wideKeys, modest, calm, conditions, laid).
  DERIVED. THE GIVEN ROWS OF THIS SEAT. 4 by the template 'for every input the law returns true; each argument reads behind the call as it read before'; 0 by the template 'total and deterministic' (their statements: YtpoekhpchhmkaaaTotals.lean).
  GIVEN WITH THE SEED: the statements are not yours to turn. If you find one false, say at which input.
  Laid BY PROGRAM, IN A SANDBOX (cutbox-rows.mjs): the forced cells as the released guide's own fill.sh prints them over the translation 14c39c4d8e586233… (all of the seat's roots in one cut). By AI agents, Wed Nov 11 2026. No macro, syntax, notation, axiom, sorry.
-/
import Derived.Test.YtpoekhpchhmkaaaChecked
import GoSem.Claim
import GoSem.ClaimJoined
import GoSem.ClaimMapViews
import Derived.JoinedTies
import Derived.KernelRfl
namespace Go.Proofs.Ytpoekhpchhmkaaa
/- THE CELL 'sum', in the pinned program and in every row, IS THE sha256 OF THE DUMP (.gsa) THAT YtpoekhpchhmkaaaProg.lean LOADS. Nothing in Lean hashes anything: it is a label: what it is worth is what the hold of that sum in a sandbox is worth. -/
noncomputable def Try.pinned : Pinned := { name := "ytpoekhpchhmkaaa", sum := "14c39c4d8e586233eaef7db139396c153cac199100259e5ebfa18643b9747bdb", checked := Try.checked }
namespace Rows
def none {H : Type} : Left H := { results := [], args := [] }

/-- 'laws.FnExactAddProduct': WHATEVER THE INPUT: true; the input reads as it did. -/
def fnExactAddProductSpec : ChangeSpec := { name := "fnExactAddProduct", fn := fun _ => fun
  | [d1, d2] => { results := [.lit (.bool true)], args := [d1, d2] }
  | _ => none }
def fnExactAddProductRow : OpenClaim := { program := "ytpoekhpchhmkaaa", sum := "14c39c4d8e586233eaef7db139396c153cac199100259e5ebfa18643b9747bdb", func := "loop.example/g01262/laws.FnExactAddProduct", spec := "fnExactAddProduct", unfollowed := true, recurses := true, apart := false }
def FnExactAddProductSaid : Prop := fnExactAddProductRow.holds Try.pinned (OpenSpec.ofChange fnExactAddProductSpec)

/-- ITS FALSE NEIGHBOUR: 'it returns false'. Refute it at one input. -/
def fnExactAddProductWrong : ChangeSpec := { name := "fnExactAddProduct", fn := fun _ => fun
  | [d1, d2] => { results := [.lit (.bool false)], args := [d1, d2] }
  | _ => none }
def FnExactAddProductWrongFalsely : Prop := fnExactAddProductRow.holds Try.pinned (OpenSpec.ofChange fnExactAddProductWrong)

/-- 'laws.FnExactWithoutProduct': WHATEVER THE INPUT: true; the input reads as it did. -/
def fnExactWithoutProductSpec : ChangeSpec := { name := "fnExactWithoutProduct", fn := fun _ => fun
  | [d1, d2] => { results := [.lit (.bool true)], args := [d1, d2] }
  | _ => none }
def fnExactWithoutProductRow : OpenClaim := { program := "ytpoekhpchhmkaaa", sum := "14c39c4d8e586233eaef7db139396c153cac199100259e5ebfa18643b9747bdb", func := "loop.example/g01262/laws.FnExactWithoutProduct", spec := "fnExactWithoutProduct", unfollowed := true, recurses := true, apart := false }
def FnExactWithoutProductSaid : Prop := fnExactWithoutProductRow.holds Try.pinned (OpenSpec.ofChange fnExactWithoutProductSpec)

/-- ITS FALSE NEIGHBOUR: 'it returns false'. Refute it at one input. -/
def fnExactWithoutProductWrong : ChangeSpec := { name := "fnExactWithoutProduct", fn := fun _ => fun
  | [d1, d2] => { results := [.lit (.bool false)], args := [d1, d2] }
  | _ => none }
def FnExactWithoutProductWrongFalsely : Prop := fnExactWithoutProductRow.holds Try.pinned (OpenSpec.ofChange fnExactWithoutProductWrong)

/-- 'laws.FnExactMakeProduct': WHATEVER THE INPUT: true; the input reads as it did. -/
def fnExactMakeProductSpec : ChangeSpec := { name := "fnExactMakeProduct", fn := fun _ => fun
  | [d1, d2, d3] => { results := [.lit (.bool true)], args := [d1, d2, d3] }
  | _ => none }
def fnExactMakeProductRow : OpenClaim := { program := "ytpoekhpchhmkaaa", sum := "14c39c4d8e586233eaef7db139396c153cac199100259e5ebfa18643b9747bdb", func := "loop.example/g01262/laws.FnExactMakeProduct", spec := "fnExactMakeProduct", unfollowed := true, recurses := true, apart := false }
def FnExactMakeProductSaid : Prop := fnExactMakeProductRow.holds Try.pinned (OpenSpec.ofChange fnExactMakeProductSpec)

/-- ITS FALSE NEIGHBOUR: 'it returns false'. Refute it at one input. -/
def fnExactMakeProductWrong : ChangeSpec := { name := "fnExactMakeProduct", fn := fun _ => fun
  | [d1, d2, d3] => { results := [.lit (.bool false)], args := [d1, d2, d3] }
  | _ => none }
def FnExactMakeProductWrongFalsely : Prop := fnExactMakeProductRow.holds Try.pinned (OpenSpec.ofChange fnExactMakeProductWrong)

/-- 'laws.FnExactPlainProduct': WHATEVER THE INPUT: true; the input reads as it did. -/
def fnExactPlainProductSpec : ChangeSpec := { name := "fnExactPlainProduct", fn := fun _ => fun
  | [d1, d2, d3] => { results := [.lit (.bool true)], args := [d1, d2, d3] }
  | _ => none }
def fnExactPlainProductRow : OpenClaim := { program := "ytpoekhpchhmkaaa", sum := "14c39c4d8e586233eaef7db139396c153cac199100259e5ebfa18643b9747bdb", func := "loop.example/g01262/laws.FnExactPlainProduct", spec := "fnExactPlainProduct", unfollowed := true, recurses := true, apart := false }
def FnExactPlainProductSaid : Prop := fnExactPlainProductRow.holds Try.pinned (OpenSpec.ofChange fnExactPlainProductSpec)

/-- ITS FALSE NEIGHBOUR: 'it returns false'. Refute it at one input. -/
def fnExactPlainProductWrong : ChangeSpec := { name := "fnExactPlainProduct", fn := fun _ => fun
  | [d1, d2, d3] => { results := [.lit (.bool false)], args := [d1, d2, d3] }
  | _ => none }
def FnExactPlainProductWrongFalsely : Prop := fnExactPlainProductRow.holds Try.pinned (OpenSpec.ofChange fnExactPlainProductWrong)

/- THE SECOND FORM. 'bulk': how many values and letters a reading holds, each counted each time it is reached (what is shared counts as often as it is met; a slice's spare places count too). A statement '..UptoSaid' is the law's where the arguments, and the package variables that the reading takes, are together of bulk at most 1048576: NARROWER than '..Said'. Prove '..Said' where nothing that the law and all that it calls make is longer than what came in: it says more and counts as full. Else prove '..UptoSaid'. A law counts once. -/
mutual
def uptoBulk {H : Type} : DataW H → Nat
  | .lit (.string bytes) => bytes.length + 1
  | .lit _ => 1
  | .nil => 1
  | .ptr d => uptoBulk d + 1
  | .slice elems spare => uptoBulkAll elems + uptoBulkAll spare + 1
  | .agg parts => uptoBulkAll parts + 1
  | .iface _ d => uptoBulk d + 1
  | .map entries => uptoBulkEntries entries + 1
  | .held _ => 1
def uptoBulkAll {H : Type} : List (DataW H) → Nat
  | [] => 0
  | d :: r => uptoBulk d + uptoBulkAll r
def uptoBulkEntries {H : Type} : List (Lit × DataW H) → Nat
  | [] => 0
  | x :: r => uptoBulkEntry x + uptoBulkEntries r
def uptoBulkEntry {H : Type} : Lit × DataW H → Nat
  | (.string bytes, d) => bytes.length + uptoBulk d + 1
  | (_, d) => uptoBulk d + 1
 end
def uptoSmall : (H : Type) → List (DataW H) → Bool := fun _ ds => decide (uptoBulkAll ds ≤ 1048576)
def OpenSpec.upto (s : _root_.Go.ChangeSpec) : _root_.Go.OpenSpec := { _root_.Go.OpenSpec.ofChange s with cond := some uptoSmall }

/-- 'laws.FnExactAddProduct', WHERE WHAT IT READS IS OF BULK AT MOST 1048576: true; the input reads as it did. -/
def fnExactAddProductUptoRow : OpenClaim := { program := "ytpoekhpchhmkaaa", sum := "14c39c4d8e586233eaef7db139396c153cac199100259e5ebfa18643b9747bdb", func := "loop.example/g01262/laws.FnExactAddProduct", spec := "fnExactAddProduct", unfollowed := true, recurses := true, apart := false, narrowed := true }
def FnExactAddProductUptoSaid : Prop := fnExactAddProductUptoRow.holds Try.pinned (OpenSpec.upto fnExactAddProductSpec)

/-- 'laws.FnExactWithoutProduct', WHERE WHAT IT READS IS OF BULK AT MOST 1048576: true; the input reads as it did. -/
def fnExactWithoutProductUptoRow : OpenClaim := { program := "ytpoekhpchhmkaaa", sum := "14c39c4d8e586233eaef7db139396c153cac199100259e5ebfa18643b9747bdb", func := "loop.example/g01262/laws.FnExactWithoutProduct", spec := "fnExactWithoutProduct", unfollowed := true, recurses := true, apart := false, narrowed := true }
def FnExactWithoutProductUptoSaid : Prop := fnExactWithoutProductUptoRow.holds Try.pinned (OpenSpec.upto fnExactWithoutProductSpec)

/-- 'laws.FnExactMakeProduct', WHERE WHAT IT READS IS OF BULK AT MOST 1048576: true; the input reads as it did. -/
def fnExactMakeProductUptoRow : OpenClaim := { program := "ytpoekhpchhmkaaa", sum := "14c39c4d8e586233eaef7db139396c153cac199100259e5ebfa18643b9747bdb", func := "loop.example/g01262/laws.FnExactMakeProduct", spec := "fnExactMakeProduct", unfollowed := true, recurses := true, apart := false, narrowed := true }
def FnExactMakeProductUptoSaid : Prop := fnExactMakeProductUptoRow.holds Try.pinned (OpenSpec.upto fnExactMakeProductSpec)

/-- 'laws.FnExactPlainProduct', WHERE WHAT IT READS IS OF BULK AT MOST 1048576: true; the input reads as it did. -/
def fnExactPlainProductUptoRow : OpenClaim := { program := "ytpoekhpchhmkaaa", sum := "14c39c4d8e586233eaef7db139396c153cac199100259e5ebfa18643b9747bdb", func := "loop.example/g01262/laws.FnExactPlainProduct", spec := "fnExactPlainProduct", unfollowed := true, recurses := true, apart := false, narrowed := true }
def FnExactPlainProductUptoSaid : Prop := fnExactPlainProductUptoRow.holds Try.pinned (OpenSpec.upto fnExactPlainProductSpec)

end Rows
end Go.Proofs.Ytpoekhpchhmkaaa
