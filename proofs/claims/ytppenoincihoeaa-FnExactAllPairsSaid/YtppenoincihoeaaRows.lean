/-
  No cell of these rows narrows 'for every input' (looked for: loops, veiled, ifaces, maps, wideKeys, modest, calm, conditions, laid).
  DERIVED. THE GIVEN ROWS OF THIS SEAT. 4 by the template 'for every input the law returns true; each argument reads behind the call as it read before'; 0 by the template 'total and deterministic' (their statements: YtppenoincihoeaaTotals.lean).
  GIVEN WITH THE SEED: the statements are not yours to turn. If you find one false, say at which input.
  Laid BY PROGRAM, IN A SANDBOX (cutbox-rows.mjs): the forced cells as the released guide's own fill.sh prints them over the translation 2339aeca93d580f0… (all of the seat's roots in one cut). By AI agents, Wed Nov 11 2026. No macro, syntax, notation, axiom, sorry.
-/
import Derived.Test.YtppenoincihoeaaChecked
import GoSem.Claim
import GoSem.ClaimJoined
import GoSem.ClaimMapViews
import Derived.JoinedTies
import Derived.KernelRfl
namespace Go.Proofs.Ytppenoincihoeaa
/- THE CELL 'sum', in the pinned program and in every row, IS THE sha256 OF THE DUMP (.gsa) THAT YtppenoincihoeaaProg.lean LOADS. Nothing in Lean hashes anything: it is a label: what it is worth is what the hold of that sum in a sandbox is worth. -/
noncomputable def Try.pinned : Pinned := { name := "ytppenoincihoeaa", sum := "2339aeca93d580f07716bc5a1b4802c1c1711dde555dcc2a1725cb95684bf191", checked := Try.checked }
namespace Rows
def none {H : Type} : Left H := { results := [], args := [] }

/-- 'laws.FnExactFlipProducts': WHATEVER THE INPUT: true; the input reads as it did. -/
def fnExactFlipProductsSpec : ChangeSpec := { name := "fnExactFlipProducts", fn := fun _ => fun
  | [d1, d2, d3, d4, d5] => { results := [.lit (.bool true)], args := [d1, d2, d3, d4, d5] }
  | _ => none }
def fnExactFlipProductsRow : OpenClaim := { program := "ytppenoincihoeaa", sum := "2339aeca93d580f07716bc5a1b4802c1c1711dde555dcc2a1725cb95684bf191", func := "loop.example/g01262/laws.FnExactFlipProducts", spec := "fnExactFlipProducts", unfollowed := true, recurses := true, apart := false }
def FnExactFlipProductsSaid : Prop := fnExactFlipProductsRow.holds Try.pinned (OpenSpec.ofChange fnExactFlipProductsSpec)

/-- ITS FALSE NEIGHBOUR: 'it returns false'. Refute it at one input. -/
def fnExactFlipProductsWrong : ChangeSpec := { name := "fnExactFlipProducts", fn := fun _ => fun
  | [d1, d2, d3, d4, d5] => { results := [.lit (.bool false)], args := [d1, d2, d3, d4, d5] }
  | _ => none }
def FnExactFlipProductsWrongFalsely : Prop := fnExactFlipProductsRow.holds Try.pinned (OpenSpec.ofChange fnExactFlipProductsWrong)

/-- 'laws.FnExactWalkScheme': WHATEVER THE INPUT: true; the input reads as it did. -/
def fnExactWalkSchemeSpec : ChangeSpec := { name := "fnExactWalkScheme", fn := fun _ => fun
  | [d1, d2, d3] => { results := [.lit (.bool true)], args := [d1, d2, d3] }
  | _ => none }
def fnExactWalkSchemeRow : OpenClaim := { program := "ytppenoincihoeaa", sum := "2339aeca93d580f07716bc5a1b4802c1c1711dde555dcc2a1725cb95684bf191", func := "loop.example/g01262/laws.FnExactWalkScheme", spec := "fnExactWalkScheme", unfollowed := true, recurses := true, apart := false }
def FnExactWalkSchemeSaid : Prop := fnExactWalkSchemeRow.holds Try.pinned (OpenSpec.ofChange fnExactWalkSchemeSpec)

/-- ITS FALSE NEIGHBOUR: 'it returns false'. Refute it at one input. -/
def fnExactWalkSchemeWrong : ChangeSpec := { name := "fnExactWalkScheme", fn := fun _ => fun
  | [d1, d2, d3] => { results := [.lit (.bool false)], args := [d1, d2, d3] }
  | _ => none }
def FnExactWalkSchemeWrongFalsely : Prop := fnExactWalkSchemeRow.holds Try.pinned (OpenSpec.ofChange fnExactWalkSchemeWrong)

/-- 'laws.FnExactPairsOf': WHATEVER THE INPUT: true; the input reads as it did. -/
def fnExactPairsOfSpec : ChangeSpec := { name := "fnExactPairsOf", fn := fun _ => fun
  | [d] => { results := [.lit (.bool true)], args := [d] }
  | _ => none }
def fnExactPairsOfRow : OpenClaim := { program := "ytppenoincihoeaa", sum := "2339aeca93d580f07716bc5a1b4802c1c1711dde555dcc2a1725cb95684bf191", func := "loop.example/g01262/laws.FnExactPairsOf", spec := "fnExactPairsOf", unfollowed := true, recurses := true, apart := false }
def FnExactPairsOfSaid : Prop := fnExactPairsOfRow.holds Try.pinned (OpenSpec.ofChange fnExactPairsOfSpec)

/-- ITS FALSE NEIGHBOUR: 'it returns false'. Refute it at one input. -/
def fnExactPairsOfWrong : ChangeSpec := { name := "fnExactPairsOf", fn := fun _ => fun
  | [d] => { results := [.lit (.bool false)], args := [d] }
  | _ => none }
def FnExactPairsOfWrongFalsely : Prop := fnExactPairsOfRow.holds Try.pinned (OpenSpec.ofChange fnExactPairsOfWrong)

/-- 'laws.FnExactAllPairs': WHATEVER THE INPUT: true; the input reads as it did. -/
def fnExactAllPairsSpec : ChangeSpec := { name := "fnExactAllPairs", fn := fun _ => fun
  | [d1, d2, d3] => { results := [.lit (.bool true)], args := [d1, d2, d3] }
  | _ => none }
def fnExactAllPairsRow : OpenClaim := { program := "ytppenoincihoeaa", sum := "2339aeca93d580f07716bc5a1b4802c1c1711dde555dcc2a1725cb95684bf191", func := "loop.example/g01262/laws.FnExactAllPairs", spec := "fnExactAllPairs", apart := false }
def FnExactAllPairsSaid : Prop := fnExactAllPairsRow.holds Try.pinned (OpenSpec.ofChange fnExactAllPairsSpec)

/-- ITS FALSE NEIGHBOUR: 'it returns false'. Refute it at one input. -/
def fnExactAllPairsWrong : ChangeSpec := { name := "fnExactAllPairs", fn := fun _ => fun
  | [d1, d2, d3] => { results := [.lit (.bool false)], args := [d1, d2, d3] }
  | _ => none }
def FnExactAllPairsWrongFalsely : Prop := fnExactAllPairsRow.holds Try.pinned (OpenSpec.ofChange fnExactAllPairsWrong)

/- THE SECOND FORM. 'bulk': how many values and letters a reading holds, each counted each time it is reached (what is shared counts as often as it is met; a slice's spare places count too). A statement '..UptoSaid' is the law's where the arguments, and the package variables that the reading takes, are together of bulk at most 1048576: NARROWER than '..Said'. Prove '..Said' where nothing that the law and all that it calls make is longer than what came in: it says more and counts as full. Else prove '..UptoSaid'. A law counts once. -/
mutual
def uptoBulk {H : Type} : DataW H → Nat
  | .lit (.string bytes) => bytes.length + 1
  | .lit _ => 1
  | .nil => 1
  | .ptr d => uptoBulk d + 1
  | .slice elems spare => uptoBulkAll elems + uptoBulkAll spare + 1
  | .agg parts => uptoBulkAll parts + 1
  | .iface _ d => uptoBulk d + 1
  | .map entries => uptoBulkEntries entries + 1
  | .held _ => 1
def uptoBulkAll {H : Type} : List (DataW H) → Nat
  | [] => 0
  | d :: r => uptoBulk d + uptoBulkAll r
def uptoBulkEntries {H : Type} : List (Lit × DataW H) → Nat
  | [] => 0
  | x :: r => uptoBulkEntry x + uptoBulkEntries r
def uptoBulkEntry {H : Type} : Lit × DataW H → Nat
  | (.string bytes, d) => bytes.length + uptoBulk d + 1
  | (_, d) => uptoBulk d + 1
 end
def uptoSmall : (H : Type) → List (DataW H) → Bool := fun _ ds => decide (uptoBulkAll ds ≤ 1048576)
def OpenSpec.upto (s : _root_.Go.ChangeSpec) : _root_.Go.OpenSpec := { _root_.Go.OpenSpec.ofChange s with cond := some uptoSmall }

/-- 'laws.FnExactFlipProducts', WHERE WHAT IT READS IS OF BULK AT MOST 1048576: true; the input reads as it did. -/
def fnExactFlipProductsUptoRow : OpenClaim := { program := "ytppenoincihoeaa", sum := "2339aeca93d580f07716bc5a1b4802c1c1711dde555dcc2a1725cb95684bf191", func := "loop.example/g01262/laws.FnExactFlipProducts", spec := "fnExactFlipProducts", unfollowed := true, recurses := true, apart := false, narrowed := true }
def FnExactFlipProductsUptoSaid : Prop := fnExactFlipProductsUptoRow.holds Try.pinned (OpenSpec.upto fnExactFlipProductsSpec)

/-- 'laws.FnExactWalkScheme', WHERE WHAT IT READS IS OF BULK AT MOST 1048576: true; the input reads as it did. -/
def fnExactWalkSchemeUptoRow : OpenClaim := { program := "ytppenoincihoeaa", sum := "2339aeca93d580f07716bc5a1b4802c1c1711dde555dcc2a1725cb95684bf191", func := "loop.example/g01262/laws.FnExactWalkScheme", spec := "fnExactWalkScheme", unfollowed := true, recurses := true, apart := false, narrowed := true }
def FnExactWalkSchemeUptoSaid : Prop := fnExactWalkSchemeUptoRow.holds Try.pinned (OpenSpec.upto fnExactWalkSchemeSpec)

/-- 'laws.FnExactPairsOf', WHERE WHAT IT READS IS OF BULK AT MOST 1048576: true; the input reads as it did. -/
def fnExactPairsOfUptoRow : OpenClaim := { program := "ytppenoincihoeaa", sum := "2339aeca93d580f07716bc5a1b4802c1c1711dde555dcc2a1725cb95684bf191", func := "loop.example/g01262/laws.FnExactPairsOf", spec := "fnExactPairsOf", unfollowed := true, recurses := true, apart := false, narrowed := true }
def FnExactPairsOfUptoSaid : Prop := fnExactPairsOfUptoRow.holds Try.pinned (OpenSpec.upto fnExactPairsOfSpec)

/-- 'laws.FnExactAllPairs', WHERE WHAT IT READS IS OF BULK AT MOST 1048576: true; the input reads as it did. -/
def fnExactAllPairsUptoRow : OpenClaim := { program := "ytppenoincihoeaa", sum := "2339aeca93d580f07716bc5a1b4802c1c1711dde555dcc2a1725cb95684bf191", func := "loop.example/g01262/laws.FnExactAllPairs", spec := "fnExactAllPairs", apart := false, narrowed := true }
def FnExactAllPairsUptoSaid : Prop := fnExactAllPairsUptoRow.holds Try.pinned (OpenSpec.upto fnExactAllPairsSpec)

end Rows
end Go.Proofs.Ytppenoincihoeaa
