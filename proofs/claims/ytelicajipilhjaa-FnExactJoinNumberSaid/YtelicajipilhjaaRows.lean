/-
  No cell of these rows narrows 'for every input' (looked for: loops, veiled, ifaces, maps, wideKeys, modest, calm, conditions, laid).
  DERIVED. THE GIVEN ROWS OF THIS SEAT. 5 by the template 'for every input the law returns true; each argument reads behind the call as it read before'; 0 by the template 'total and deterministic' (their statements: YtelicajipilhjaaTotals.lean).
  GIVEN WITH THE SEED: the statements are not yours to turn. If you find one false, say at which input.
  Laid BY PROGRAM, IN A SANDBOX (cutbox-rows.mjs): the forced cells as the released guide's own fill.sh prints them over the translation 6d1a8d0c719d88fd… (all of the seat's roots in one cut). By AI agents, Wed Nov 11 2026. No macro, syntax, notation, axiom, sorry.
-/
import Derived.Test.YtelicajipilhjaaChecked
import GoSem.Claim
import GoSem.ClaimJoined
import GoSem.ClaimMapViews
import Derived.JoinedTies
import Derived.KernelRfl
namespace Go.Proofs.Ytelicajipilhjaa
/- THE CELL 'sum', in the pinned program and in every row, IS THE sha256 OF THE DUMP (.gsa) THAT YtelicajipilhjaaProg.lean LOADS. Nothing in Lean hashes anything: it is a label: what it is worth is what the hold of that sum in a sandbox is worth. -/
noncomputable def Try.pinned : Pinned := { name := "ytelicajipilhjaa", sum := "6d1a8d0c719d88fdf6e253a58e6af37bcbbd348e4c5971cfadd8741a25ea771f", checked := Try.checked }
namespace Rows
def none {H : Type} : Left H := { results := [], args := [] }

/-- 'laws.FnExactJoinRows': WHATEVER THE INPUT: true; the input reads as it did. -/
def fnExactJoinRowsSpec : ChangeSpec := { name := "fnExactJoinRows", fn := fun _ => fun
  | [d1, d2] => { results := [.lit (.bool true)], args := [d1, d2] }
  | _ => none }
def fnExactJoinRowsRow : OpenClaim := { program := "ytelicajipilhjaa", sum := "6d1a8d0c719d88fdf6e253a58e6af37bcbbd348e4c5971cfadd8741a25ea771f", func := "loop.example/g01262/laws.FnExactJoinRows", spec := "fnExactJoinRows", unfollowed := true, recurses := true, apart := false }
def FnExactJoinRowsSaid : Prop := fnExactJoinRowsRow.holds Try.pinned (OpenSpec.ofChange fnExactJoinRowsSpec)

/-- ITS FALSE NEIGHBOUR: 'it returns false'. Refute it at one input. -/
def fnExactJoinRowsWrong : ChangeSpec := { name := "fnExactJoinRows", fn := fun _ => fun
  | [d1, d2] => { results := [.lit (.bool false)], args := [d1, d2] }
  | _ => none }
def FnExactJoinRowsWrongFalsely : Prop := fnExactJoinRowsRow.holds Try.pinned (OpenSpec.ofChange fnExactJoinRowsWrong)

/-- 'laws.FnExactJoinInner': WHATEVER THE INPUT: true; the input reads as it did. -/
def fnExactJoinInnerSpec : ChangeSpec := { name := "fnExactJoinInner", fn := fun _ => fun
  | [d1, d2] => { results := [.lit (.bool true)], args := [d1, d2] }
  | _ => none }
def fnExactJoinInnerRow : OpenClaim := { program := "ytelicajipilhjaa", sum := "6d1a8d0c719d88fdf6e253a58e6af37bcbbd348e4c5971cfadd8741a25ea771f", func := "loop.example/g01262/laws.FnExactJoinInner", spec := "fnExactJoinInner", unfollowed := true, recurses := true, apart := false }
def FnExactJoinInnerSaid : Prop := fnExactJoinInnerRow.holds Try.pinned (OpenSpec.ofChange fnExactJoinInnerSpec)

/-- ITS FALSE NEIGHBOUR: 'it returns false'. Refute it at one input. -/
def fnExactJoinInnerWrong : ChangeSpec := { name := "fnExactJoinInner", fn := fun _ => fun
  | [d1, d2] => { results := [.lit (.bool false)], args := [d1, d2] }
  | _ => none }
def FnExactJoinInnerWrongFalsely : Prop := fnExactJoinInnerRow.holds Try.pinned (OpenSpec.ofChange fnExactJoinInnerWrong)

/-- 'laws.FnExactJoinCols': WHATEVER THE INPUT: true; the input reads as it did. -/
def fnExactJoinColsSpec : ChangeSpec := { name := "fnExactJoinCols", fn := fun _ => fun
  | [d1, d2] => { results := [.lit (.bool true)], args := [d1, d2] }
  | _ => none }
def fnExactJoinColsRow : OpenClaim := { program := "ytelicajipilhjaa", sum := "6d1a8d0c719d88fdf6e253a58e6af37bcbbd348e4c5971cfadd8741a25ea771f", func := "loop.example/g01262/laws.FnExactJoinCols", spec := "fnExactJoinCols", unfollowed := true, recurses := true, apart := false }
def FnExactJoinColsSaid : Prop := fnExactJoinColsRow.holds Try.pinned (OpenSpec.ofChange fnExactJoinColsSpec)

/-- ITS FALSE NEIGHBOUR: 'it returns false'. Refute it at one input. -/
def fnExactJoinColsWrong : ChangeSpec := { name := "fnExactJoinCols", fn := fun _ => fun
  | [d1, d2] => { results := [.lit (.bool false)], args := [d1, d2] }
  | _ => none }
def FnExactJoinColsWrongFalsely : Prop := fnExactJoinColsRow.holds Try.pinned (OpenSpec.ofChange fnExactJoinColsWrong)

/-- 'laws.FnExactRestrictScheme': WHATEVER THE INPUT: true; the input reads as it did. -/
def fnExactRestrictSchemeSpec : ChangeSpec := { name := "fnExactRestrictScheme", fn := fun _ => fun
  | [d1, d2, d3, d4] => { results := [.lit (.bool true)], args := [d1, d2, d3, d4] }
  | _ => none }
def fnExactRestrictSchemeRow : OpenClaim := { program := "ytelicajipilhjaa", sum := "6d1a8d0c719d88fdf6e253a58e6af37bcbbd348e4c5971cfadd8741a25ea771f", func := "loop.example/g01262/laws.FnExactRestrictScheme", spec := "fnExactRestrictScheme", unfollowed := true, recurses := true, apart := false }
def FnExactRestrictSchemeSaid : Prop := fnExactRestrictSchemeRow.holds Try.pinned (OpenSpec.ofChange fnExactRestrictSchemeSpec)

/-- ITS FALSE NEIGHBOUR: 'it returns false'. Refute it at one input. -/
def fnExactRestrictSchemeWrong : ChangeSpec := { name := "fnExactRestrictScheme", fn := fun _ => fun
  | [d1, d2, d3, d4] => { results := [.lit (.bool false)], args := [d1, d2, d3, d4] }
  | _ => none }
def FnExactRestrictSchemeWrongFalsely : Prop := fnExactRestrictSchemeRow.holds Try.pinned (OpenSpec.ofChange fnExactRestrictSchemeWrong)

/-- 'laws.FnExactJoinNumber': WHATEVER THE INPUT: true; the input reads as it did. -/
def fnExactJoinNumberSpec : ChangeSpec := { name := "fnExactJoinNumber", fn := fun _ => fun
  | [d1, d2, d3] => { results := [.lit (.bool true)], args := [d1, d2, d3] }
  | _ => none }
def fnExactJoinNumberRow : OpenClaim := { program := "ytelicajipilhjaa", sum := "6d1a8d0c719d88fdf6e253a58e6af37bcbbd348e4c5971cfadd8741a25ea771f", func := "loop.example/g01262/laws.FnExactJoinNumber", spec := "fnExactJoinNumber", recurses := true, apart := false }
def FnExactJoinNumberSaid : Prop := fnExactJoinNumberRow.holds Try.pinned (OpenSpec.ofChange fnExactJoinNumberSpec)

/-- ITS FALSE NEIGHBOUR: 'it returns false'. Refute it at one input. -/
def fnExactJoinNumberWrong : ChangeSpec := { name := "fnExactJoinNumber", fn := fun _ => fun
  | [d1, d2, d3] => { results := [.lit (.bool false)], args := [d1, d2, d3] }
  | _ => none }
def FnExactJoinNumberWrongFalsely : Prop := fnExactJoinNumberRow.holds Try.pinned (OpenSpec.ofChange fnExactJoinNumberWrong)

/- THE SECOND FORM. 'bulk': how many values and letters a reading holds, each counted each time it is reached (what is shared counts as often as it is met; a slice's spare places count too). A statement '..UptoSaid' is the law's where the arguments, and the package variables that the reading takes, are together of bulk at most 1048576: NARROWER than '..Said'. Prove '..Said' where nothing that the law and all that it calls make is longer than what came in: it says more and counts as full. Else prove '..UptoSaid'. A law counts once. -/
mutual
def uptoBulk {H : Type} : DataW H → Nat
  | .lit (.string bytes) => bytes.length + 1
  | .lit _ => 1
  | .nil => 1
  | .ptr d => uptoBulk d + 1
  | .slice elems spare => uptoBulkAll elems + uptoBulkAll spare + 1
  | .agg parts => uptoBulkAll parts + 1
  | .iface _ d => uptoBulk d + 1
  | .map entries => uptoBulkEntries entries + 1
  | .held _ => 1
def uptoBulkAll {H : Type} : List (DataW H) → Nat
  | [] => 0
  | d :: r => uptoBulk d + uptoBulkAll r
def uptoBulkEntries {H : Type} : List (Lit × DataW H) → Nat
  | [] => 0
  | x :: r => uptoBulkEntry x + uptoBulkEntries r
def uptoBulkEntry {H : Type} : Lit × DataW H → Nat
  | (.string bytes, d) => bytes.length + uptoBulk d + 1
  | (_, d) => uptoBulk d + 1
 end
def uptoSmall : (H : Type) → List (DataW H) → Bool := fun _ ds => decide (uptoBulkAll ds ≤ 1048576)
def OpenSpec.upto (s : _root_.Go.ChangeSpec) : _root_.Go.OpenSpec := { _root_.Go.OpenSpec.ofChange s with cond := some uptoSmall }

/-- 'laws.FnExactJoinRows', WHERE WHAT IT READS IS OF BULK AT MOST 1048576: true; the input reads as it did. -/
def fnExactJoinRowsUptoRow : OpenClaim := { program := "ytelicajipilhjaa", sum := "6d1a8d0c719d88fdf6e253a58e6af37bcbbd348e4c5971cfadd8741a25ea771f", func := "loop.example/g01262/laws.FnExactJoinRows", spec := "fnExactJoinRows", unfollowed := true, recurses := true, apart := false, narrowed := true }
def FnExactJoinRowsUptoSaid : Prop := fnExactJoinRowsUptoRow.holds Try.pinned (OpenSpec.upto fnExactJoinRowsSpec)

/-- 'laws.FnExactJoinInner', WHERE WHAT IT READS IS OF BULK AT MOST 1048576: true; the input reads as it did. -/
def fnExactJoinInnerUptoRow : OpenClaim := { program := "ytelicajipilhjaa", sum := "6d1a8d0c719d88fdf6e253a58e6af37bcbbd348e4c5971cfadd8741a25ea771f", func := "loop.example/g01262/laws.FnExactJoinInner", spec := "fnExactJoinInner", unfollowed := true, recurses := true, apart := false, narrowed := true }
def FnExactJoinInnerUptoSaid : Prop := fnExactJoinInnerUptoRow.holds Try.pinned (OpenSpec.upto fnExactJoinInnerSpec)

/-- 'laws.FnExactJoinCols', WHERE WHAT IT READS IS OF BULK AT MOST 1048576: true; the input reads as it did. -/
def fnExactJoinColsUptoRow : OpenClaim := { program := "ytelicajipilhjaa", sum := "6d1a8d0c719d88fdf6e253a58e6af37bcbbd348e4c5971cfadd8741a25ea771f", func := "loop.example/g01262/laws.FnExactJoinCols", spec := "fnExactJoinCols", unfollowed := true, recurses := true, apart := false, narrowed := true }
def FnExactJoinColsUptoSaid : Prop := fnExactJoinColsUptoRow.holds Try.pinned (OpenSpec.upto fnExactJoinColsSpec)

/-- 'laws.FnExactRestrictScheme', WHERE WHAT IT READS IS OF BULK AT MOST 1048576: true; the input reads as it did. -/
def fnExactRestrictSchemeUptoRow : OpenClaim := { program := "ytelicajipilhjaa", sum := "6d1a8d0c719d88fdf6e253a58e6af37bcbbd348e4c5971cfadd8741a25ea771f", func := "loop.example/g01262/laws.FnExactRestrictScheme", spec := "fnExactRestrictScheme", unfollowed := true, recurses := true, apart := false, narrowed := true }
def FnExactRestrictSchemeUptoSaid : Prop := fnExactRestrictSchemeUptoRow.holds Try.pinned (OpenSpec.upto fnExactRestrictSchemeSpec)

/-- 'laws.FnExactJoinNumber', WHERE WHAT IT READS IS OF BULK AT MOST 1048576: true; the input reads as it did. -/
def fnExactJoinNumberUptoRow : OpenClaim := { program := "ytelicajipilhjaa", sum := "6d1a8d0c719d88fdf6e253a58e6af37bcbbd348e4c5971cfadd8741a25ea771f", func := "loop.example/g01262/laws.FnExactJoinNumber", spec := "fnExactJoinNumber", recurses := true, apart := false, narrowed := true }
def FnExactJoinNumberUptoSaid : Prop := fnExactJoinNumberUptoRow.holds Try.pinned (OpenSpec.upto fnExactJoinNumberSpec)

end Rows
end Go.Proofs.Ytelicajipilhjaa
