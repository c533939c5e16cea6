/-
  No cell of these rows narrows 'for every input' (looked for: loops, veiled, ifaces, maps, wideKeys, modest, calm, conditions, laid).
  DERIVED. THE GIVEN ROWS OF THIS SEAT. 5 by the template 'for every input the law returns true; each argument reads behind the call as it read before'; 0 by the template 'total and deterministic' (their statements: YtlpdglmjejfmhaaTotals.lean).
  GIVEN WITH THE SEED: the statements are not yours to turn. If you find one false, say at which input.
  Laid BY PROGRAM, IN A SANDBOX (cutbox-rows.mjs): the forced cells as the released guide's own fill.sh prints them over the translation 175724f5bc0c553e… (all of the seat's roots in one cut). By AI agents, Wed Nov 11 2026. No macro, syntax, notation, axiom, sorry.
-/
import Derived.Test.YtlpdglmjejfmhaaChecked
import GoSem.Claim
import GoSem.ClaimJoined
import GoSem.ClaimMapViews
import Derived.JoinedTies
import Derived.KernelRfl
namespace Go.Proofs.Ytlpdglmjejfmhaa
/- THE CELL 'sum', in the pinned program and in every row, IS THE sha256 OF THE DUMP (.gsa) THAT YtlpdglmjejfmhaaProg.lean LOADS. Nothing in Lean hashes anything: it is a label: what it is worth is what the hold of that sum in a sandbox is worth. -/
noncomputable def Try.pinned : Pinned := { name := "ytlpdglmjejfmhaa", sum := "175724f5bc0c553e06541a443bc419d97bf9a103f47b2ffd0e54354bc64ab224", checked := Try.checked }
namespace Rows
def none {H : Type} : Left H := { results := [], args := [] }

/-- 'laws.FnExactIsBorder': WHATEVER THE INPUT: true; the input reads as it did. -/
def fnExactIsBorderSpec : ChangeSpec := { name := "fnExactIsBorder", fn := fun _ => fun
  | [d] => { results := [.lit (.bool true)], args := [d] }
  | _ => none }
def fnExactIsBorderRow : OpenClaim := { program := "ytlpdglmjejfmhaa", sum := "175724f5bc0c553e06541a443bc419d97bf9a103f47b2ffd0e54354bc64ab224", func := "loop.example/g01262/laws.FnExactIsBorder", spec := "fnExactIsBorder", unfollowed := true, recurses := true, apart := false }
def FnExactIsBorderSaid : Prop := fnExactIsBorderRow.holds Try.pinned (OpenSpec.ofChange fnExactIsBorderSpec)

/-- ITS FALSE NEIGHBOUR: 'it returns false'. Refute it at one input. -/
def fnExactIsBorderWrong : ChangeSpec := { name := "fnExactIsBorder", fn := fun _ => fun
  | [d] => { results := [.lit (.bool false)], args := [d] }
  | _ => none }
def FnExactIsBorderWrongFalsely : Prop := fnExactIsBorderRow.holds Try.pinned (OpenSpec.ofChange fnExactIsBorderWrong)

/-- 'laws.FnExactBorderOfScheme': WHATEVER THE INPUT: true; the input reads as it did. -/
def fnExactBorderOfSchemeSpec : ChangeSpec := { name := "fnExactBorderOfScheme", fn := fun _ => fun
  | [d] => { results := [.lit (.bool true)], args := [d] }
  | _ => none }
def fnExactBorderOfSchemeRow : OpenClaim := { program := "ytlpdglmjejfmhaa", sum := "175724f5bc0c553e06541a443bc419d97bf9a103f47b2ffd0e54354bc64ab224", func := "loop.example/g01262/laws.FnExactBorderOfScheme", spec := "fnExactBorderOfScheme", unfollowed := true, recurses := true, apart := false }
def FnExactBorderOfSchemeSaid : Prop := fnExactBorderOfSchemeRow.holds Try.pinned (OpenSpec.ofChange fnExactBorderOfSchemeSpec)

/-- ITS FALSE NEIGHBOUR: 'it returns false'. Refute it at one input. -/
def fnExactBorderOfSchemeWrong : ChangeSpec := { name := "fnExactBorderOfScheme", fn := fun _ => fun
  | [d] => { results := [.lit (.bool false)], args := [d] }
  | _ => none }
def FnExactBorderOfSchemeWrongFalsely : Prop := fnExactBorderOfSchemeRow.holds Try.pinned (OpenSpec.ofChange fnExactBorderOfSchemeWrong)

/-- 'laws.FnExactRaiseBorder': WHATEVER THE INPUT: true; the input reads as it did. -/
def fnExactRaiseBorderSpec : ChangeSpec := { name := "fnExactRaiseBorder", fn := fun _ => fun
  | [d1, d2] => { results := [.lit (.bool true)], args := [d1, d2] }
  | _ => none }
def fnExactRaiseBorderRow : OpenClaim := { program := "ytlpdglmjejfmhaa", sum := "175724f5bc0c553e06541a443bc419d97bf9a103f47b2ffd0e54354bc64ab224", func := "loop.example/g01262/laws.FnExactRaiseBorder", spec := "fnExactRaiseBorder", unfollowed := true, recurses := true, apart := false }
def FnExactRaiseBorderSaid : Prop := fnExactRaiseBorderRow.holds Try.pinned (OpenSpec.ofChange fnExactRaiseBorderSpec)

/-- ITS FALSE NEIGHBOUR: 'it returns false'. Refute it at one input. -/
def fnExactRaiseBorderWrong : ChangeSpec := { name := "fnExactRaiseBorder", fn := fun _ => fun
  | [d1, d2] => { results := [.lit (.bool false)], args := [d1, d2] }
  | _ => none }
def FnExactRaiseBorderWrongFalsely : Prop := fnExactRaiseBorderRow.holds Try.pinned (OpenSpec.ofChange fnExactRaiseBorderWrong)

/-- 'laws.FnExactStretchBorder': WHATEVER THE INPUT: true; the input reads as it did. -/
def fnExactStretchBorderSpec : ChangeSpec := { name := "fnExactStretchBorder", fn := fun _ => fun
  | [d1, d2] => { results := [.lit (.bool true)], args := [d1, d2] }
  | _ => none }
def fnExactStretchBorderRow : OpenClaim := { program := "ytlpdglmjejfmhaa", sum := "175724f5bc0c553e06541a443bc419d97bf9a103f47b2ffd0e54354bc64ab224", func := "loop.example/g01262/laws.FnExactStretchBorder", spec := "fnExactStretchBorder", unfollowed := true, recurses := true, apart := false }
def FnExactStretchBorderSaid : Prop := fnExactStretchBorderRow.holds Try.pinned (OpenSpec.ofChange fnExactStretchBorderSpec)

/-- ITS FALSE NEIGHBOUR: 'it returns false'. Refute it at one input. -/
def fnExactStretchBorderWrong : ChangeSpec := { name := "fnExactStretchBorder", fn := fun _ => fun
  | [d1, d2] => { results := [.lit (.bool false)], args := [d1, d2] }
  | _ => none }
def FnExactStretchBorderWrongFalsely : Prop := fnExactStretchBorderRow.holds Try.pinned (OpenSpec.ofChange fnExactStretchBorderWrong)

/-- 'laws.FnExactLowestPowers': WHATEVER THE INPUT: true; the input reads as it did. -/
def fnExactLowestPowersSpec : ChangeSpec := { name := "fnExactLowestPowers", fn := fun _ => fun
  | [d] => { results := [.lit (.bool true)], args := [d] }
  | _ => none }
def fnExactLowestPowersRow : OpenClaim := { program := "ytlpdglmjejfmhaa", sum := "175724f5bc0c553e06541a443bc419d97bf9a103f47b2ffd0e54354bc64ab224", func := "loop.example/g01262/laws.FnExactLowestPowers", spec := "fnExactLowestPowers", unfollowed := true, recurses := true, apart := false }
def FnExactLowestPowersSaid : Prop := fnExactLowestPowersRow.holds Try.pinned (OpenSpec.ofChange fnExactLowestPowersSpec)

/-- ITS FALSE NEIGHBOUR: 'it returns false'. Refute it at one input. -/
def fnExactLowestPowersWrong : ChangeSpec := { name := "fnExactLowestPowers", fn := fun _ => fun
  | [d] => { results := [.lit (.bool false)], args := [d] }
  | _ => none }
def FnExactLowestPowersWrongFalsely : Prop := fnExactLowestPowersRow.holds Try.pinned (OpenSpec.ofChange fnExactLowestPowersWrong)

/- THE SECOND FORM. 'bulk': how many values and letters a reading holds, each counted each time it is reached (what is shared counts as often as it is met; a slice's spare places count too). A statement '..UptoSaid' is the law's where the arguments, and the package variables that the reading takes, are together of bulk at most 1048576: NARROWER than '..Said'. Prove '..Said' where nothing that the law and all that it calls make is longer than what came in: it says more and counts as full. Else prove '..UptoSaid'. A law counts once. -/
mutual
def uptoBulk {H : Type} : DataW H → Nat
  | .lit (.string bytes) => bytes.length + 1
  | .lit _ => 1
  | .nil => 1
  | .ptr d => uptoBulk d + 1
  | .slice elems spare => uptoBulkAll elems + uptoBulkAll spare + 1
  | .agg parts => uptoBulkAll parts + 1
  | .iface _ d => uptoBulk d + 1
  | .map entries => uptoBulkEntries entries + 1
  | .held _ => 1
def uptoBulkAll {H : Type} : List (DataW H) → Nat
  | [] => 0
  | d :: r => uptoBulk d + uptoBulkAll r
def uptoBulkEntries {H : Type} : List (Lit × DataW H) → Nat
  | [] => 0
  | x :: r => uptoBulkEntry x + uptoBulkEntries r
def uptoBulkEntry {H : Type} : Lit × DataW H → Nat
  | (.string bytes, d) => bytes.length + uptoBulk d + 1
  | (_, d) => uptoBulk d + 1
 end
def uptoSmall : (H : Type) → List (DataW H) → Bool := fun _ ds => decide (uptoBulkAll ds ≤ 1048576)
def OpenSpec.upto (s : _root_.Go.ChangeSpec) : _root_.Go.OpenSpec := { _root_.Go.OpenSpec.ofChange s with cond := some uptoSmall }

/-- 'laws.FnExactIsBorder', WHERE WHAT IT READS IS OF BULK AT MOST 1048576: true; the input reads as it did. -/
def fnExactIsBorderUptoRow : OpenClaim := { program := "ytlpdglmjejfmhaa", sum := "175724f5bc0c553e06541a443bc419d97bf9a103f47b2ffd0e54354bc64ab224", func := "loop.example/g01262/laws.FnExactIsBorder", spec := "fnExactIsBorder", unfollowed := true, recurses := true, apart := false, narrowed := true }
def FnExactIsBorderUptoSaid : Prop := fnExactIsBorderUptoRow.holds Try.pinned (OpenSpec.upto fnExactIsBorderSpec)

/-- 'laws.FnExactBorderOfScheme', WHERE WHAT IT READS IS OF BULK AT MOST 1048576: true; the input reads as it did. -/
def fnExactBorderOfSchemeUptoRow : OpenClaim := { program := "ytlpdglmjejfmhaa", sum := "175724f5bc0c553e06541a443bc419d97bf9a103f47b2ffd0e54354bc64ab224", func := "loop.example/g01262/laws.FnExactBorderOfScheme", spec := "fnExactBorderOfScheme", unfollowed := true, recurses := true, apart := false, narrowed := true }
def FnExactBorderOfSchemeUptoSaid : Prop := fnExactBorderOfSchemeUptoRow.holds Try.pinned (OpenSpec.upto fnExactBorderOfSchemeSpec)

/-- 'laws.FnExactRaiseBorder', WHERE WHAT IT READS IS OF BULK AT MOST 1048576: true; the input reads as it did. -/
def fnExactRaiseBorderUptoRow : OpenClaim := { program := "ytlpdglmjejfmhaa", sum := "175724f5bc0c553e06541a443bc419d97bf9a103f47b2ffd0e54354bc64ab224", func := "loop.example/g01262/laws.FnExactRaiseBorder", spec := "fnExactRaiseBorder", unfollowed := true, recurses := true, apart := false, narrowed := true }
def FnExactRaiseBorderUptoSaid : Prop := fnExactRaiseBorderUptoRow.holds Try.pinned (OpenSpec.upto fnExactRaiseBorderSpec)

/-- 'laws.FnExactStretchBorder', WHERE WHAT IT READS IS OF BULK AT MOST 1048576: true; the input reads as it did. -/
def fnExactStretchBorderUptoRow : OpenClaim := { program := "ytlpdglmjejfmhaa", sum := "175724f5bc0c553e06541a443bc419d97bf9a103f47b2ffd0e54354bc64ab224", func := "loop.example/g01262/laws.FnExactStretchBorder", spec := "fnExactStretchBorder", unfollowed := true, recurses := true, apart := false, narrowed := true }
def FnExactStretchBorderUptoSaid : Prop := fnExactStretchBorderUptoRow.holds Try.pinned (OpenSpec.upto fnExactStretchBorderSpec)

/-- 'laws.FnExactLowestPowers', WHERE WHAT IT READS IS OF BULK AT MOST 1048576: true; the input reads as it did. -/
def fnExactLowestPowersUptoRow : OpenClaim := { program := "ytlpdglmjejfmhaa", sum := "175724f5bc0c553e06541a443bc419d97bf9a103f47b2ffd0e54354bc64ab224", func := "loop.example/g01262/laws.FnExactLowestPowers", spec := "fnExactLowestPowers", unfollowed := true, recurses := true, apart := false, narrowed := true }
def FnExactLowestPowersUptoSaid : Prop := fnExactLowestPowersUptoRow.holds Try.pinned (OpenSpec.upto fnExactLowestPowersSpec)

end Rows
end Go.Proofs.Ytlpdglmjejfmhaa
