/-
  No cell of these rows narrows 'for every input' (looked for: loops, veiled, ifaces, maps, wideKeys, modest, calm, conditions, laid).
  DERIVED. THE GIVEN ROWS OF THIS SEAT. 4 by the template 'for every input the law returns true; each argument reads behind the call as it read before'; 0 by the template 'total and deterministic' (their statements: YtkjdlmeolnohbaaTotals.lean).
  GIVEN WITH THE SEED: the statements are not yours to turn. If you find one false, say at which input.
  Laid BY PROGRAM, IN A SANDBOX (cutbox-rows.mjs): the forced cells as the released guide's own fill.sh prints them over the translation a8b73987a5605fb8… (all of the seat's roots in one cut). By AI agents, Wed Nov 11 2026. No macro, syntax, notation, axiom, sorry.
-/
import Derived.Test.YtkjdlmeolnohbaaChecked
import GoSem.Claim
import GoSem.ClaimJoined
import GoSem.ClaimMapViews
import Derived.JoinedTies
import Derived.KernelRfl
namespace Go.Proofs.Ytkjdlmeolnohbaa
/- THE CELL 'sum', in the pinned program and in every row, IS THE sha256 OF THE DUMP (.gsa) THAT YtkjdlmeolnohbaaProg.lean LOADS. Nothing in Lean hashes anything: it is a label: what it is worth is what the hold of that sum in a sandbox is worth. -/
noncomputable def Try.pinned : Pinned := { name := "ytkjdlmeolnohbaa", sum := "a8b73987a5605fb8b58162e4df93719076180d820355a59e853850dbfa21adb4", checked := Try.checked }
namespace Rows
def none {H : Type} : Left H := { results := [], args := [] }

/-- 'laws.FnExactIsMethod': WHATEVER THE INPUT: true; the input reads as it did. -/
def fnExactIsMethodSpec : ChangeSpec := { name := "fnExactIsMethod", fn := fun _ => fun
  | [d] => { results := [.lit (.bool true)], args := [d] }
  | _ => none }
def fnExactIsMethodRow : OpenClaim := { program := "ytkjdlmeolnohbaa", sum := "a8b73987a5605fb8b58162e4df93719076180d820355a59e853850dbfa21adb4", func := "loop.example/g01262/laws.FnExactIsMethod", spec := "fnExactIsMethod", unfollowed := true, recurses := true, apart := false }
def FnExactIsMethodSaid : Prop := fnExactIsMethodRow.holds Try.pinned (OpenSpec.ofChange fnExactIsMethodSpec)

/-- ITS FALSE NEIGHBOUR: 'it returns false'. Refute it at one input. -/
def fnExactIsMethodWrong : ChangeSpec := { name := "fnExactIsMethod", fn := fun _ => fun
  | [d] => { results := [.lit (.bool false)], args := [d] }
  | _ => none }
def FnExactIsMethodWrongFalsely : Prop := fnExactIsMethodRow.holds Try.pinned (OpenSpec.ofChange fnExactIsMethodWrong)

/-- 'laws.FnExactTurnMethod': WHATEVER THE INPUT: true; the input reads as it did. -/
def fnExactTurnMethodSpec : ChangeSpec := { name := "fnExactTurnMethod", fn := fun _ => fun
  | [d] => { results := [.lit (.bool true)], args := [d] }
  | _ => none }
def fnExactTurnMethodRow : OpenClaim := { program := "ytkjdlmeolnohbaa", sum := "a8b73987a5605fb8b58162e4df93719076180d820355a59e853850dbfa21adb4", func := "loop.example/g01262/laws.FnExactTurnMethod", spec := "fnExactTurnMethod", unfollowed := true, recurses := true, apart := false }
def FnExactTurnMethodSaid : Prop := fnExactTurnMethodRow.holds Try.pinned (OpenSpec.ofChange fnExactTurnMethodSpec)

/-- ITS FALSE NEIGHBOUR: 'it returns false'. Refute it at one input. -/
def fnExactTurnMethodWrong : ChangeSpec := { name := "fnExactTurnMethod", fn := fun _ => fun
  | [d] => { results := [.lit (.bool false)], args := [d] }
  | _ => none }
def FnExactTurnMethodWrongFalsely : Prop := fnExactTurnMethodRow.holds Try.pinned (OpenSpec.ofChange fnExactTurnMethodWrong)

/-- 'laws.FnExactMethodOfScheme': WHATEVER THE INPUT: true; the input reads as it did. -/
def fnExactMethodOfSchemeSpec : ChangeSpec := { name := "fnExactMethodOfScheme", fn := fun _ => fun
  | [d] => { results := [.lit (.bool true)], args := [d] }
  | _ => none }
def fnExactMethodOfSchemeRow : OpenClaim := { program := "ytkjdlmeolnohbaa", sum := "a8b73987a5605fb8b58162e4df93719076180d820355a59e853850dbfa21adb4", func := "loop.example/g01262/laws.FnExactMethodOfScheme", spec := "fnExactMethodOfScheme", unfollowed := true, recurses := true, apart := false }
def FnExactMethodOfSchemeSaid : Prop := fnExactMethodOfSchemeRow.holds Try.pinned (OpenSpec.ofChange fnExactMethodOfSchemeSpec)

/-- ITS FALSE NEIGHBOUR: 'it returns false'. Refute it at one input. -/
def fnExactMethodOfSchemeWrong : ChangeSpec := { name := "fnExactMethodOfScheme", fn := fun _ => fun
  | [d] => { results := [.lit (.bool false)], args := [d] }
  | _ => none }
def FnExactMethodOfSchemeWrongFalsely : Prop := fnExactMethodOfSchemeRow.holds Try.pinned (OpenSpec.ofChange fnExactMethodOfSchemeWrong)

/-- 'laws.FnExactMethodFits': WHATEVER THE INPUT: true; the input reads as it did. -/
def fnExactMethodFitsSpec : ChangeSpec := { name := "fnExactMethodFits", fn := fun _ => fun
  | [d1, d2] => { results := [.lit (.bool true)], args := [d1, d2] }
  | _ => none }
def fnExactMethodFitsRow : OpenClaim := { program := "ytkjdlmeolnohbaa", sum := "a8b73987a5605fb8b58162e4df93719076180d820355a59e853850dbfa21adb4", func := "loop.example/g01262/laws.FnExactMethodFits", spec := "fnExactMethodFits", unfollowed := true, recurses := true, apart := false }
def FnExactMethodFitsSaid : Prop := fnExactMethodFitsRow.holds Try.pinned (OpenSpec.ofChange fnExactMethodFitsSpec)

/-- ITS FALSE NEIGHBOUR: 'it returns false'. Refute it at one input. -/
def fnExactMethodFitsWrong : ChangeSpec := { name := "fnExactMethodFits", fn := fun _ => fun
  | [d1, d2] => { results := [.lit (.bool false)], args := [d1, d2] }
  | _ => none }
def FnExactMethodFitsWrongFalsely : Prop := fnExactMethodFitsRow.holds Try.pinned (OpenSpec.ofChange fnExactMethodFitsWrong)

/- THE SECOND FORM. 'bulk': how many values and letters a reading holds, each counted each time it is reached (what is shared counts as often as it is met; a slice's spare places count too). A statement '..UptoSaid' is the law's where the arguments, and the package variables that the reading takes, are together of bulk at most 1048576: NARROWER than '..Said'. Prove '..Said' where nothing that the law and all that it calls make is longer than what came in: it says more and counts as full. Else prove '..UptoSaid'. A law counts once. -/
mutual
def uptoBulk {H : Type} : DataW H → Nat
  | .lit (.string bytes) => bytes.length + 1
  | .lit _ => 1
  | .nil => 1
  | .ptr d => uptoBulk d + 1
  | .slice elems spare => uptoBulkAll elems + uptoBulkAll spare + 1
  | .agg parts => uptoBulkAll parts + 1
  | .iface _ d => uptoBulk d + 1
  | .map entries => uptoBulkEntries entries + 1
  | .held _ => 1
def uptoBulkAll {H : Type} : List (DataW H) → Nat
  | [] => 0
  | d :: r => uptoBulk d + uptoBulkAll r
def uptoBulkEntries {H : Type} : List (Lit × DataW H) → Nat
  | [] => 0
  | x :: r => uptoBulkEntry x + uptoBulkEntries r
def uptoBulkEntry {H : Type} : Lit × DataW H → Nat
  | (.string bytes, d) => bytes.length + uptoBulk d + 1
  | (_, d) => uptoBulk d + 1
 end
def uptoSmall : (H : Type) → List (DataW H) → Bool := fun _ ds => decide (uptoBulkAll ds ≤ 1048576)
def OpenSpec.upto (s : _root_.Go.ChangeSpec) : _root_.Go.OpenSpec := { _root_.Go.OpenSpec.ofChange s with cond := some uptoSmall }

/-- 'laws.FnExactIsMethod', WHERE WHAT IT READS IS OF BULK AT MOST 1048576: true; the input reads as it did. -/
def fnExactIsMethodUptoRow : OpenClaim := { program := "ytkjdlmeolnohbaa", sum := "a8b73987a5605fb8b58162e4df93719076180d820355a59e853850dbfa21adb4", func := "loop.example/g01262/laws.FnExactIsMethod", spec := "fnExactIsMethod", unfollowed := true, recurses := true, apart := false, narrowed := true }
def FnExactIsMethodUptoSaid : Prop := fnExactIsMethodUptoRow.holds Try.pinned (OpenSpec.upto fnExactIsMethodSpec)

/-- 'laws.FnExactTurnMethod', WHERE WHAT IT READS IS OF BULK AT MOST 1048576: true; the input reads as it did. -/
def fnExactTurnMethodUptoRow : OpenClaim := { program := "ytkjdlmeolnohbaa", sum := "a8b73987a5605fb8b58162e4df93719076180d820355a59e853850dbfa21adb4", func := "loop.example/g01262/laws.FnExactTurnMethod", spec := "fnExactTurnMethod", unfollowed := true, recurses := true, apart := false, narrowed := true }
def FnExactTurnMethodUptoSaid : Prop := fnExactTurnMethodUptoRow.holds Try.pinned (OpenSpec.upto fnExactTurnMethodSpec)

/-- 'laws.FnExactMethodOfScheme', WHERE WHAT IT READS IS OF BULK AT MOST 1048576: true; the input reads as it did. -/
def fnExactMethodOfSchemeUptoRow : OpenClaim := { program := "ytkjdlmeolnohbaa", sum := "a8b73987a5605fb8b58162e4df93719076180d820355a59e853850dbfa21adb4", func := "loop.example/g01262/laws.FnExactMethodOfScheme", spec := "fnExactMethodOfScheme", unfollowed := true, recurses := true, apart := false, narrowed := true }
def FnExactMethodOfSchemeUptoSaid : Prop := fnExactMethodOfSchemeUptoRow.holds Try.pinned (OpenSpec.upto fnExactMethodOfSchemeSpec)

/-- 'laws.FnExactMethodFits', WHERE WHAT IT READS IS OF BULK AT MOST 1048576: true; the input reads as it did. -/
def fnExactMethodFitsUptoRow : OpenClaim := { program := "ytkjdlmeolnohbaa", sum := "a8b73987a5605fb8b58162e4df93719076180d820355a59e853850dbfa21adb4", func := "loop.example/g01262/laws.FnExactMethodFits", spec := "fnExactMethodFits", unfollowed := true, recurses := true, apart := false, narrowed := true }
def FnExactMethodFitsUptoSaid : Prop := fnExactMethodFitsUptoRow.holds Try.pinned (OpenSpec.upto fnExactMethodFitsSpec)

end Rows
end Go.Proofs.Ytkjdlmeolnohbaa
