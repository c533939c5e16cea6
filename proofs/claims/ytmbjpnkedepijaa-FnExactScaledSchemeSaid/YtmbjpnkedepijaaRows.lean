/-
  No cell of these rows narrows 'for every input' (looked for: loops, veiled, ifaces, maps, wideKeys, modest, calm, conditions, laid).
  DERIVED. THE GIVEN ROWS OF THIS SEAT. 2 by the template 'for every input the law returns true; each argument reads behind the call as it read before'; 0 by the template 'total and deterministic' (their statements: YtmbjpnkedepijaaTotals.lean).
  GIVEN WITH THE SEED: the statements are not yours to turn. If you find one false, say at which input.
  Laid BY PROGRAM, IN A SANDBOX (cutbox-rows.mjs): the forced cells as the released guide's own fill.sh prints them over the translation 82706999f1950870… (all of the seat's roots in one cut). By AI agents, Wed Nov 11 2026. No macro, syntax, notation, axiom, sorry.
-/
import Derived.Test.YtmbjpnkedepijaaChecked
import GoSem.Claim
import GoSem.ClaimJoined
import GoSem.ClaimMapViews
import Derived.JoinedTies
import Derived.KernelRfl
namespace Go.Proofs.Ytmbjpnkedepijaa
/- THE CELL 'sum', in the pinned program and in every row, IS THE sha256 OF THE DUMP (.gsa) THAT YtmbjpnkedepijaaProg.lean LOADS. Nothing in Lean hashes anything: it is a label: what it is worth is what the hold of that sum in a sandbox is worth. -/
noncomputable def Try.pinned : Pinned := { name := "ytmbjpnkedepijaa", sum := "82706999f195087098c7a7f03f621913c9327f26c383ea82f1e2875c82e0b7f0", checked := Try.checked }
namespace Rows
def none {H : Type} : Left H := { results := [], args := [] }

/-- 'laws.FnExactSortScheme': WHATEVER THE INPUT: true; the input reads as it did. -/
def fnExactSortSchemeSpec : ChangeSpec := { name := "fnExactSortScheme", fn := fun _ => fun
  | [d] => { results := [.lit (.bool true)], args := [d] }
  | _ => none }
def fnExactSortSchemeRow : OpenClaim := { program := "ytmbjpnkedepijaa", sum := "82706999f195087098c7a7f03f621913c9327f26c383ea82f1e2875c82e0b7f0", func := "loop.example/g01262/laws.FnExactSortScheme", spec := "fnExactSortScheme", inPlace := ["internal/bytealg.Compare"], unfollowed := true, recurses := true, apart := false }
def FnExactSortSchemeSaid : Prop := fnExactSortSchemeRow.holds Try.pinned (OpenSpec.ofChange fnExactSortSchemeSpec)

/-- ITS FALSE NEIGHBOUR: 'it returns false'. Refute it at one input. -/
def fnExactSortSchemeWrong : ChangeSpec := { name := "fnExactSortScheme", fn := fun _ => fun
  | [d] => { results := [.lit (.bool false)], args := [d] }
  | _ => none }
def FnExactSortSchemeWrongFalsely : Prop := fnExactSortSchemeRow.holds Try.pinned (OpenSpec.ofChange fnExactSortSchemeWrong)

/-- 'laws.FnExactScaledScheme': WHATEVER THE INPUT: true; the input reads as it did. -/
def fnExactScaledSchemeSpec : ChangeSpec := { name := "fnExactScaledScheme", fn := fun _ => fun
  | [d] => { results := [.lit (.bool true)], args := [d] }
  | _ => none }
def fnExactScaledSchemeRow : OpenClaim := { program := "ytmbjpnkedepijaa", sum := "82706999f195087098c7a7f03f621913c9327f26c383ea82f1e2875c82e0b7f0", func := "loop.example/g01262/laws.FnExactScaledScheme", spec := "fnExactScaledScheme", inPlace := ["internal/bytealg.Compare"], unfollowed := true, recurses := true, apart := false }
def FnExactScaledSchemeSaid : Prop := fnExactScaledSchemeRow.holds Try.pinned (OpenSpec.ofChange fnExactScaledSchemeSpec)

/-- ITS FALSE NEIGHBOUR: 'it returns false'. Refute it at one input. -/
def fnExactScaledSchemeWrong : ChangeSpec := { name := "fnExactScaledScheme", fn := fun _ => fun
  | [d] => { results := [.lit (.bool false)], args := [d] }
  | _ => none }
def FnExactScaledSchemeWrongFalsely : Prop := fnExactScaledSchemeRow.holds Try.pinned (OpenSpec.ofChange fnExactScaledSchemeWrong)

/- THE SECOND FORM. 'bulk': how many values and letters a reading holds, each counted each time it is reached (what is shared counts as often as it is met; a slice's spare places count too). A statement '..UptoSaid' is the law's where the arguments, and the package variables that the reading takes, are together of bulk at most 1048576: NARROWER than '..Said'. Prove '..Said' where nothing that the law and all that it calls make is longer than what came in: it says more and counts as full. Else prove '..UptoSaid'. A law counts once. -/
mutual
def uptoBulk {H : Type} : DataW H → Nat
  | .lit (.string bytes) => bytes.length + 1
  | .lit _ => 1
  | .nil => 1
  | .ptr d => uptoBulk d + 1
  | .slice elems spare => uptoBulkAll elems + uptoBulkAll spare + 1
  | .agg parts => uptoBulkAll parts + 1
  | .iface _ d => uptoBulk d + 1
  | .map entries => uptoBulkEntries entries + 1
  | .held _ => 1
def uptoBulkAll {H : Type} : List (DataW H) → Nat
  | [] => 0
  | d :: r => uptoBulk d + uptoBulkAll r
def uptoBulkEntries {H : Type} : List (Lit × DataW H) → Nat
  | [] => 0
  | x :: r => uptoBulkEntry x + uptoBulkEntries r
def uptoBulkEntry {H : Type} : Lit × DataW H → Nat
  | (.string bytes, d) => bytes.length + uptoBulk d + 1
  | (_, d) => uptoBulk d + 1
 end
def uptoSmall : (H : Type) → List (DataW H) → Bool := fun _ ds => decide (uptoBulkAll ds ≤ 1048576)
def OpenSpec.upto (s : _root_.Go.ChangeSpec) : _root_.Go.OpenSpec := { _root_.Go.OpenSpec.ofChange s with cond := some uptoSmall }

/-- 'laws.FnExactSortScheme', WHERE WHAT IT READS IS OF BULK AT MOST 1048576: true; the input reads as it did. -/
def fnExactSortSchemeUptoRow : OpenClaim := { program := "ytmbjpnkedepijaa", sum := "82706999f195087098c7a7f03f621913c9327f26c383ea82f1e2875c82e0b7f0", func := "loop.example/g01262/laws.FnExactSortScheme", spec := "fnExactSortScheme", inPlace := ["internal/bytealg.Compare"], unfollowed := true, recurses := true, apart := false, narrowed := true }
def FnExactSortSchemeUptoSaid : Prop := fnExactSortSchemeUptoRow.holds Try.pinned (OpenSpec.upto fnExactSortSchemeSpec)

/-- 'laws.FnExactScaledScheme', WHERE WHAT IT READS IS OF BULK AT MOST 1048576: true; the input reads as it did. -/
def fnExactScaledSchemeUptoRow : OpenClaim := { program := "ytmbjpnkedepijaa", sum := "82706999f195087098c7a7f03f621913c9327f26c383ea82f1e2875c82e0b7f0", func := "loop.example/g01262/laws.FnExactScaledScheme", spec := "fnExactScaledScheme", inPlace := ["internal/bytealg.Compare"], unfollowed := true, recurses := true, apart := false, narrowed := true }
def FnExactScaledSchemeUptoSaid : Prop := fnExactScaledSchemeUptoRow.holds Try.pinned (OpenSpec.upto fnExactScaledSchemeSpec)

end Rows
end Go.Proofs.Ytmbjpnkedepijaa
