/-
  No cell of these rows narrows 'for every input' (looked for: loops, veiled, ifaces, maps, wideKeys, modest, calm, conditions, laid).
  DERIVED. THE GIVEN ROWS OF THIS SEAT. 3 by the template 'for every input the law returns true; each argument reads behind the call as it read before'; 0 by the template 'total and deterministic' (their statements: YtlonjaooelepnaaTotals.lean).
  GIVEN WITH THE SEED: the statements are not yours to turn. If you find one false, say at which input.
  Laid BY PROGRAM, IN A SANDBOX (cutbox-rows.mjs): the forced cells as the released guide's own fill.sh prints them over the translation 1dc68c54221042f9… (all of the seat's roots in one cut). By AI agents, Wed Nov 11 2026. No macro, syntax, notation, axiom, sorry.
-/
import Derived.Test.YtlonjaooelepnaaChecked
import GoSem.Claim
import GoSem.ClaimJoined
import GoSem.ClaimMapViews
import Derived.JoinedTies
import Derived.KernelRfl
namespace Go.Proofs.Ytlonjaooelepnaa
/- THE CELL 'sum', in the pinned program and in every row, IS THE sha256 OF THE DUMP (.gsa) THAT YtlonjaooelepnaaProg.lean LOADS. Nothing in Lean hashes anything: it is a label: what it is worth is what the hold of that sum in a sandbox is worth. -/
noncomputable def Try.pinned : Pinned := { name := "ytlonjaooelepnaa", sum := "1dc68c54221042f96fcdfb6d369c7ce84d5a9ec7ed6d6633af427583032dd72e", checked := Try.checked }
namespace Rows
def none {H : Type} : Left H := { results := [], args := [] }

/-- 'laws.FnExactRestTensor': WHATEVER THE INPUT: true; the input reads as it did. -/
def fnExactRestTensorSpec : ChangeSpec := { name := "fnExactRestTensor", fn := fun _ => fun
  | [d1, d2] => { results := [.lit (.bool true)], args := [d1, d2] }
  | _ => none }
def fnExactRestTensorRow : OpenClaim := { program := "ytlonjaooelepnaa", sum := "1dc68c54221042f96fcdfb6d369c7ce84d5a9ec7ed6d6633af427583032dd72e", func := "loop.example/g01262/laws.FnExactRestTensor", spec := "fnExactRestTensor", unfollowed := true, recurses := true, apart := false }
def FnExactRestTensorSaid : Prop := fnExactRestTensorRow.holds Try.pinned (OpenSpec.ofChange fnExactRestTensorSpec)

/-- ITS FALSE NEIGHBOUR: 'it returns false'. Refute it at one input. -/
def fnExactRestTensorWrong : ChangeSpec := { name := "fnExactRestTensor", fn := fun _ => fun
  | [d1, d2] => { results := [.lit (.bool false)], args := [d1, d2] }
  | _ => none }
def FnExactRestTensorWrongFalsely : Prop := fnExactRestTensorRow.holds Try.pinned (OpenSpec.ofChange fnExactRestTensorWrong)

/-- 'laws.FnExactPlainMethod': WHATEVER THE INPUT: true; the input reads as it did. -/
def fnExactPlainMethodSpec : ChangeSpec := { name := "fnExactPlainMethod", fn := fun _ => fun
  | [d] => { results := [.lit (.bool true)], args := [d] }
  | _ => none }
def fnExactPlainMethodRow : OpenClaim := { program := "ytlonjaooelepnaa", sum := "1dc68c54221042f96fcdfb6d369c7ce84d5a9ec7ed6d6633af427583032dd72e", func := "loop.example/g01262/laws.FnExactPlainMethod", spec := "fnExactPlainMethod", unfollowed := true, recurses := true, apart := false }
def FnExactPlainMethodSaid : Prop := fnExactPlainMethodRow.holds Try.pinned (OpenSpec.ofChange fnExactPlainMethodSpec)

/-- ITS FALSE NEIGHBOUR: 'it returns false'. Refute it at one input. -/
def fnExactPlainMethodWrong : ChangeSpec := { name := "fnExactPlainMethod", fn := fun _ => fun
  | [d] => { results := [.lit (.bool false)], args := [d] }
  | _ => none }
def FnExactPlainMethodWrongFalsely : Prop := fnExactPlainMethodRow.holds Try.pinned (OpenSpec.ofChange fnExactPlainMethodWrong)

/-- 'laws.FnExactKroneckerMethods': WHATEVER THE INPUT: true; the input reads as it did. -/
def fnExactKroneckerMethodsSpec : ChangeSpec := { name := "fnExactKroneckerMethods", fn := fun _ => fun
  | [d1, d2] => { results := [.lit (.bool true)], args := [d1, d2] }
  | _ => none }
def fnExactKroneckerMethodsRow : OpenClaim := { program := "ytlonjaooelepnaa", sum := "1dc68c54221042f96fcdfb6d369c7ce84d5a9ec7ed6d6633af427583032dd72e", func := "loop.example/g01262/laws.FnExactKroneckerMethods", spec := "fnExactKroneckerMethods", unfollowed := true, recurses := true, apart := false }
def FnExactKroneckerMethodsSaid : Prop := fnExactKroneckerMethodsRow.holds Try.pinned (OpenSpec.ofChange fnExactKroneckerMethodsSpec)

/-- ITS FALSE NEIGHBOUR: 'it returns false'. Refute it at one input. -/
def fnExactKroneckerMethodsWrong : ChangeSpec := { name := "fnExactKroneckerMethods", fn := fun _ => fun
  | [d1, d2] => { results := [.lit (.bool false)], args := [d1, d2] }
  | _ => none }
def FnExactKroneckerMethodsWrongFalsely : Prop := fnExactKroneckerMethodsRow.holds Try.pinned (OpenSpec.ofChange fnExactKroneckerMethodsWrong)

/- THE SECOND FORM. 'bulk': how many values and letters a reading holds, each counted each time it is reached (what is shared counts as often as it is met; a slice's spare places count too). A statement '..UptoSaid' is the law's where the arguments, and the package variables that the reading takes, are together of bulk at most 1048576: NARROWER than '..Said'. Prove '..Said' where nothing that the law and all that it calls make is longer than what came in: it says more and counts as full. Else prove '..UptoSaid'. A law counts once. -/
mutual
def uptoBulk {H : Type} : DataW H → Nat
  | .lit (.string bytes) => bytes.length + 1
  | .lit _ => 1
  | .nil => 1
  | .ptr d => uptoBulk d + 1
  | .slice elems spare => uptoBulkAll elems + uptoBulkAll spare + 1
  | .agg parts => uptoBulkAll parts + 1
  | .iface _ d => uptoBulk d + 1
  | .map entries => uptoBulkEntries entries + 1
  | .held _ => 1
def uptoBulkAll {H : Type} : List (DataW H) → Nat
  | [] => 0
  | d :: r => uptoBulk d + uptoBulkAll r
def uptoBulkEntries {H : Type} : List (Lit × DataW H) → Nat
  | [] => 0
  | x :: r => uptoBulkEntry x + uptoBulkEntries r
def uptoBulkEntry {H : Type} : Lit × DataW H → Nat
  | (.string bytes, d) => bytes.length + uptoBulk d + 1
  | (_, d) => uptoBulk d + 1
 end
def uptoSmall : (H : Type) → List (DataW H) → Bool := fun _ ds => decide (uptoBulkAll ds ≤ 1048576)
def OpenSpec.upto (s : _root_.Go.ChangeSpec) : _root_.Go.OpenSpec := { _root_.Go.OpenSpec.ofChange s with cond := some uptoSmall }

/-- 'laws.FnExactRestTensor', WHERE WHAT IT READS IS OF BULK AT MOST 1048576: true; the input reads as it did. -/
def fnExactRestTensorUptoRow : OpenClaim := { program := "ytlonjaooelepnaa", sum := "1dc68c54221042f96fcdfb6d369c7ce84d5a9ec7ed6d6633af427583032dd72e", func := "loop.example/g01262/laws.FnExactRestTensor", spec := "fnExactRestTensor", unfollowed := true, recurses := true, apart := false, narrowed := true }
def FnExactRestTensorUptoSaid : Prop := fnExactRestTensorUptoRow.holds Try.pinned (OpenSpec.upto fnExactRestTensorSpec)

/-- 'laws.FnExactPlainMethod', WHERE WHAT IT READS IS OF BULK AT MOST 1048576: true; the input reads as it did. -/
def fnExactPlainMethodUptoRow : OpenClaim := { program := "ytlonjaooelepnaa", sum := "1dc68c54221042f96fcdfb6d369c7ce84d5a9ec7ed6d6633af427583032dd72e", func := "loop.example/g01262/laws.FnExactPlainMethod", spec := "fnExactPlainMethod", unfollowed := true, recurses := true, apart := false, narrowed := true }
def FnExactPlainMethodUptoSaid : Prop := fnExactPlainMethodUptoRow.holds Try.pinned (OpenSpec.upto fnExactPlainMethodSpec)

/-- 'laws.FnExactKroneckerMethods', WHERE WHAT IT READS IS OF BULK AT MOST 1048576: true; the input reads as it did. -/
def fnExactKroneckerMethodsUptoRow : OpenClaim := { program := "ytlonjaooelepnaa", sum := "1dc68c54221042f96fcdfb6d369c7ce84d5a9ec7ed6d6633af427583032dd72e", func := "loop.example/g01262/laws.FnExactKroneckerMethods", spec := "fnExactKroneckerMethods", unfollowed := true, recurses := true, apart := false, narrowed := true }
def FnExactKroneckerMethodsUptoSaid : Prop := fnExactKroneckerMethodsUptoRow.holds Try.pinned (OpenSpec.upto fnExactKroneckerMethodsSpec)

end Rows
end Go.Proofs.Ytlonjaooelepnaa
