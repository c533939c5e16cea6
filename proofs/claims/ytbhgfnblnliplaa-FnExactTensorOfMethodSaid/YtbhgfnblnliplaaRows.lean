/-
  No cell of these rows narrows 'for every input' (looked for: loops, veiled, ifaces, maps, wideKeys, modest, calm, conditions, laid).
  DERIVED. THE GIVEN ROWS OF THIS SEAT. 6 by the template 'for every input the law returns true; each argument reads behind the call as it read before'; 0 by the template 'total and deterministic' (their statements: YtbhgfnblnliplaaTotals.lean).
  GIVEN WITH THE SEED: the statements are not yours to turn. If you find one false, say at which input.
  Laid BY PROGRAM, IN A SANDBOX (cutbox-rows.mjs): the forced cells as the released guide's own fill.sh prints them over the translation 0a2f0f7593747418… (all of the seat's roots in one cut). By AI agents, Wed Nov 11 2026. No macro, syntax, notation, axiom, sorry.
-/
import Derived.Test.YtbhgfnblnliplaaChecked
import GoSem.Claim
import GoSem.ClaimJoined
import GoSem.ClaimMapViews
import Derived.JoinedTies
import Derived.KernelRfl
namespace Go.Proofs.Ytbhgfnblnliplaa
/- THE CELL 'sum', in the pinned program and in every row, IS THE sha256 OF THE DUMP (.gsa) THAT YtbhgfnblnliplaaProg.lean LOADS. Nothing in Lean hashes anything: it is a label: what it is worth is what the hold of that sum in a sandbox is worth. -/
noncomputable def Try.pinned : Pinned := { name := "ytbhgfnblnliplaa", sum := "0a2f0f7593747418d91239410a27d4b54fcc58792a9212bb8dda425f69fb3b94", checked := Try.checked }
namespace Rows
def none {H : Type} : Left H := { results := [], args := [] }

/-- 'laws.FnExactIsMethod': WHATEVER THE INPUT: true; the input reads as it did. -/
def fnExactIsMethodSpec : ChangeSpec := { name := "fnExactIsMethod", fn := fun _ => fun
  | [d] => { results := [.lit (.bool true)], args := [d] }
  | _ => none }
def fnExactIsMethodRow : OpenClaim := { program := "ytbhgfnblnliplaa", sum := "0a2f0f7593747418d91239410a27d4b54fcc58792a9212bb8dda425f69fb3b94", func := "loop.example/g01262/laws.FnExactIsMethod", spec := "fnExactIsMethod", unfollowed := true, recurses := true, apart := false }
def FnExactIsMethodSaid : Prop := fnExactIsMethodRow.holds Try.pinned (OpenSpec.ofChange fnExactIsMethodSpec)

/-- ITS FALSE NEIGHBOUR: 'it returns false'. Refute it at one input. -/
def fnExactIsMethodWrong : ChangeSpec := { name := "fnExactIsMethod", fn := fun _ => fun
  | [d] => { results := [.lit (.bool false)], args := [d] }
  | _ => none }
def FnExactIsMethodWrongFalsely : Prop := fnExactIsMethodRow.holds Try.pinned (OpenSpec.ofChange fnExactIsMethodWrong)

/-- 'laws.FnExactTensorOfMethod': WHATEVER THE INPUT: true; the input reads as it did. -/
def fnExactTensorOfMethodSpec : ChangeSpec := { name := "fnExactTensorOfMethod", fn := fun _ => fun
  | [d] => { results := [.lit (.bool true)], args := [d] }
  | _ => none }
def fnExactTensorOfMethodRow : OpenClaim := { program := "ytbhgfnblnliplaa", sum := "0a2f0f7593747418d91239410a27d4b54fcc58792a9212bb8dda425f69fb3b94", func := "loop.example/g01262/laws.FnExactTensorOfMethod", spec := "fnExactTensorOfMethod", unfollowed := true, recurses := true, apart := false }
def FnExactTensorOfMethodSaid : Prop := fnExactTensorOfMethodRow.holds Try.pinned (OpenSpec.ofChange fnExactTensorOfMethodSpec)

/-- ITS FALSE NEIGHBOUR: 'it returns false'. Refute it at one input. -/
def fnExactTensorOfMethodWrong : ChangeSpec := { name := "fnExactTensorOfMethod", fn := fun _ => fun
  | [d] => { results := [.lit (.bool false)], args := [d] }
  | _ => none }
def FnExactTensorOfMethodWrongFalsely : Prop := fnExactTensorOfMethodRow.holds Try.pinned (OpenSpec.ofChange fnExactTensorOfMethodWrong)

/-- 'laws.FnExactPolynomialTensor': WHATEVER THE INPUT: true; the input reads as it did. -/
def fnExactPolynomialTensorSpec : ChangeSpec := { name := "fnExactPolynomialTensor", fn := fun _ => fun
  | [d1, d2, d3] => { results := [.lit (.bool true)], args := [d1, d2, d3] }
  | _ => none }
def fnExactPolynomialTensorRow : OpenClaim := { program := "ytbhgfnblnliplaa", sum := "0a2f0f7593747418d91239410a27d4b54fcc58792a9212bb8dda425f69fb3b94", func := "loop.example/g01262/laws.FnExactPolynomialTensor", spec := "fnExactPolynomialTensor", unfollowed := true, recurses := true, apart := false }
def FnExactPolynomialTensorSaid : Prop := fnExactPolynomialTensorRow.holds Try.pinned (OpenSpec.ofChange fnExactPolynomialTensorSpec)

/-- ITS FALSE NEIGHBOUR: 'it returns false'. Refute it at one input. -/
def fnExactPolynomialTensorWrong : ChangeSpec := { name := "fnExactPolynomialTensor", fn := fun _ => fun
  | [d1, d2, d3] => { results := [.lit (.bool false)], args := [d1, d2, d3] }
  | _ => none }
def FnExactPolynomialTensorWrongFalsely : Prop := fnExactPolynomialTensorRow.holds Try.pinned (OpenSpec.ofChange fnExactPolynomialTensorWrong)

/-- 'laws.FnExactKaratsubaMethod': WHATEVER THE INPUT: true; the input reads as it did. -/
def fnExactKaratsubaMethodSpec : ChangeSpec := { name := "fnExactKaratsubaMethod", fn := fun _ => fun
  | [d] => { results := [.lit (.bool true)], args := [d] }
  | _ => none }
def fnExactKaratsubaMethodRow : OpenClaim := { program := "ytbhgfnblnliplaa", sum := "0a2f0f7593747418d91239410a27d4b54fcc58792a9212bb8dda425f69fb3b94", func := "loop.example/g01262/laws.FnExactKaratsubaMethod", spec := "fnExactKaratsubaMethod", apart := false }
def FnExactKaratsubaMethodSaid : Prop := fnExactKaratsubaMethodRow.holds Try.pinned (OpenSpec.ofChange fnExactKaratsubaMethodSpec)

/-- ITS FALSE NEIGHBOUR: 'it returns false'. Refute it at one input. -/
def fnExactKaratsubaMethodWrong : ChangeSpec := { name := "fnExactKaratsubaMethod", fn := fun _ => fun
  | [d] => { results := [.lit (.bool false)], args := [d] }
  | _ => none }
def FnExactKaratsubaMethodWrongFalsely : Prop := fnExactKaratsubaMethodRow.holds Try.pinned (OpenSpec.ofChange fnExactKaratsubaMethodWrong)

/-- 'laws.FnExactMethodOfScheme': WHATEVER THE INPUT: true; the input reads as it did. -/
def fnExactMethodOfSchemeSpec : ChangeSpec := { name := "fnExactMethodOfScheme", fn := fun _ => fun
  | [d] => { results := [.lit (.bool true)], args := [d] }
  | _ => none }
def fnExactMethodOfSchemeRow : OpenClaim := { program := "ytbhgfnblnliplaa", sum := "0a2f0f7593747418d91239410a27d4b54fcc58792a9212bb8dda425f69fb3b94", func := "loop.example/g01262/laws.FnExactMethodOfScheme", spec := "fnExactMethodOfScheme", unfollowed := true, recurses := true, apart := false }
def FnExactMethodOfSchemeSaid : Prop := fnExactMethodOfSchemeRow.holds Try.pinned (OpenSpec.ofChange fnExactMethodOfSchemeSpec)

/-- ITS FALSE NEIGHBOUR: 'it returns false'. Refute it at one input. -/
def fnExactMethodOfSchemeWrong : ChangeSpec := { name := "fnExactMethodOfScheme", fn := fun _ => fun
  | [d] => { results := [.lit (.bool false)], args := [d] }
  | _ => none }
def FnExactMethodOfSchemeWrongFalsely : Prop := fnExactMethodOfSchemeRow.holds Try.pinned (OpenSpec.ofChange fnExactMethodOfSchemeWrong)

/-- 'laws.FnExactTurnMethod': WHATEVER THE INPUT: true; the input reads as it did. -/
def fnExactTurnMethodSpec : ChangeSpec := { name := "fnExactTurnMethod", fn := fun _ => fun
  | [d] => { results := [.lit (.bool true)], args := [d] }
  | _ => none }
def fnExactTurnMethodRow : OpenClaim := { program := "ytbhgfnblnliplaa", sum := "0a2f0f7593747418d91239410a27d4b54fcc58792a9212bb8dda425f69fb3b94", func := "loop.example/g01262/laws.FnExactTurnMethod", spec := "fnExactTurnMethod", unfollowed := true, recurses := true, apart := false }
def FnExactTurnMethodSaid : Prop := fnExactTurnMethodRow.holds Try.pinned (OpenSpec.ofChange fnExactTurnMethodSpec)

/-- ITS FALSE NEIGHBOUR: 'it returns false'. Refute it at one input. -/
def fnExactTurnMethodWrong : ChangeSpec := { name := "fnExactTurnMethod", fn := fun _ => fun
  | [d] => { results := [.lit (.bool false)], args := [d] }
  | _ => none }
def FnExactTurnMethodWrongFalsely : Prop := fnExactTurnMethodRow.holds Try.pinned (OpenSpec.ofChange fnExactTurnMethodWrong)

/- THE SECOND FORM. 'bulk': how many values and letters a reading holds, each counted each time it is reached (what is shared counts as often as it is met; a slice's spare places count too). A statement '..UptoSaid' is the law's where the arguments, and the package variables that the reading takes, are together of bulk at most 1048576: NARROWER than '..Said'. Prove '..Said' where nothing that the law and all that it calls make is longer than what came in: it says more and counts as full. Else prove '..UptoSaid'. A law counts once. -/
mutual
def uptoBulk {H : Type} : DataW H → Nat
  | .lit (.string bytes) => bytes.length + 1
  | .lit _ => 1
  | .nil => 1
  | .ptr d => uptoBulk d + 1
  | .slice elems spare => uptoBulkAll elems + uptoBulkAll spare + 1
  | .agg parts => uptoBulkAll parts + 1
  | .iface _ d => uptoBulk d + 1
  | .map entries => uptoBulkEntries entries + 1
  | .held _ => 1
def uptoBulkAll {H : Type} : List (DataW H) → Nat
  | [] => 0
  | d :: r => uptoBulk d + uptoBulkAll r
def uptoBulkEntries {H : Type} : List (Lit × DataW H) → Nat
  | [] => 0
  | x :: r => uptoBulkEntry x + uptoBulkEntries r
def uptoBulkEntry {H : Type} : Lit × DataW H → Nat
  | (.string bytes, d) => bytes.length + uptoBulk d + 1
  | (_, d) => uptoBulk d + 1
 end
def uptoSmall : (H : Type) → List (DataW H) → Bool := fun _ ds => decide (uptoBulkAll ds ≤ 1048576)
def OpenSpec.upto (s : _root_.Go.ChangeSpec) : _root_.Go.OpenSpec := { _root_.Go.OpenSpec.ofChange s with cond := some uptoSmall }

/-- 'laws.FnExactIsMethod', WHERE WHAT IT READS IS OF BULK AT MOST 1048576: true; the input reads as it did. -/
def fnExactIsMethodUptoRow : OpenClaim := { program := "ytbhgfnblnliplaa", sum := "0a2f0f7593747418d91239410a27d4b54fcc58792a9212bb8dda425f69fb3b94", func := "loop.example/g01262/laws.FnExactIsMethod", spec := "fnExactIsMethod", unfollowed := true, recurses := true, apart := false, narrowed := true }
def FnExactIsMethodUptoSaid : Prop := fnExactIsMethodUptoRow.holds Try.pinned (OpenSpec.upto fnExactIsMethodSpec)

/-- 'laws.FnExactTensorOfMethod', WHERE WHAT IT READS IS OF BULK AT MOST 1048576: true; the input reads as it did. -/
def fnExactTensorOfMethodUptoRow : OpenClaim := { program := "ytbhgfnblnliplaa", sum := "0a2f0f7593747418d91239410a27d4b54fcc58792a9212bb8dda425f69fb3b94", func := "loop.example/g01262/laws.FnExactTensorOfMethod", spec := "fnExactTensorOfMethod", unfollowed := true, recurses := true, apart := false, narrowed := true }
def FnExactTensorOfMethodUptoSaid : Prop := fnExactTensorOfMethodUptoRow.holds Try.pinned (OpenSpec.upto fnExactTensorOfMethodSpec)

/-- 'laws.FnExactPolynomialTensor', WHERE WHAT IT READS IS OF BULK AT MOST 1048576: true; the input reads as it did. -/
def fnExactPolynomialTensorUptoRow : OpenClaim := { program := "ytbhgfnblnliplaa", sum := "0a2f0f7593747418d91239410a27d4b54fcc58792a9212bb8dda425f69fb3b94", func := "loop.example/g01262/laws.FnExactPolynomialTensor", spec := "fnExactPolynomialTensor", unfollowed := true, recurses := true, apart := false, narrowed := true }
def FnExactPolynomialTensorUptoSaid : Prop := fnExactPolynomialTensorUptoRow.holds Try.pinned (OpenSpec.upto fnExactPolynomialTensorSpec)

/-- 'laws.FnExactKaratsubaMethod', WHERE WHAT IT READS IS OF BULK AT MOST 1048576: true; the input reads as it did. -/
def fnExactKaratsubaMethodUptoRow : OpenClaim := { program := "ytbhgfnblnliplaa", sum := "0a2f0f7593747418d91239410a27d4b54fcc58792a9212bb8dda425f69fb3b94", func := "loop.example/g01262/laws.FnExactKaratsubaMethod", spec := "fnExactKaratsubaMethod", apart := false, narrowed := true }
def FnExactKaratsubaMethodUptoSaid : Prop := fnExactKaratsubaMethodUptoRow.holds Try.pinned (OpenSpec.upto fnExactKaratsubaMethodSpec)

/-- 'laws.FnExactMethodOfScheme', WHERE WHAT IT READS IS OF BULK AT MOST 1048576: true; the input reads as it did. -/
def fnExactMethodOfSchemeUptoRow : OpenClaim := { program := "ytbhgfnblnliplaa", sum := "0a2f0f7593747418d91239410a27d4b54fcc58792a9212bb8dda425f69fb3b94", func := "loop.example/g01262/laws.FnExactMethodOfScheme", spec := "fnExactMethodOfScheme", unfollowed := true, recurses := true, apart := false, narrowed := true }
def FnExactMethodOfSchemeUptoSaid : Prop := fnExactMethodOfSchemeUptoRow.holds Try.pinned (OpenSpec.upto fnExactMethodOfSchemeSpec)

/-- 'laws.FnExactTurnMethod', WHERE WHAT IT READS IS OF BULK AT MOST 1048576: true; the input reads as it did. -/
def fnExactTurnMethodUptoRow : OpenClaim := { program := "ytbhgfnblnliplaa", sum := "0a2f0f7593747418d91239410a27d4b54fcc58792a9212bb8dda425f69fb3b94", func := "loop.example/g01262/laws.FnExactTurnMethod", spec := "fnExactTurnMethod", unfollowed := true, recurses := true, apart := false, narrowed := true }
def FnExactTurnMethodUptoSaid : Prop := fnExactTurnMethodUptoRow.holds Try.pinned (OpenSpec.upto fnExactTurnMethodSpec)

end Rows
end Go.Proofs.Ytbhgfnblnliplaa
