/-
  No cell of these rows narrows 'for every input' (looked for: loops, veiled, ifaces, maps, wideKeys, modest, calm, conditions, laid).
  DERIVED. THE GIVEN ROWS OF THIS SEAT. 4 by the template 'for every input the law returns true; each argument reads behind the call as it read before'; 0 by the template 'total and deterministic' (their statements: YtphccbilldfdpaaTotals.lean).
  GIVEN WITH THE SEED: the statements are not yours to turn. If you find one false, say at which input.
  Laid BY PROGRAM, IN A SANDBOX (cutbox-rows.mjs): the forced cells as the released guide's own fill.sh prints them over the translation 72bde190000fbfa6… (all of the seat's roots in one cut). By AI agents, Wed Nov 11 2026. No macro, syntax, notation, axiom, sorry.
-/
import Derived.Test.YtphccbilldfdpaaChecked
import GoSem.Claim
import GoSem.ClaimJoined
import GoSem.ClaimMapViews
import Derived.JoinedTies
import Derived.KernelRfl
namespace Go.Proofs.Ytphccbilldfdpaa
/- THE CELL 'sum', in the pinned program and in every row, IS THE sha256 OF THE DUMP (.gsa) THAT YtphccbilldfdpaaProg.lean LOADS. Nothing in Lean hashes anything: it is a label: what it is worth is what the hold of that sum in a sandbox is worth. -/
noncomputable def Try.pinned : Pinned := { name := "ytphccbilldfdpaa", sum := "72bde190000fbfa6b7c98f7f1593697b1b983d72879c91aba2677d1738a6b9b1", checked := Try.checked }
namespace Rows
def none {H : Type} : Left H := { results := [], args := [] }

/-- 'laws.FnExactFirstGain': WHATEVER THE INPUT: true; the input reads as it did. -/
def fnExactFirstGainSpec : ChangeSpec := { name := "fnExactFirstGain", fn := fun _ => fun
  | [d1, d2] => { results := [.lit (.bool true)], args := [d1, d2] }
  | _ => none }
def fnExactFirstGainRow : OpenClaim := { program := "ytphccbilldfdpaa", sum := "72bde190000fbfa6b7c98f7f1593697b1b983d72879c91aba2677d1738a6b9b1", func := "loop.example/g01262/laws.FnExactFirstGain", spec := "fnExactFirstGain", unfollowed := true, recurses := true, apart := false }
def FnExactFirstGainSaid : Prop := fnExactFirstGainRow.holds Try.pinned (OpenSpec.ofChange fnExactFirstGainSpec)

/-- ITS FALSE NEIGHBOUR: 'it returns false'. Refute it at one input. -/
def fnExactFirstGainWrong : ChangeSpec := { name := "fnExactFirstGain", fn := fun _ => fun
  | [d1, d2] => { results := [.lit (.bool false)], args := [d1, d2] }
  | _ => none }
def FnExactFirstGainWrongFalsely : Prop := fnExactFirstGainRow.holds Try.pinned (OpenSpec.ofChange fnExactFirstGainWrong)

/-- 'laws.FnExactGreaterSize': WHATEVER THE INPUT: true; the input reads as it did. -/
def fnExactGreaterSizeSpec : ChangeSpec := { name := "fnExactGreaterSize", fn := fun _ => fun
  | [d1, d2] => { results := [.lit (.bool true)], args := [d1, d2] }
  | _ => none }
def fnExactGreaterSizeRow : OpenClaim := { program := "ytphccbilldfdpaa", sum := "72bde190000fbfa6b7c98f7f1593697b1b983d72879c91aba2677d1738a6b9b1", func := "loop.example/g01262/laws.FnExactGreaterSize", spec := "fnExactGreaterSize", unfollowed := true, recurses := true, apart := false }
def FnExactGreaterSizeSaid : Prop := fnExactGreaterSizeRow.holds Try.pinned (OpenSpec.ofChange fnExactGreaterSizeSpec)

/-- ITS FALSE NEIGHBOUR: 'it returns false'. Refute it at one input. -/
def fnExactGreaterSizeWrong : ChangeSpec := { name := "fnExactGreaterSize", fn := fun _ => fun
  | [d1, d2] => { results := [.lit (.bool false)], args := [d1, d2] }
  | _ => none }
def FnExactGreaterSizeWrongFalsely : Prop := fnExactGreaterSizeRow.holds Try.pinned (OpenSpec.ofChange fnExactGreaterSizeWrong)

/-- 'laws.FnExactIsExponentAtMost': WHATEVER THE INPUT: true; the input reads as it did. -/
def fnExactIsExponentAtMostSpec : ChangeSpec := { name := "fnExactIsExponentAtMost", fn := fun _ => fun
  | [d1, d2, d3] => { results := [.lit (.bool true)], args := [d1, d2, d3] }
  | _ => none }
def fnExactIsExponentAtMostRow : OpenClaim := { program := "ytphccbilldfdpaa", sum := "72bde190000fbfa6b7c98f7f1593697b1b983d72879c91aba2677d1738a6b9b1", func := "loop.example/g01262/laws.FnExactIsExponentAtMost", spec := "fnExactIsExponentAtMost", unfollowed := true, recurses := true, apart := false }
def FnExactIsExponentAtMostSaid : Prop := fnExactIsExponentAtMostRow.holds Try.pinned (OpenSpec.ofChange fnExactIsExponentAtMostSpec)

/-- ITS FALSE NEIGHBOUR: 'it returns false'. Refute it at one input. -/
def fnExactIsExponentAtMostWrong : ChangeSpec := { name := "fnExactIsExponentAtMost", fn := fun _ => fun
  | [d1, d2, d3] => { results := [.lit (.bool false)], args := [d1, d2, d3] }
  | _ => none }
def FnExactIsExponentAtMostWrongFalsely : Prop := fnExactIsExponentAtMostRow.holds Try.pinned (OpenSpec.ofChange fnExactIsExponentAtMostWrong)

/-- 'laws.FnExactCompareExponents': WHATEVER THE INPUT: true; the input reads as it did. -/
def fnExactCompareExponentsSpec : ChangeSpec := { name := "fnExactCompareExponents", fn := fun _ => fun
  | [d1, d2] => { results := [.lit (.bool true)], args := [d1, d2] }
  | _ => none }
def fnExactCompareExponentsRow : OpenClaim := { program := "ytphccbilldfdpaa", sum := "72bde190000fbfa6b7c98f7f1593697b1b983d72879c91aba2677d1738a6b9b1", func := "loop.example/g01262/laws.FnExactCompareExponents", spec := "fnExactCompareExponents", unfollowed := true, recurses := true, apart := false }
def FnExactCompareExponentsSaid : Prop := fnExactCompareExponentsRow.holds Try.pinned (OpenSpec.ofChange fnExactCompareExponentsSpec)

/-- ITS FALSE NEIGHBOUR: 'it returns false'. Refute it at one input. -/
def fnExactCompareExponentsWrong : ChangeSpec := { name := "fnExactCompareExponents", fn := fun _ => fun
  | [d1, d2] => { results := [.lit (.bool false)], args := [d1, d2] }
  | _ => none }
def FnExactCompareExponentsWrongFalsely : Prop := fnExactCompareExponentsRow.holds Try.pinned (OpenSpec.ofChange fnExactCompareExponentsWrong)

/- THE SECOND FORM. 'bulk': how many values and letters a reading holds, each counted each time it is reached (what is shared counts as often as it is met; a slice's spare places count too). A statement '..UptoSaid' is the law's where the arguments, and the package variables that the reading takes, are together of bulk at most 1048576: NARROWER than '..Said'. Prove '..Said' where nothing that the law and all that it calls make is longer than what came in: it says more and counts as full. Else prove '..UptoSaid'. A law counts once. -/
mutual
def uptoBulk {H : Type} : DataW H → Nat
  | .lit (.string bytes) => bytes.length + 1
  | .lit _ => 1
  | .nil => 1
  | .ptr d => uptoBulk d + 1
  | .slice elems spare => uptoBulkAll elems + uptoBulkAll spare + 1
  | .agg parts => uptoBulkAll parts + 1
  | .iface _ d => uptoBulk d + 1
  | .map entries => uptoBulkEntries entries + 1
  | .held _ => 1
def uptoBulkAll {H : Type} : List (DataW H) → Nat
  | [] => 0
  | d :: r => uptoBulk d + uptoBulkAll r
def uptoBulkEntries {H : Type} : List (Lit × DataW H) → Nat
  | [] => 0
  | x :: r => uptoBulkEntry x + uptoBulkEntries r
def uptoBulkEntry {H : Type} : Lit × DataW H → Nat
  | (.string bytes, d) => bytes.length + uptoBulk d + 1
  | (_, d) => uptoBulk d + 1
 end
def uptoSmall : (H : Type) → List (DataW H) → Bool := fun _ ds => decide (uptoBulkAll ds ≤ 1048576)
def OpenSpec.upto (s : _root_.Go.ChangeSpec) : _root_.Go.OpenSpec := { _root_.Go.OpenSpec.ofChange s with cond := some uptoSmall }

/-- 'laws.FnExactFirstGain', WHERE WHAT IT READS IS OF BULK AT MOST 1048576: true; the input reads as it did. -/
def fnExactFirstGainUptoRow : OpenClaim := { program := "ytphccbilldfdpaa", sum := "72bde190000fbfa6b7c98f7f1593697b1b983d72879c91aba2677d1738a6b9b1", func := "loop.example/g01262/laws.FnExactFirstGain", spec := "fnExactFirstGain", unfollowed := true, recurses := true, apart := false, narrowed := true }
def FnExactFirstGainUptoSaid : Prop := fnExactFirstGainUptoRow.holds Try.pinned (OpenSpec.upto fnExactFirstGainSpec)

/-- 'laws.FnExactGreaterSize', WHERE WHAT IT READS IS OF BULK AT MOST 1048576: true; the input reads as it did. -/
def fnExactGreaterSizeUptoRow : OpenClaim := { program := "ytphccbilldfdpaa", sum := "72bde190000fbfa6b7c98f7f1593697b1b983d72879c91aba2677d1738a6b9b1", func := "loop.example/g01262/laws.FnExactGreaterSize", spec := "fnExactGreaterSize", unfollowed := true, recurses := true, apart := false, narrowed := true }
def FnExactGreaterSizeUptoSaid : Prop := fnExactGreaterSizeUptoRow.holds Try.pinned (OpenSpec.upto fnExactGreaterSizeSpec)

/-- 'laws.FnExactIsExponentAtMost', WHERE WHAT IT READS IS OF BULK AT MOST 1048576: true; the input reads as it did. -/
def fnExactIsExponentAtMostUptoRow : OpenClaim := { program := "ytphccbilldfdpaa", sum := "72bde190000fbfa6b7c98f7f1593697b1b983d72879c91aba2677d1738a6b9b1", func := "loop.example/g01262/laws.FnExactIsExponentAtMost", spec := "fnExactIsExponentAtMost", unfollowed := true, recurses := true, apart := false, narrowed := true }
def FnExactIsExponentAtMostUptoSaid : Prop := fnExactIsExponentAtMostUptoRow.holds Try.pinned (OpenSpec.upto fnExactIsExponentAtMostSpec)

/-- 'laws.FnExactCompareExponents', WHERE WHAT IT READS IS OF BULK AT MOST 1048576: true; the input reads as it did. -/
def fnExactCompareExponentsUptoRow : OpenClaim := { program := "ytphccbilldfdpaa", sum := "72bde190000fbfa6b7c98f7f1593697b1b983d72879c91aba2677d1738a6b9b1", func := "loop.example/g01262/laws.FnExactCompareExponents", spec := "fnExactCompareExponents", unfollowed := true, recurses := true, apart := false, narrowed := true }
def FnExactCompareExponentsUptoSaid : Prop := fnExactCompareExponentsUptoRow.holds Try.pinned (OpenSpec.upto fnExactCompareExponentsSpec)

end Rows
end Go.Proofs.Ytphccbilldfdpaa
