/-
  No cell of these rows narrows 'for every input' (looked for: loops, veiled, ifaces, maps, wideKeys, modest, calm, conditions, laid).
  DERIVED. THE GIVEN ROWS OF THIS SEAT. 4 by the template 'for every input the law returns true; each argument reads behind the call as it read before'; 0 by the template 'total and deterministic' (their statements: YtdgaphcpoincpaaTotals.lean).
  GIVEN WITH THE SEED: the statements are not yours to turn. If you find one false, say at which input.
  Laid BY PROGRAM, IN A SANDBOX (cutbox-rows.mjs): the forced cells as the released guide's own fill.sh prints them over the translation 06bebfb623c061d3… (all of the seat's roots in one cut). By AI agents, Wed Nov 11 2026. No macro, syntax, notation, axiom, sorry.
-/
import Derived.Test.YtdgaphcpoincpaaChecked
import GoSem.Claim
import GoSem.ClaimJoined
import GoSem.ClaimMapViews
import Derived.JoinedTies
import Derived.KernelRfl
namespace Go.Proofs.Ytdgaphcpoincpaa
/- THE CELL 'sum', in the pinned program and in every row, IS THE sha256 OF THE DUMP (.gsa) THAT YtdgaphcpoincpaaProg.lean LOADS. Nothing in Lean hashes anything: it is a label: what it is worth is what the hold of that sum in a sandbox is worth. -/
noncomputable def Try.pinned : Pinned := { name := "ytdgaphcpoincpaa", sum := "06bebfb623c061d3f8c5f6fc304891f70a5bbedadf71324b5a42ad5bafdef849", checked := Try.checked }
namespace Rows
def none {H : Type} : Left H := { results := [], args := [] }

/-- 'laws.FnExactIsTensor': WHATEVER THE INPUT: true; the input reads as it did. -/
def fnExactIsTensorSpec : ChangeSpec := { name := "fnExactIsTensor", fn := fun _ => fun
  | [d] => { results := [.lit (.bool true)], args := [d] }
  | _ => none }
def fnExactIsTensorRow : OpenClaim := { program := "ytdgaphcpoincpaa", sum := "06bebfb623c061d3f8c5f6fc304891f70a5bbedadf71324b5a42ad5bafdef849", func := "loop.example/g01262/laws.FnExactIsTensor", spec := "fnExactIsTensor", unfollowed := true, recurses := true, apart := false }
def FnExactIsTensorSaid : Prop := fnExactIsTensorRow.holds Try.pinned (OpenSpec.ofChange fnExactIsTensorSpec)

/-- ITS FALSE NEIGHBOUR: 'it returns false'. Refute it at one input. -/
def fnExactIsTensorWrong : ChangeSpec := { name := "fnExactIsTensor", fn := fun _ => fun
  | [d] => { results := [.lit (.bool false)], args := [d] }
  | _ => none }
def FnExactIsTensorWrongFalsely : Prop := fnExactIsTensorRow.holds Try.pinned (OpenSpec.ofChange fnExactIsTensorWrong)

/-- 'laws.FnExactNumberAt': WHATEVER THE INPUT: true; the input reads as it did. -/
def fnExactNumberAtSpec : ChangeSpec := { name := "fnExactNumberAt", fn := fun _ => fun
  | [d1, d2, d3, d4] => { results := [.lit (.bool true)], args := [d1, d2, d3, d4] }
  | _ => none }
def fnExactNumberAtRow : OpenClaim := { program := "ytdgaphcpoincpaa", sum := "06bebfb623c061d3f8c5f6fc304891f70a5bbedadf71324b5a42ad5bafdef849", func := "loop.example/g01262/laws.FnExactNumberAt", spec := "fnExactNumberAt", unfollowed := true, recurses := true, apart := false }
def FnExactNumberAtSaid : Prop := fnExactNumberAtRow.holds Try.pinned (OpenSpec.ofChange fnExactNumberAtSpec)

/-- ITS FALSE NEIGHBOUR: 'it returns false'. Refute it at one input. -/
def fnExactNumberAtWrong : ChangeSpec := { name := "fnExactNumberAt", fn := fun _ => fun
  | [d1, d2, d3, d4] => { results := [.lit (.bool false)], args := [d1, d2, d3, d4] }
  | _ => none }
def FnExactNumberAtWrongFalsely : Prop := fnExactNumberAtRow.holds Try.pinned (OpenSpec.ofChange fnExactNumberAtWrong)

/-- 'laws.FnExactTurnTensor': WHATEVER THE INPUT: true; the input reads as it did. -/
def fnExactTurnTensorSpec : ChangeSpec := { name := "fnExactTurnTensor", fn := fun _ => fun
  | [d] => { results := [.lit (.bool true)], args := [d] }
  | _ => none }
def fnExactTurnTensorRow : OpenClaim := { program := "ytdgaphcpoincpaa", sum := "06bebfb623c061d3f8c5f6fc304891f70a5bbedadf71324b5a42ad5bafdef849", func := "loop.example/g01262/laws.FnExactTurnTensor", spec := "fnExactTurnTensor", unfollowed := true, recurses := true, apart := false }
def FnExactTurnTensorSaid : Prop := fnExactTurnTensorRow.holds Try.pinned (OpenSpec.ofChange fnExactTurnTensorSpec)

/-- ITS FALSE NEIGHBOUR: 'it returns false'. Refute it at one input. -/
def fnExactTurnTensorWrong : ChangeSpec := { name := "fnExactTurnTensor", fn := fun _ => fun
  | [d] => { results := [.lit (.bool false)], args := [d] }
  | _ => none }
def FnExactTurnTensorWrongFalsely : Prop := fnExactTurnTensorRow.holds Try.pinned (OpenSpec.ofChange fnExactTurnTensorWrong)

/-- 'laws.FnExactAddTensors': WHATEVER THE INPUT: true; the input reads as it did. -/
def fnExactAddTensorsSpec : ChangeSpec := { name := "fnExactAddTensors", fn := fun _ => fun
  | [d1, d2, d3] => { results := [.lit (.bool true)], args := [d1, d2, d3] }
  | _ => none }
def fnExactAddTensorsRow : OpenClaim := { program := "ytdgaphcpoincpaa", sum := "06bebfb623c061d3f8c5f6fc304891f70a5bbedadf71324b5a42ad5bafdef849", func := "loop.example/g01262/laws.FnExactAddTensors", spec := "fnExactAddTensors", unfollowed := true, recurses := true, apart := false }
def FnExactAddTensorsSaid : Prop := fnExactAddTensorsRow.holds Try.pinned (OpenSpec.ofChange fnExactAddTensorsSpec)

/-- ITS FALSE NEIGHBOUR: 'it returns false'. Refute it at one input. -/
def fnExactAddTensorsWrong : ChangeSpec := { name := "fnExactAddTensors", fn := fun _ => fun
  | [d1, d2, d3] => { results := [.lit (.bool false)], args := [d1, d2, d3] }
  | _ => none }
def FnExactAddTensorsWrongFalsely : Prop := fnExactAddTensorsRow.holds Try.pinned (OpenSpec.ofChange fnExactAddTensorsWrong)

/- THE SECOND FORM. 'bulk': how many values and letters a reading holds, each counted each time it is reached (what is shared counts as often as it is met; a slice's spare places count too). A statement '..UptoSaid' is the law's where the arguments, and the package variables that the reading takes, are together of bulk at most 1048576: NARROWER than '..Said'. Prove '..Said' where nothing that the law and all that it calls make is longer than what came in: it says more and counts as full. Else prove '..UptoSaid'. A law counts once. -/
mutual
def uptoBulk {H : Type} : DataW H → Nat
  | .lit (.string bytes) => bytes.length + 1
  | .lit _ => 1
  | .nil => 1
  | .ptr d => uptoBulk d + 1
  | .slice elems spare => uptoBulkAll elems + uptoBulkAll spare + 1
  | .agg parts => uptoBulkAll parts + 1
  | .iface _ d => uptoBulk d + 1
  | .map entries => uptoBulkEntries entries + 1
  | .held _ => 1
def uptoBulkAll {H : Type} : List (DataW H) → Nat
  | [] => 0
  | d :: r => uptoBulk d + uptoBulkAll r
def uptoBulkEntries {H : Type} : List (Lit × DataW H) → Nat
  | [] => 0
  | x :: r => uptoBulkEntry x + uptoBulkEntries r
def uptoBulkEntry {H : Type} : Lit × DataW H → Nat
  | (.string bytes, d) => bytes.length + uptoBulk d + 1
  | (_, d) => uptoBulk d + 1
 end
def uptoSmall : (H : Type) → List (DataW H) → Bool := fun _ ds => decide (uptoBulkAll ds ≤ 1048576)
def OpenSpec.upto (s : _root_.Go.ChangeSpec) : _root_.Go.OpenSpec := { _root_.Go.OpenSpec.ofChange s with cond := some uptoSmall }

/-- 'laws.FnExactIsTensor', WHERE WHAT IT READS IS OF BULK AT MOST 1048576: true; the input reads as it did. -/
def fnExactIsTensorUptoRow : OpenClaim := { program := "ytdgaphcpoincpaa", sum := "06bebfb623c061d3f8c5f6fc304891f70a5bbedadf71324b5a42ad5bafdef849", func := "loop.example/g01262/laws.FnExactIsTensor", spec := "fnExactIsTensor", unfollowed := true, recurses := true, apart := false, narrowed := true }
def FnExactIsTensorUptoSaid : Prop := fnExactIsTensorUptoRow.holds Try.pinned (OpenSpec.upto fnExactIsTensorSpec)

/-- 'laws.FnExactNumberAt', WHERE WHAT IT READS IS OF BULK AT MOST 1048576: true; the input reads as it did. -/
def fnExactNumberAtUptoRow : OpenClaim := { program := "ytdgaphcpoincpaa", sum := "06bebfb623c061d3f8c5f6fc304891f70a5bbedadf71324b5a42ad5bafdef849", func := "loop.example/g01262/laws.FnExactNumberAt", spec := "fnExactNumberAt", unfollowed := true, recurses := true, apart := false, narrowed := true }
def FnExactNumberAtUptoSaid : Prop := fnExactNumberAtUptoRow.holds Try.pinned (OpenSpec.upto fnExactNumberAtSpec)

/-- 'laws.FnExactTurnTensor', WHERE WHAT IT READS IS OF BULK AT MOST 1048576: true; the input reads as it did. -/
def fnExactTurnTensorUptoRow : OpenClaim := { program := "ytdgaphcpoincpaa", sum := "06bebfb623c061d3f8c5f6fc304891f70a5bbedadf71324b5a42ad5bafdef849", func := "loop.example/g01262/laws.FnExactTurnTensor", spec := "fnExactTurnTensor", unfollowed := true, recurses := true, apart := false, narrowed := true }
def FnExactTurnTensorUptoSaid : Prop := fnExactTurnTensorUptoRow.holds Try.pinned (OpenSpec.upto fnExactTurnTensorSpec)

/-- 'laws.FnExactAddTensors', WHERE WHAT IT READS IS OF BULK AT MOST 1048576: true; the input reads as it did. -/
def fnExactAddTensorsUptoRow : OpenClaim := { program := "ytdgaphcpoincpaa", sum := "06bebfb623c061d3f8c5f6fc304891f70a5bbedadf71324b5a42ad5bafdef849", func := "loop.example/g01262/laws.FnExactAddTensors", spec := "fnExactAddTensors", unfollowed := true, recurses := true, apart := false, narrowed := true }
def FnExactAddTensorsUptoSaid : Prop := fnExactAddTensorsUptoRow.holds Try.pinned (OpenSpec.upto fnExactAddTensorsSpec)

end Rows
end Go.Proofs.Ytdgaphcpoincpaa
