/-
  No cell of these rows narrows 'for every input' (looked for: loops, veiled, ifaces, maps, wideKeys, modest, calm, conditions, laid).
  DERIVED. THE GIVEN ROWS OF THIS SEAT. 5 by the template 'for every input the law returns true; each argument reads behind the call as it read before'; 0 by the template 'total and deterministic' (their statements: YtdbcgbbokodndaaTotals.lean).
  GIVEN WITH THE SEED: the statements are not yours to turn. If you find one false, say at which input.
  Laid BY PROGRAM, IN A SANDBOX (cutbox-rows.mjs): the forced cells as the released guide's own fill.sh prints them over the translation d751f8d5a15731ba… (all of the seat's roots in one cut). By AI agents, Wed Nov 11 2026. No macro, syntax, notation, axiom, sorry.
-/
import Derived.Test.YtdbcgbbokodndaaChecked
import GoSem.Claim
import GoSem.ClaimJoined
import GoSem.ClaimMapViews
import Derived.JoinedTies
import Derived.KernelRfl
namespace Go.Proofs.Ytdbcgbbokodndaa
/- THE CELL 'sum', in the pinned program and in every row, IS THE sha256 OF THE DUMP (.gsa) THAT YtdbcgbbokodndaaProg.lean LOADS. Nothing in Lean hashes anything: it is a label: what it is worth is what the hold of that sum in a sandbox is worth. -/
noncomputable def Try.pinned : Pinned := { name := "ytdbcgbbokodndaa", sum := "d751f8d5a15731ba8b508910d18f2fa41d722066c607ad169c19a7b91ecbbabb", checked := Try.checked }
namespace Rows
def none {H : Type} : Left H := { results := [], args := [] }

/-- 'laws.FnExactPlainMethod': WHATEVER THE INPUT: true; the input reads as it did. -/
def fnExactPlainMethodSpec : ChangeSpec := { name := "fnExactPlainMethod", fn := fun _ => fun
  | [d] => { results := [.lit (.bool true)], args := [d] }
  | _ => none }
def fnExactPlainMethodRow : OpenClaim := { program := "ytdbcgbbokodndaa", sum := "d751f8d5a15731ba8b508910d18f2fa41d722066c607ad169c19a7b91ecbbabb", func := "loop.example/g01262/laws.FnExactPlainMethod", spec := "fnExactPlainMethod", unfollowed := true, recurses := true, apart := false }
def FnExactPlainMethodSaid : Prop := fnExactPlainMethodRow.holds Try.pinned (OpenSpec.ofChange fnExactPlainMethodSpec)

/-- ITS FALSE NEIGHBOUR: 'it returns false'. Refute it at one input. -/
def fnExactPlainMethodWrong : ChangeSpec := { name := "fnExactPlainMethod", fn := fun _ => fun
  | [d] => { results := [.lit (.bool false)], args := [d] }
  | _ => none }
def FnExactPlainMethodWrongFalsely : Prop := fnExactPlainMethodRow.holds Try.pinned (OpenSpec.ofChange fnExactPlainMethodWrong)

/-- 'laws.FnExactRestTensor': WHATEVER THE INPUT: true; the input reads as it did. -/
def fnExactRestTensorSpec : ChangeSpec := { name := "fnExactRestTensor", fn := fun _ => fun
  | [d1, d2] => { results := [.lit (.bool true)], args := [d1, d2] }
  | _ => none }
def fnExactRestTensorRow : OpenClaim := { program := "ytdbcgbbokodndaa", sum := "d751f8d5a15731ba8b508910d18f2fa41d722066c607ad169c19a7b91ecbbabb", func := "loop.example/g01262/laws.FnExactRestTensor", spec := "fnExactRestTensor", unfollowed := true, recurses := true, apart := false }
def FnExactRestTensorSaid : Prop := fnExactRestTensorRow.holds Try.pinned (OpenSpec.ofChange fnExactRestTensorSpec)

/-- ITS FALSE NEIGHBOUR: 'it returns false'. Refute it at one input. -/
def fnExactRestTensorWrong : ChangeSpec := { name := "fnExactRestTensor", fn := fun _ => fun
  | [d1, d2] => { results := [.lit (.bool false)], args := [d1, d2] }
  | _ => none }
def FnExactRestTensorWrongFalsely : Prop := fnExactRestTensorRow.holds Try.pinned (OpenSpec.ofChange fnExactRestTensorWrong)

/-- 'laws.FnExactPolynomialTensor': WHATEVER THE INPUT: true; the input reads as it did. -/
def fnExactPolynomialTensorSpec : ChangeSpec := { name := "fnExactPolynomialTensor", fn := fun _ => fun
  | [d1, d2, d3] => { results := [.lit (.bool true)], args := [d1, d2, d3] }
  | _ => none }
def fnExactPolynomialTensorRow : OpenClaim := { program := "ytdbcgbbokodndaa", sum := "d751f8d5a15731ba8b508910d18f2fa41d722066c607ad169c19a7b91ecbbabb", func := "loop.example/g01262/laws.FnExactPolynomialTensor", spec := "fnExactPolynomialTensor", unfollowed := true, recurses := true, apart := false }
def FnExactPolynomialTensorSaid : Prop := fnExactPolynomialTensorRow.holds Try.pinned (OpenSpec.ofChange fnExactPolynomialTensorSpec)

/-- ITS FALSE NEIGHBOUR: 'it returns false'. Refute it at one input. -/
def fnExactPolynomialTensorWrong : ChangeSpec := { name := "fnExactPolynomialTensor", fn := fun _ => fun
  | [d1, d2, d3] => { results := [.lit (.bool false)], args := [d1, d2, d3] }
  | _ => none }
def FnExactPolynomialTensorWrongFalsely : Prop := fnExactPolynomialTensorRow.holds Try.pinned (OpenSpec.ofChange fnExactPolynomialTensorWrong)

/-- 'laws.FnExactTriangularTensor': WHATEVER THE INPUT: true; the input reads as it did. -/
def fnExactTriangularTensorSpec : ChangeSpec := { name := "fnExactTriangularTensor", fn := fun _ => fun
  | [d1, d2] => { results := [.lit (.bool true)], args := [d1, d2] }
  | _ => none }
def fnExactTriangularTensorRow : OpenClaim := { program := "ytdbcgbbokodndaa", sum := "d751f8d5a15731ba8b508910d18f2fa41d722066c607ad169c19a7b91ecbbabb", func := "loop.example/g01262/laws.FnExactTriangularTensor", spec := "fnExactTriangularTensor", unfollowed := true, recurses := true, apart := false }
def FnExactTriangularTensorSaid : Prop := fnExactTriangularTensorRow.holds Try.pinned (OpenSpec.ofChange fnExactTriangularTensorSpec)

/-- ITS FALSE NEIGHBOUR: 'it returns false'. Refute it at one input. -/
def fnExactTriangularTensorWrong : ChangeSpec := { name := "fnExactTriangularTensor", fn := fun _ => fun
  | [d1, d2] => { results := [.lit (.bool false)], args := [d1, d2] }
  | _ => none }
def FnExactTriangularTensorWrongFalsely : Prop := fnExactTriangularTensorRow.holds Try.pinned (OpenSpec.ofChange fnExactTriangularTensorWrong)

/-- 'laws.FnExactKaratsubaMethod': WHATEVER THE INPUT: true; the input reads as it did. -/
def fnExactKaratsubaMethodSpec : ChangeSpec := { name := "fnExactKaratsubaMethod", fn := fun _ => fun
  | [d] => { results := [.lit (.bool true)], args := [d] }
  | _ => none }
def fnExactKaratsubaMethodRow : OpenClaim := { program := "ytdbcgbbokodndaa", sum := "d751f8d5a15731ba8b508910d18f2fa41d722066c607ad169c19a7b91ecbbabb", func := "loop.example/g01262/laws.FnExactKaratsubaMethod", spec := "fnExactKaratsubaMethod", apart := false }
def FnExactKaratsubaMethodSaid : Prop := fnExactKaratsubaMethodRow.holds Try.pinned (OpenSpec.ofChange fnExactKaratsubaMethodSpec)

/-- ITS FALSE NEIGHBOUR: 'it returns false'. Refute it at one input. -/
def fnExactKaratsubaMethodWrong : ChangeSpec := { name := "fnExactKaratsubaMethod", fn := fun _ => fun
  | [d] => { results := [.lit (.bool false)], args := [d] }
  | _ => none }
def FnExactKaratsubaMethodWrongFalsely : Prop := fnExactKaratsubaMethodRow.holds Try.pinned (OpenSpec.ofChange fnExactKaratsubaMethodWrong)

/- THE SECOND FORM. 'bulk': how many values and letters a reading holds, each counted each time it is reached (what is shared counts as often as it is met; a slice's spare places count too). A statement '..UptoSaid' is the law's where the arguments, and the package variables that the reading takes, are together of bulk at most 1048576: NARROWER than '..Said'. Prove '..Said' where nothing that the law and all that it calls make is longer than what came in: it says more and counts as full. Else prove '..UptoSaid'. A law counts once. -/
mutual
def uptoBulk {H : Type} : DataW H → Nat
  | .lit (.string bytes) => bytes.length + 1
  | .lit _ => 1
  | .nil => 1
  | .ptr d => uptoBulk d + 1
  | .slice elems spare => uptoBulkAll elems + uptoBulkAll spare + 1
  | .agg parts => uptoBulkAll parts + 1
  | .iface _ d => uptoBulk d + 1
  | .map entries => uptoBulkEntries entries + 1
  | .held _ => 1
def uptoBulkAll {H : Type} : List (DataW H) → Nat
  | [] => 0
  | d :: r => uptoBulk d + uptoBulkAll r
def uptoBulkEntries {H : Type} : List (Lit × DataW H) → Nat
  | [] => 0
  | x :: r => uptoBulkEntry x + uptoBulkEntries r
def uptoBulkEntry {H : Type} : Lit × DataW H → Nat
  | (.string bytes, d) => bytes.length + uptoBulk d + 1
  | (_, d) => uptoBulk d + 1
 end
def uptoSmall : (H : Type) → List (DataW H) → Bool := fun _ ds => decide (uptoBulkAll ds ≤ 1048576)
def OpenSpec.upto (s : _root_.Go.ChangeSpec) : _root_.Go.OpenSpec := { _root_.Go.OpenSpec.ofChange s with cond := some uptoSmall }

/-- 'laws.FnExactPlainMethod', WHERE WHAT IT READS IS OF BULK AT MOST 1048576: true; the input reads as it did. -/
def fnExactPlainMethodUptoRow : OpenClaim := { program := "ytdbcgbbokodndaa", sum := "d751f8d5a15731ba8b508910d18f2fa41d722066c607ad169c19a7b91ecbbabb", func := "loop.example/g01262/laws.FnExactPlainMethod", spec := "fnExactPlainMethod", unfollowed := true, recurses := true, apart := false, narrowed := true }
def FnExactPlainMethodUptoSaid : Prop := fnExactPlainMethodUptoRow.holds Try.pinned (OpenSpec.upto fnExactPlainMethodSpec)

/-- 'laws.FnExactRestTensor', WHERE WHAT IT READS IS OF BULK AT MOST 1048576: true; the input reads as it did. -/
def fnExactRestTensorUptoRow : OpenClaim := { program := "ytdbcgbbokodndaa", sum := "d751f8d5a15731ba8b508910d18f2fa41d722066c607ad169c19a7b91ecbbabb", func := "loop.example/g01262/laws.FnExactRestTensor", spec := "fnExactRestTensor", unfollowed := true, recurses := true, apart := false, narrowed := true }
def FnExactRestTensorUptoSaid : Prop := fnExactRestTensorUptoRow.holds Try.pinned (OpenSpec.upto fnExactRestTensorSpec)

/-- 'laws.FnExactPolynomialTensor', WHERE WHAT IT READS IS OF BULK AT MOST 1048576: true; the input reads as it did. -/
def fnExactPolynomialTensorUptoRow : OpenClaim := { program := "ytdbcgbbokodndaa", sum := "d751f8d5a15731ba8b508910d18f2fa41d722066c607ad169c19a7b91ecbbabb", func := "loop.example/g01262/laws.FnExactPolynomialTensor", spec := "fnExactPolynomialTensor", unfollowed := true, recurses := true, apart := false, narrowed := true }
def FnExactPolynomialTensorUptoSaid : Prop := fnExactPolynomialTensorUptoRow.holds Try.pinned (OpenSpec.upto fnExactPolynomialTensorSpec)

/-- 'laws.FnExactTriangularTensor', WHERE WHAT IT READS IS OF BULK AT MOST 1048576: true; the input reads as it did. -/
def fnExactTriangularTensorUptoRow : OpenClaim := { program := "ytdbcgbbokodndaa", sum := "d751f8d5a15731ba8b508910d18f2fa41d722066c607ad169c19a7b91ecbbabb", func := "loop.example/g01262/laws.FnExactTriangularTensor", spec := "fnExactTriangularTensor", unfollowed := true, recurses := true, apart := false, narrowed := true }
def FnExactTriangularTensorUptoSaid : Prop := fnExactTriangularTensorUptoRow.holds Try.pinned (OpenSpec.upto fnExactTriangularTensorSpec)

/-- 'laws.FnExactKaratsubaMethod', WHERE WHAT IT READS IS OF BULK AT MOST 1048576: true; the input reads as it did. -/
def fnExactKaratsubaMethodUptoRow : OpenClaim := { program := "ytdbcgbbokodndaa", sum := "d751f8d5a15731ba8b508910d18f2fa41d722066c607ad169c19a7b91ecbbabb", func := "loop.example/g01262/laws.FnExactKaratsubaMethod", spec := "fnExactKaratsubaMethod", apart := false, narrowed := true }
def FnExactKaratsubaMethodUptoSaid : Prop := fnExactKaratsubaMethodUptoRow.holds Try.pinned (OpenSpec.upto fnExactKaratsubaMethodSpec)

end Rows
end Go.Proofs.Ytdbcgbbokodndaa
