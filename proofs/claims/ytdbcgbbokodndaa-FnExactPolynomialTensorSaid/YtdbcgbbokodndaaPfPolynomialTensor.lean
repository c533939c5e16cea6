/-
  PROVED: laws.FnExactPolynomialTensor returns true for every argument that comes in, and its arguments read afterwards as they read before: impl.PolynomialTensor answers as spec.PolynomialTensor does
  CONDITIONS: none beyond the row's own.
-/
import Derived.Test.YtdbcgbbokodndaaRows
import Derived.Test.YtdbcgbbokodndaaLawPolt
import Derived.Test.YtdbcgbbokodndaaOpen
import Derived.ShutString
import Derived.ChangeOld
import Derived.Below
import Derived.Carry
namespace Go.Proofs.Ytdbcgbbokodndaa.polynomialTensorLaw
open Go.ChangeShapes Go.WideShapes Go.ChangeAt Go.RowKit
theorem own : ownKnob Try.prog.godebug = none := by kernel_rfl
theorem laidOut : laidOutB Try.prog = true := by kernel_rfl
set_option maxRecDepth 100000 in
theorem lifted (os : Os) (started : os.Started) (H : Type) (enc : TypeId × Value → H) :
    ReturnsInHanded {} Try.checked os 5 .any (Rows.fnExactPolynomialTensorSpec.pre6 enc Try.prog Try.f5 Rows.fnExactPolynomialTensorRow.domain false) (Rows.fnExactPolynomialTensorSpec.post enc Try.prog Try.f5 false true false false) := by
  refine returnsInHanded_of_change (C := Try.checked) own started (by kernel_rfl) Try.func5
    (ChangeSpec.witness6 (enc := enc) (C := Try.checked) false ⟨#[], #[.int .i64 0, .int .i64 0, .int .i64 0], []⟩ 8 (by kernel_rfl) (by kernel_rfl) (by kernel_rfl) (by kernel_rfl)) ?_
  intro W base args ds gs before hval0 hW _ _
  have hval : ∀ (j : Nat) t v, Try.f5.params[j]? = some t → args[j]? = some v → Value.okWide Try.prog W .any base t v := hval0
  have hW' := hW
  obtain ⟨p, q, hA0, hV, rfl, _, _⟩ := hW
  have hA : DataW.TrodAll enc Try.prog W 0 (fun _ => true) true Try.f5.params.toList args.toList ds p := hA0
  rw [Try.params5] at hA hval
  obtain ⟨v0, vs0, d0, ds0, p0, q0, hargs, rfl, rfl, h0, r0⟩ := trodAll_cons hA
  obtain ⟨v1, vs1, d1, ds1, p1, q1, rfl, rfl, rfl, h1, r1⟩ := trodAll_cons r0
  obtain ⟨v2, vs2, d2, ds2, p2, q2, rfl, rfl, rfl, h2, r2⟩ := trodAll_cons r1
  obtain ⟨rfl, rfl, rfl⟩ := trodAll_nil r2
  obtain rfl : args = #[v0, v1, v2] := by cases args; simp_all
  obtain ⟨rfl, rfl⟩ := trodVars_none hV
  obtain ⟨a0, rfl, rfl, rfl, w0⟩ := open_int Try.underlying2 (hval 0 2 v0 rfl rfl) h0
  obtain ⟨a1, rfl, rfl, rfl, w1⟩ := open_int Try.underlying2 (hval 1 2 v1 rfl rfl) h1
  obtain ⟨a2, rfl, rfl, rfl, w2⟩ := open_int Try.underlying2 (hval 2 2 v2 rfl rfl) h2
  clear hA0 hval0
  refine (lawPolynomialTensor a0 a1 a2 W ).mono fun e W' ⟨he, bel⟩ => ?_
  subst he
  exact ⟨_, rfl, _, _, _, [], _, [], hW', trodAll_mk1 (shut_bool Try.underlying4 _), (trodAll_cons_mk (shut_int Try.underlying2 w0) (trodAll_cons_mk (shut_int Try.underlying2 w1) (trodAll_cons_mk (shut_int Try.underlying2 w2) trodAll_mk0))), rfl, bel.frame _, fun h => by cases h⟩

theorem k1 : Try.pinned.checked.prog.funcNamed Rows.fnExactPolynomialTensorRow.func = some 5 := by kernel_rfl
theorem k2 : joinedFacts Try.pinned.checked.prog 5 Try.f5 Rows.fnExactPolynomialTensorSpec Rows.fnExactPolynomialTensorRow = true := by kernel_rfl
theorem k3 : Try.f5.isInstance Try.pinned.checked.prog Rows.fnExactPolynomialTensorRow.origin Rows.fnExactPolynomialTensorRow.targs := of_decide_eq_true (by kernel_rfl)
theorem k4 : Try.f5.isWrapper Try.pinned.checked.prog Rows.fnExactPolynomialTensorRow.wrapper Rows.fnExactPolynomialTensorRow.mainSum := by unfold Func.isWrapper; first | (rw [if_pos (by decide +kernel)]; kernel_rfl) | (rw [if_neg (by decide +kernel)]; exact ⟨rfl, rfl⟩)
theorem over : Rows.fnExactPolynomialTensorRow.holds Try.pinned (OpenSpec.ofChange Rows.fnExactPolynomialTensorSpec) :=
  OpenClaim.holds_of_wide 5 Try.f5 rfl rfl rfl rfl rfl rfl rfl ⟨rfl, rfl, rfl, rfl, rfl⟩ rfl rfl rfl rfl rfl k1 Try.func5 k2 k3 k4
    (fun os started H enc _ => lifted os started H enc)

theorem proved : Rows.FnExactPolynomialTensorSaid := over
#print axioms proved
end Go.Proofs.Ytdbcgbbokodndaa.polynomialTensorLaw
