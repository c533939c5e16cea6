/-
  PROVED: laws.FnExactKaratsubaMethod returns true for every argument that comes in, and its arguments read afterwards as they read before: impl.KaratsubaMethod answers as spec.KaratsubaMethod does
  CONDITIONS: none beyond the row's own.
-/
import Derived.Test.YtdbcgbbokodndaaRows
import Derived.Test.YtdbcgbbokodndaaLawKar
import Derived.Test.YtdbcgbbokodndaaOpen
import Derived.ShutString
import Derived.ChangeOld
import Derived.Below
import Derived.Carry
namespace Go.Proofs.Ytdbcgbbokodndaa.karatsubaMethodLaw
open Go.ChangeShapes Go.WideShapes Go.ChangeAt Go.RowKit
theorem own : ownKnob Try.prog.godebug = none := by kernel_rfl
theorem laidOut : laidOutB Try.prog = true := by kernel_rfl
set_option maxRecDepth 100000 in
theorem lifted (os : Os) (started : os.Started) (H : Type) (enc : TypeId × Value → H) :
    ReturnsInHanded {} Try.checked os 7 .any (Rows.fnExactKaratsubaMethodSpec.pre6 enc Try.prog Try.f7 Rows.fnExactKaratsubaMethodRow.domain false) (Rows.fnExactKaratsubaMethodSpec.post enc Try.prog Try.f7 false true false false) := by
  refine returnsInHanded_of_change (C := Try.checked) own started (by kernel_rfl) Try.func7
    (ChangeSpec.witness6 (enc := enc) (C := Try.checked) false ⟨#[], #[.int .i64 0], []⟩ 8 (by kernel_rfl) (by kernel_rfl) (by kernel_rfl) (by kernel_rfl)) ?_
  intro W base args ds gs before hval0 hW _ _
  have hval : ∀ (j : Nat) t v, Try.f7.params[j]? = some t → args[j]? = some v → Value.okWide Try.prog W .any base t v := hval0
  have hW' := hW
  obtain ⟨p, q, hA0, hV, rfl, _, _⟩ := hW
  have hA : DataW.TrodAll enc Try.prog W 0 (fun _ => true) true Try.f7.params.toList args.toList ds p := hA0
  rw [Try.params7] at hA hval
  obtain ⟨v0, vs0, d0, ds0, p0, q0, hargs, rfl, rfl, h0, r0⟩ := trodAll_cons hA
  obtain ⟨rfl, rfl, rfl⟩ := trodAll_nil r0
  obtain rfl : args = #[v0] := by cases args; simp_all
  obtain ⟨rfl, rfl⟩ := trodVars_none hV
  obtain ⟨a0, rfl, rfl, rfl, w0⟩ := open_int Try.underlying2 (hval 0 2 v0 rfl rfl) h0
  clear hA0 hval0
  refine (lawKaratsubaMethod a0 W ).mono fun e W' ⟨he, bel⟩ => ?_
  subst he
  exact ⟨_, rfl, _, _, _, [], _, [], hW', trodAll_mk1 (shut_bool Try.underlying4 _), (trodAll_cons_mk (shut_int Try.underlying2 w0) trodAll_mk0), rfl, bel.frame _, fun h => by cases h⟩

theorem k1 : Try.pinned.checked.prog.funcNamed Rows.fnExactKaratsubaMethodRow.func = some 7 := by kernel_rfl
theorem k2 : joinedFacts Try.pinned.checked.prog 7 Try.f7 Rows.fnExactKaratsubaMethodSpec Rows.fnExactKaratsubaMethodRow = true := by kernel_rfl
theorem k3 : Try.f7.isInstance Try.pinned.checked.prog Rows.fnExactKaratsubaMethodRow.origin Rows.fnExactKaratsubaMethodRow.targs := of_decide_eq_true (by kernel_rfl)
theorem k4 : Try.f7.isWrapper Try.pinned.checked.prog Rows.fnExactKaratsubaMethodRow.wrapper Rows.fnExactKaratsubaMethodRow.mainSum := by unfold Func.isWrapper; first | (rw [if_pos (by decide +kernel)]; kernel_rfl) | (rw [if_neg (by decide +kernel)]; exact ⟨rfl, rfl⟩)
theorem over : Rows.fnExactKaratsubaMethodRow.holds Try.pinned (OpenSpec.ofChange Rows.fnExactKaratsubaMethodSpec) :=
  OpenClaim.holds_of_wide 7 Try.f7 rfl rfl rfl rfl rfl rfl rfl ⟨rfl, rfl, rfl, rfl, rfl⟩ rfl rfl rfl rfl rfl k1 Try.func7 k2 k3 k4
    (fun os started H enc _ => lifted os started H enc)

theorem proved : Rows.FnExactKaratsubaMethodSaid := over
#print axioms proved
end Go.Proofs.Ytdbcgbbokodndaa.karatsubaMethodLaw
