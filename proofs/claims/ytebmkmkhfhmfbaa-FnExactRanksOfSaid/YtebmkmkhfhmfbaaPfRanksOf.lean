/-
  PROVED: laws.FnExactRanksOf returns true for every argument that comes in, and its arguments read afterwards as they read before: impl.RanksOf answers as spec.RanksOf does
  CONDITIONS: none beyond the row's own.
-/
import Derived.Test.YtebmkmkhfhmfbaaRows
import Derived.Test.YtebmkmkhfhmfbaaLawRra
import Derived.Test.YtebmkmkhfhmfbaaOpen
import Derived.ShutString
import Derived.ChangeOld
import Derived.Below
import Derived.Carry
namespace Go.Proofs.Ytebmkmkhfhmfbaa.ranksOfLaw
open Go.ChangeShapes Go.WideShapes Go.ChangeAt Go.RowKit
theorem own : ownKnob Try.prog.godebug = none := by kernel_rfl
theorem laidOut : laidOutB Try.prog = true := by kernel_rfl
set_option maxRecDepth 100000 in
theorem lifted (os : Os) (started : os.Started) (H : Type) (enc : TypeId × Value → H) :
    ReturnsInHanded {} Try.checked os 3 .any (Rows.fnExactRanksOfSpec.pre6 enc Try.prog Try.f3 Rows.fnExactRanksOfRow.domain false) (Rows.fnExactRanksOfSpec.post enc Try.prog Try.f3 false true false false) := by
  refine returnsInHanded_of_change (C := Try.checked) own started (by kernel_rfl) Try.func3
    (ChangeSpec.witness6 (enc := enc) (C := Try.checked) false ⟨#[], #[.agg #[.int .i64 0, .int .i64 0, .int .i64 0, .int .i64 0, .slice none 0 0]], []⟩ 8 (by kernel_rfl) (by kernel_rfl) (by kernel_rfl) (by kernel_rfl)) ?_
  intro W base args ds gs before hval0 hW _ _
  have hval : ∀ (j : Nat) t v, Try.f3.params[j]? = some t → args[j]? = some v → Value.okWide Try.prog W .any base t v := hval0
  have hW' := hW
  obtain ⟨p, q, hA0, hV, rfl, _, _⟩ := hW
  have hA : DataW.TrodAll enc Try.prog W 0 (fun _ => true) true Try.f3.params.toList args.toList ds p := hA0
  rw [Try.params3] at hA hval
  obtain ⟨v0, vs0, d0, ds0, p0, q0, hargs, rfl, rfl, h0, r0⟩ := trodAll_cons hA
  obtain ⟨rfl, rfl, rfl⟩ := trodAll_nil r0
  obtain rfl : args = #[v0] := by cases args; simp_all
  obtain ⟨rfl, rfl⟩ := trodVars_none hV
  have k0 := h0
  have lt0 : ∀ x ∈ p0, x.block < W.heap.size := by obtain ⟨m, hm⟩ := k0; exact DataW.trod_lt m _ _ _ hm
  obtain ⟨sp0, sn0, sm0, sk0, A0, c0, qs0, rfl, hr0, hq0⟩ := open_scheme (hval 0 24 v0 rfl rfl) h0
  clear hA0 hval0
  refine (lawRanksOf sp0 sn0 sm0 sk0 A0 c0 qs0 W hr0 hq0).mono fun e W' ⟨he, bel⟩ => ?_
  subst he
  exact ⟨_, rfl, _, _, _, [], _, [], hW', trodAll_mk1 (shut_bool Try.underlying4 _), (trodAll_cons_mk (Below.trod laidOut (by kernel_rfl) (of_decide_eq_true (by kernel_rfl)) k0 bel lt0) trodAll_mk0), rfl, bel.frame _, fun h => by cases h⟩

theorem k1 : Try.pinned.checked.prog.funcNamed Rows.fnExactRanksOfRow.func = some 3 := by kernel_rfl
theorem k2 : joinedFacts Try.pinned.checked.prog 3 Try.f3 Rows.fnExactRanksOfSpec Rows.fnExactRanksOfRow = true := by kernel_rfl
theorem k3 : Try.f3.isInstance Try.pinned.checked.prog Rows.fnExactRanksOfRow.origin Rows.fnExactRanksOfRow.targs := of_decide_eq_true (by kernel_rfl)
theorem k4 : Try.f3.isWrapper Try.pinned.checked.prog Rows.fnExactRanksOfRow.wrapper Rows.fnExactRanksOfRow.mainSum := by unfold Func.isWrapper; first | (rw [if_pos (by decide +kernel)]; kernel_rfl) | (rw [if_neg (by decide +kernel)]; exact ⟨rfl, rfl⟩)
theorem over : Rows.fnExactRanksOfRow.holds Try.pinned (OpenSpec.ofChange Rows.fnExactRanksOfSpec) :=
  OpenClaim.holds_of_wide 3 Try.f3 rfl rfl rfl rfl rfl rfl rfl ⟨rfl, rfl, rfl, rfl, rfl⟩ rfl rfl rfl rfl rfl k1 Try.func3 k2 k3 k4
    (fun os started H enc _ => lifted os started H enc)

theorem proved : Rows.FnExactRanksOfSaid := over
#print axioms proved
end Go.Proofs.Ytebmkmkhfhmfbaa.ranksOfLaw
