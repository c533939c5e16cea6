/-
  PROVED: laws.FnExactContractTensor returns true for every argument that comes in, and its arguments read afterwards as they read before: impl.ContractTensor answers as spec.ContractTensor does
  CONDITIONS: none beyond the row's own.
-/
import Derived.Test.YtolgfpcadfjliaaRows
import Derived.Test.YtolgfpcadfjliaaLawCtr
import Derived.Test.YtolgfpcadfjliaaOpenT
import Derived.ShutString
import Derived.ChangeOld
import Derived.Below
import Derived.Carry
namespace Go.Proofs.Ytolgfpcadfjliaa.contractTensorLaw
open Go.ChangeShapes Go.WideShapes Go.ChangeAt Go.RowKit
theorem own : ownKnob Try.prog.godebug = none := by kernel_rfl
theorem laidOut : laidOutB Try.prog = true := by kernel_rfl
set_option maxRecDepth 100000 in
theorem lifted (os : Os) (started : os.Started) (H : Type) (enc : TypeId × Value → H) :
    ReturnsInHanded {} Try.checked os 4 .any (Rows.fnExactContractTensorSpec.pre6 enc Try.prog Try.f4 Rows.fnExactContractTensorRow.domain false) (Rows.fnExactContractTensorSpec.post enc Try.prog Try.f4 false true false false) := by
  refine returnsInHanded_of_change (C := Try.checked) own started (by kernel_rfl) Try.func4
    (ChangeSpec.witness6 (enc := enc) (C := Try.checked) false ⟨#[], #[.agg #[.int .i64 0, .int .i64 0, .int .i64 0, .int .i64 0, .slice none 0 0], .int .i64 0, .slice none 0 0], []⟩ 8 (by kernel_rfl) (by kernel_rfl) (by kernel_rfl) (by kernel_rfl)) ?_
  intro W base args ds gs before hval0 hW _ _
  have hval : ∀ (j : Nat) t v, Try.f4.params[j]? = some t → args[j]? = some v → Value.okWide Try.prog W .any base t v := hval0
  have hW' := hW
  obtain ⟨p, q, hA0, hV, rfl, _, _⟩ := hW
  have hA : DataW.TrodAll enc Try.prog W 0 (fun _ => true) true Try.f4.params.toList args.toList ds p := hA0
  rw [Try.params4] at hA hval
  obtain ⟨v0, vs0, d0, ds0, p0, q0, hargs, rfl, rfl, h0, r0⟩ := trodAll_cons hA
  obtain ⟨v1, vs1, d1, ds1, p1, q1, rfl, rfl, rfl, h1, r1⟩ := trodAll_cons r0
  obtain ⟨v2, vs2, d2, ds2, p2, q2, rfl, rfl, rfl, h2, r2⟩ := trodAll_cons r1
  obtain ⟨rfl, rfl, rfl⟩ := trodAll_nil r2
  obtain rfl : args = #[v0, v1, v2] := by cases args; simp_all
  obtain ⟨rfl, rfl⟩ := trodVars_none hV
  have k0 := h0
  have lt0 : ∀ x ∈ p0, x.block < W.heap.size := by obtain ⟨m, hm⟩ := k0; exact DataW.trod_lt m _ _ _ hm
  have k2 := h2
  have lt2 : ∀ x ∈ p2, x.block < W.heap.size := by obtain ⟨m, hm⟩ := k2; exact DataW.trod_lt m _ _ _ hm
  obtain ⟨sp0, sn0, sm0, sk0, A0, c0, qs0, rfl, hr0, hq0⟩ := open_tensor (hval 0 24 v0 rfl rfl) h0
  obtain ⟨a1, rfl, rfl, rfl, w1⟩ := open_int Try.underlying2 (hval 1 2 v1 rfl rfl) h1
  obtain ⟨A2, c2, xs2, rfl, hl2⟩ := open_list (hval 2 22 v2 rfl rfl) h2
  clear hA0 hval0
  refine (lawContractTensor sp0 sn0 sm0 sk0 A0 c0 qs0 a1 A2 c2 xs2 W hr0 hq0 hl2.1 hl2.2).mono fun e W' ⟨he, bel⟩ => ?_
  subst he
  exact ⟨_, rfl, _, _, _, [], _, [], hW', trodAll_mk1 (shut_bool Try.underlying4 _), (trodAll_cons_mk (Below.trod laidOut (by kernel_rfl) (of_decide_eq_true (by kernel_rfl)) k0 bel lt0) (trodAll_cons_mk (shut_int Try.underlying2 w1) (trodAll_cons_mk (Below.trod laidOut (by kernel_rfl) (of_decide_eq_true (by kernel_rfl)) k2 bel lt2) trodAll_mk0))), rfl, bel.frame _, fun h => by cases h⟩

theorem k1 : Try.pinned.checked.prog.funcNamed Rows.fnExactContractTensorRow.func = some 4 := by kernel_rfl
theorem k2 : joinedFacts Try.pinned.checked.prog 4 Try.f4 Rows.fnExactContractTensorSpec Rows.fnExactContractTensorRow = true := by kernel_rfl
theorem k3 : Try.f4.isInstance Try.pinned.checked.prog Rows.fnExactContractTensorRow.origin Rows.fnExactContractTensorRow.targs := of_decide_eq_true (by kernel_rfl)
theorem k4 : Try.f4.isWrapper Try.pinned.checked.prog Rows.fnExactContractTensorRow.wrapper Rows.fnExactContractTensorRow.mainSum := by unfold Func.isWrapper; first | (rw [if_pos (by decide +kernel)]; kernel_rfl) | (rw [if_neg (by decide +kernel)]; exact ⟨rfl, rfl⟩)
theorem over : Rows.fnExactContractTensorRow.holds Try.pinned (OpenSpec.ofChange Rows.fnExactContractTensorSpec) :=
  OpenClaim.holds_of_wide 4 Try.f4 rfl rfl rfl rfl rfl rfl rfl ⟨rfl, rfl, rfl, rfl, rfl⟩ rfl rfl rfl rfl rfl k1 Try.func4 k2 k3 k4
    (fun os started H enc _ => lifted os started H enc)

theorem proved : Rows.FnExactContractTensorSaid := over
#print axioms proved
end Go.Proofs.Ytolgfpcadfjliaa.contractTensorLaw
