/-
  PROVED: laws.FnExactRowRank returns true for every argument that comes in, and its arguments read afterwards as they read before: impl.RowRank answers as spec.RowRank does
  CONDITIONS: none beyond the row's own.
-/
import Derived.Test.YtolgfpcadfjliaaRows
import Derived.Test.YtolgfpcadfjliaaLawRrk
import Derived.Test.YtolgfpcadfjliaaOpenM
import Derived.ShutString
import Derived.ChangeOld
import Derived.Below
import Derived.Carry
namespace Go.Proofs.Ytolgfpcadfjliaa.rowRankLaw
open Go.ChangeShapes Go.WideShapes Go.ChangeAt Go.RowKit
theorem own : ownKnob Try.prog.godebug = none := by kernel_rfl
theorem laidOut : laidOutB Try.prog = true := by kernel_rfl
set_option maxRecDepth 100000 in
theorem lifted (os : Os) (started : os.Started) (H : Type) (enc : TypeId × Value → H) :
    ReturnsInHanded {} Try.checked os 5 .any (Rows.fnExactRowRankSpec.pre6 enc Try.prog Try.f5 Rows.fnExactRowRankRow.domain false) (Rows.fnExactRowRankSpec.post enc Try.prog Try.f5 false true false false) := by
  refine returnsInHanded_of_change (C := Try.checked) own started (by kernel_rfl) Try.func5
    (ChangeSpec.witness6 (enc := enc) (C := Try.checked) false ⟨#[], #[.int .i64 0, .slice none 0 0], []⟩ 8 (by kernel_rfl) (by kernel_rfl) (by kernel_rfl) (by kernel_rfl)) ?_
  intro W base args ds gs before hval0 hW _ _
  have hval : ∀ (j : Nat) t v, Try.f5.params[j]? = some t → args[j]? = some v → Value.okWide Try.prog W .any base t v := hval0
  have hW' := hW
  obtain ⟨p, q, hA0, hV, rfl, _, _⟩ := hW
  have hA : DataW.TrodAll enc Try.prog W 0 (fun _ => true) true Try.f5.params.toList args.toList ds p := hA0
  rw [Try.params5] at hA hval
  obtain ⟨v0, vs0, d0, ds0, p0, q0, hargs, rfl, rfl, h0, r0⟩ := trodAll_cons hA
  obtain ⟨v1, vs1, d1, ds1, p1, q1, rfl, rfl, rfl, h1, r1⟩ := trodAll_cons r0
  obtain ⟨rfl, rfl, rfl⟩ := trodAll_nil r1
  obtain rfl : args = #[v0, v1] := by cases args; simp_all
  obtain ⟨rfl, rfl⟩ := trodVars_none hV
  have k1 := h1
  have lt1 : ∀ x ∈ p1, x.block < W.heap.size := by obtain ⟨m, hm⟩ := k1; exact DataW.trod_lt m _ _ _ hm
  obtain ⟨a0, rfl, rfl, rfl, w0⟩ := open_int Try.underlying2 (hval 0 2 v0 rfl rfl) h0
  obtain ⟨A1, c1, n1, row1, rfl, hm1⟩ := open_rows (hval 1 26 v1 rfl rfl) h1
  clear hA0 hval0
  refine (lawRowRank a0 A1 c1 n1 row1 W hm1.1 hm1.2.1 hm1.2.2).mono fun e W' ⟨he, bel⟩ => ?_
  subst he
  exact ⟨_, rfl, _, _, _, [], _, [], hW', trodAll_mk1 (shut_bool Try.underlying4 _), (trodAll_cons_mk (shut_int Try.underlying2 w0) (trodAll_cons_mk (Below.trod laidOut (by kernel_rfl) (of_decide_eq_true (by kernel_rfl)) k1 bel lt1) trodAll_mk0)), rfl, bel.frame _, fun h => by cases h⟩

theorem k1 : Try.pinned.checked.prog.funcNamed Rows.fnExactRowRankRow.func = some 5 := by kernel_rfl
theorem k2 : joinedFacts Try.pinned.checked.prog 5 Try.f5 Rows.fnExactRowRankSpec Rows.fnExactRowRankRow = true := by kernel_rfl
theorem k3 : Try.f5.isInstance Try.pinned.checked.prog Rows.fnExactRowRankRow.origin Rows.fnExactRowRankRow.targs := of_decide_eq_true (by kernel_rfl)
theorem k4 : Try.f5.isWrapper Try.pinned.checked.prog Rows.fnExactRowRankRow.wrapper Rows.fnExactRowRankRow.mainSum := by unfold Func.isWrapper; first | (rw [if_pos (by decide +kernel)]; kernel_rfl) | (rw [if_neg (by decide +kernel)]; exact ⟨rfl, rfl⟩)
theorem over : Rows.fnExactRowRankRow.holds Try.pinned (OpenSpec.ofChange Rows.fnExactRowRankSpec) :=
  OpenClaim.holds_of_wide 5 Try.f5 rfl rfl rfl rfl rfl rfl rfl ⟨rfl, rfl, rfl, rfl, rfl⟩ rfl rfl rfl rfl rfl k1 Try.func5 k2 k3 k4
    (fun os started H enc _ => lifted os started H enc)

theorem proved : Rows.FnExactRowRankSaid := over
#print axioms proved
end Go.Proofs.Ytolgfpcadfjliaa.rowRankLaw
