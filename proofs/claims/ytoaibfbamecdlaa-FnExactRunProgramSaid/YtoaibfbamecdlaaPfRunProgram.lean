/-
  PROVED: laws.FnExactRunProgram returns true for every argument that comes in, and its arguments read afterwards as they read before: impl.RunProgram answers as spec.RunProgram does
  CONDITIONS: none beyond the row's own.
-/
import Derived.Test.YtoaibfbamecdlaaRows
import Derived.Test.YtoaibfbamecdlaaLawRup
import Derived.Test.YtoaibfbamecdlaaOpenG
import Derived.ShutString
import Derived.ChangeOld
import Derived.Below
import Derived.Carry
import Derived.Conc.Holds
import Derived.Leaving
namespace Go.Proofs.Ytoaibfbamecdlaa.runProgramLaw
open Go.ChangeShapes Go.WideShapes Go.ChangeAt Go.RowKit
theorem leavingOfAlone {a : Assume} {C : Checked} {os : Os} {f : FuncId} {r : Reach} {Pre : World → Array Value → Prop} {Post : World → Array Value → Value → World → Prop}
    (h : ReturnsInHanded a C os f r Pre Post) : ReturnsInLeavingWide a C os f r Pre Post := fun e =>
  ReturnsInOpen.mono (fun _ _ _ x => ⟨x.2.1, onlyLeaving_of_quiet x.1, x.2.2⟩) (fun _ x => x) (h e)
theorem own : ownKnob Try.prog.godebug = none := by kernel_rfl
theorem laidOut : laidOutB Try.prog = true := by kernel_rfl
set_option maxRecDepth 100000 in
theorem lifted (os : Os) (started : os.Started) (H : Type) (enc : TypeId × Value → H) :
    ReturnsInHanded {} Try.checked os 3 .any (Rows.fnExactRunProgramSpec.pre6 enc Try.prog Try.f3 Rows.fnExactRunProgramRow.domain false) (Rows.fnExactRunProgramSpec.post enc Try.prog Try.f3 false true false false) := by
  refine returnsInHanded_of_change (C := Try.checked) own started (by kernel_rfl) Try.func3
    (ChangeSpec.witness6 (enc := enc) (C := Try.checked) false ⟨#[], #[.agg #[.int .i64 0, .int .i64 0, .slice none 0 0, .slice none 0 0], .slice none 0 0], []⟩ 8 (by kernel_rfl) (by kernel_rfl) (by kernel_rfl) (by kernel_rfl)) ?_
  intro W base args ds gs before hval0 hW _ _
  have hval : ∀ (j : Nat) t v, Try.f3.params[j]? = some t → args[j]? = some v → Value.okWide Try.prog W .any base t v := hval0
  have hW' := hW
  obtain ⟨p, q, hA0, hV, rfl, _, _⟩ := hW
  have hA : DataW.TrodAll enc Try.prog W 0 (fun _ => true) true Try.f3.params.toList args.toList ds p := hA0
  rw [Try.params3] at hA hval
  obtain ⟨v0, vs0, d0, ds0, p0, q0, hargs, rfl, rfl, h0, r0⟩ := trodAll_cons hA
  obtain ⟨v1, vs1, d1, ds1, p1, q1, rfl, rfl, rfl, h1, r1⟩ := trodAll_cons r0
  obtain ⟨rfl, rfl, rfl⟩ := trodAll_nil r1
  obtain rfl : args = #[v0, v1] := by cases args; simp_all
  obtain ⟨rfl, rfl⟩ := trodVars_none hV
  have k0 := h0
  have lt0 : ∀ x ∈ p0, x.block < W.heap.size := by obtain ⟨m, hm⟩ := k0; exact DataW.trod_lt m _ _ _ hm
  have k1 := h1
  have lt1 : ∀ x ∈ p1, x.block < W.heap.size := by obtain ⟨m, hm⟩ := k1; exact DataW.trod_lt m _ _ _ hm
  obtain ⟨sp0, sn0, As0, cs0, ss0, Ao0, co0, os0, rfl, hr0, hn0, hs0, ho0⟩ := open_program (hval 0 25 v0 rfl rfl) h0
  obtain ⟨A1, c1, xs1, rfl, hl1⟩ := open_list (hval 1 26 v1 rfl rfl) h1
  clear hA0 hval0
  refine (lawRunProgram sp0 sn0 As0 Ao0 cs0 co0 ss0 os0 A1 c1 xs1 W hr0 hn0 hs0 ho0 hl1.1 hl1.2).mono fun e W' ⟨he, bel⟩ => ?_
  subst he
  exact ⟨_, rfl, _, _, _, [], _, [], hW', trodAll_mk1 (shut_bool Try.underlying4 _), (trodAll_cons_mk (Below.trod laidOut (by kernel_rfl) (of_decide_eq_true (by kernel_rfl)) k0 bel lt0) (trodAll_cons_mk (Below.trod laidOut (by kernel_rfl) (of_decide_eq_true (by kernel_rfl)) k1 bel lt1) trodAll_mk0)), rfl, bel.frame _, fun h => by cases h⟩

theorem k1 : Try.pinned.checked.prog.funcNamed Rows.fnExactRunProgramRow.func = some 3 := by kernel_rfl
theorem k2 : joinedFacts Try.pinned.checked.prog 3 Try.f3 Rows.fnExactRunProgramSpec Rows.fnExactRunProgramRow = true := by kernel_rfl
theorem k3 : Try.f3.isInstance Try.pinned.checked.prog Rows.fnExactRunProgramRow.origin Rows.fnExactRunProgramRow.targs := of_decide_eq_true (by kernel_rfl)
theorem k4 : Try.f3.isWrapper Try.pinned.checked.prog Rows.fnExactRunProgramRow.wrapper Rows.fnExactRunProgramRow.mainSum := by unfold Func.isWrapper; first | (rw [if_pos (by decide +kernel)]; kernel_rfl) | (rw [if_neg (by decide +kernel)]; exact ⟨rfl, rfl⟩)
theorem over : Rows.fnExactRunProgramRow.holds Try.pinned (OpenSpec.ofChange Rows.fnExactRunProgramSpec) :=
  OpenClaim.holds_of_wide_leaving 3 Try.f3 rfl rfl rfl rfl rfl rfl rfl ⟨rfl, rfl, rfl, rfl, rfl⟩ rfl rfl rfl rfl rfl k1 Try.func3 k2 k3 k4
    (fun os started H enc _ => leavingOfAlone (lifted os started H enc))

theorem proved : Rows.FnExactRunProgramSaid := over
#print axioms proved
end Go.Proofs.Ytoaibfbamecdlaa.runProgramLaw
