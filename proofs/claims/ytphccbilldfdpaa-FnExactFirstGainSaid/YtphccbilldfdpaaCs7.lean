/-
  The door: behindDoor at int64 and at []int64; what it recovers.
-/
import Derived.Test.YtphccbilldfdpaaCs6
namespace Go.Proofs.Ytphccbilldfdpaa
open Go.RowKit
set_option maxRecDepth 100000
theorem assert_fail (w : World) : (Instr.typeAssert (.iface 72 (.int .i64 3)) 20 72 false).run Try.prog w = .ok (.int .i64 3) w := by kernel_rfl
theorem OwnI.ne_lt' {w : World} {lo g : Nat} {v : Value} {xs : List Int} (h : OwnI w lo v xs) (hg : g < lo) : some g ≠ v.ownBlock := fun e => by
  have := (h.lt e.symm).1
  omega
theorem catchI_idle (p : Addr) (w : World) : CallsD Try.prog 40 #[.pointer (some p)] .returning w fun e u' w' => e = .returned (.tuple #[]) ∧ u' = .returning ∧ w' = w := by
  refine callsD_of_wpS Try.func40 rfl fun c₀ cs hu => ?_
  apply wpS_seq
  apply wpS_region
  simp [wpOpsS, go_sem, recoverD, hu, Try.ntmps40, Exit.thenS]
  apply wpS_seq
  apply wpS_region
  simp [wpOpsS, go_sem, Exit.thenS]
  refine wpS_cond (t := false) (by simp [Act.eval, Array.replicate]) ?_
  simp only [Bool.false_eq_true, if_false]
  refine wpS_of_wp (wp_skip ?_)
  cases c₀
  simp_all [bodyPostS, results, Try.results40]
theorem catchI_fail (p : Addr) (x : Int) (older : List PanicEntry) (w : World) (hc : w.cell? p = some (.int .i64 x)) (hz : w.frozen? p = false) :
    CallsD Try.prog 40 #[.pointer (some p)] (.panicking ({ v := .iface 72 (.int .i64 3), recovered := false } :: older)) w fun e u' w' =>
      e = .returned (.tuple #[]) ∧ u' = .panicking ({ v := .iface 72 (.int .i64 3), recovered := true } :: older) ∧ w' = w.setCell p (.int .i64 3) := by
  have hta := assert_fail
  refine callsD_of_wpS Try.func40 rfl fun c₀ cs hu => ?_
  apply wpS_seq
  apply wpS_region
  simp [wpOpsS, go_sem, recoverD, hu, Try.ntmps40, Exit.thenS]
  apply wpS_seq
  apply wpS_region
  simp [wpOpsS, go_sem, Exit.thenS]
  refine wpS_cond (t := true) (by simp [Act.eval, Array.replicate]) ?_
  simp only [if_true]
  apply wpS_region
  simp [wpOpsS, go_sem, hta, hc, hz, bodyPostS, results, Try.results40]
set_option maxHeartbeats 800000 in
theorem doorI_ok (F : FuncId) (caps : Array Value) (v c : Int) (w : World) (hcf : ∀ w, (callFunc F caps).run Try.prog w = .ok (.enter F caps) w) (hW : ∀ w', Below w.heap.size w w' → Calls Try.prog F caps w' fun e w'' => e = .returned (.tuple #[.int .i64 v, .int .i64 c]) ∧ Below w'.heap.size w' w'') :
    Calls Try.prog 24 #[.func (.func F) #[] caps] w fun e w' => e = .returned (.tuple #[.int .i64 v, .int .i64 c]) ∧ Below w.heap.size w w' := by
  have hmf : ∀ (fn : Fn) (first cap : Array Value) (w : World), (Instr.makeFunc fn first cap).run Try.prog w = .ok (.func fn first cap) w := fun _ _ _ _ => rfl
  go_enter_defers Try.func24, Try.ntmps24
  go_wp2_with fail
  refine (hW _ (below1 _ _)).mono ?_
  rintro e w2 ⟨rfl, b2⟩
  have hB := below_after (below1 w (.cells #[.int .i64 0] 2 (0, 0))) b2
  have h0 := At.after (al1_0 w (.cells #[.int .i64 0] 2 (0, 0))) b2
  have k0 := h0.at_ 0
  have z0 := h0.free 0
  have P := Put.cell (i := 0) h0 (.int .i64 c)
  have k1 : (w2.setCell ⟨w.heap.size, 0, none⟩ (.int .i64 c)).cell? ⟨w.heap.size, 0, none⟩ = some (.int .i64 c) := P.at_.at_ 0
  go_wp2_with fail
  refine leaves_cons (f := 40) (args := #[.pointer (some ⟨w.heap.size, 0, none⟩)]) (by simp) (by simp [go_sem]) ?_
  refine (catchI_idle ⟨w.heap.size, 0, none⟩ _).mono ?_
  rintro e u' w'' ⟨rfl, rfl, rfl⟩
  simp [Leaves, settle, results, Try.results24, go_sem, k1]
  exact P.below hB (Nat.le_refl _)
set_option maxHeartbeats 800000 in
theorem doorI_no (F : FuncId) (caps : Array Value) (w : World) (hcf : ∀ w, (callFunc F caps).run Try.prog w = .ok (.enter F caps) w) (hW : ∀ w', Below w.heap.size w w' → Calls Try.prog F caps w' fun e w'' => Fails e ∧ Below w'.heap.size w' w'') :
    Calls Try.prog 24 #[.func (.func F) #[] caps] w fun e w' => e = .returned (.tuple #[.int .i64 0, .int .i64 3]) ∧ Below w.heap.size w w' := by
  have hmf : ∀ (fn : Fn) (first cap : Array Value) (w : World), (Instr.makeFunc fn first cap).run Try.prog w = .ok (.func fn first cap) w := fun _ _ _ _ => rfl
  go_enter_defers Try.func24, Try.ntmps24
  go_wp2_with fail
  refine (hW _ (below1 _ _)).mono ?_
  rintro e w2 ⟨he, b2⟩
  unfold Fails at he
  subst he
  have hB := below_after (below1 w (.cells #[.int .i64 0] 2 (0, 0))) b2
  have h0 := At.after (al1_0 w (.cells #[.int .i64 0] 2 (0, 0))) b2
  have P := Put.cell (i := 0) h0 (.int .i64 3)
  have k1 : (w2.setCell ⟨w.heap.size, 0, none⟩ (.int .i64 3)).cell? ⟨w.heap.size, 0, none⟩ = some (.int .i64 3) := P.at_.at_ 0
  go_wp2_with fail
  refine leaves_cons (f := 40) (args := #[.pointer (some ⟨w.heap.size, 0, none⟩)]) (by simp) (by simp [go_sem]) ?_
  refine (catchI_fail ⟨w.heap.size, 0, none⟩ 0 _ _ (h0.at_ 0) (h0.free 0)).mono ?_
  rintro e u' w'' ⟨rfl, rfl, rfl⟩
  simp [Leaves, settle, results, Try.results24, go_sem, k1]
  exact P.below hB (Nat.le_refl _)
end Go.Proofs.Ytphccbilldfdpaa
