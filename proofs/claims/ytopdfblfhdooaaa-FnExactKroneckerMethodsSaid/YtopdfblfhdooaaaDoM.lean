/-
  The door: behindDoor at impl.Method; what it recovers.
-/
import Derived.Test.YtopdfblfhdooaaaPmm
import Derived.Defers
namespace Go.Proofs.Ytopdfblfhdooaaa
open Go.RowKit
set_option maxRecDepth 100000
theorem assert_failM (w : World) : (Instr.typeAssert (.iface 94 (.int .i64 3)) 20 94 false).run Try.prog w = .ok (.int .i64 3) w := by kernel_rfl
def FailsM (e : Ending) : Prop := e = .panicked [{ v := .iface 94 (.int .i64 3), recovered := false }]
theorem catchM_idle (p : Addr) (w : World) : CallsD Try.prog 58 #[.pointer (some p)] .returning w fun e u' w' => e = .returned (.tuple #[]) ∧ u' = .returning ∧ w' = w := by
  refine callsD_of_wpS Try.func58 rfl fun c₀ cs hu => ?_
  apply wpS_seq
  apply wpS_region
  simp [wpOpsS, go_sem, recoverD, hu, Try.ntmps58, Exit.thenS]
  apply wpS_seq
  apply wpS_region
  simp [wpOpsS, go_sem, Exit.thenS]
  refine wpS_cond (t := false) (by simp [Act.eval, Array.replicate]) ?_
  simp only [Bool.false_eq_true, if_false]
  refine wpS_of_wp (wp_skip ?_)
  cases c₀
  simp_all [bodyPostS, results, Try.results58]
theorem catchM_fail (p : Addr) (x : Int) (older : List PanicEntry) (w : World) (hc : w.cell? p = some (.int .i64 x)) (hz : w.frozen? p = false) :
    CallsD Try.prog 58 #[.pointer (some p)] (.panicking ({ v := .iface 94 (.int .i64 3), recovered := false } :: older)) w fun e u' w' =>
      e = .returned (.tuple #[]) ∧ u' = .panicking ({ v := .iface 94 (.int .i64 3), recovered := true } :: older) ∧ w' = w.setCell p (.int .i64 3) := by
  have hta := assert_failM
  refine callsD_of_wpS Try.func58 rfl fun c₀ cs hu => ?_
  apply wpS_seq
  apply wpS_region
  simp [wpOpsS, go_sem, recoverD, hu, Try.ntmps58, Exit.thenS]
  apply wpS_seq
  apply wpS_region
  simp [wpOpsS, go_sem, Exit.thenS]
  refine wpS_cond (t := true) (by simp [Act.eval, Array.replicate]) ?_
  simp only [if_true]
  apply wpS_region
  simp [wpOpsS, go_sem, hta, hc, hz, bodyPostS, results, Try.results58]
/-- The answer is a struct and a number, each in a block of its own. -/
theorem results_cc {P : Program} {fn : Func} {p q : Tmp} {ty tq : TypeId} (h : fn.results = #[.cell p ty, .cell q tq]) (tmps : Array Value) (w : World) (g g2 : Nat) (t t2 : TypeId) (cs : Array Value) (d d2 : TypeDesc) (v : Value)
    (hp : tmps.getD p undef = .pointer (some ⟨g, 0, none⟩)) (hq : tmps.getD q undef = .pointer (some ⟨g2, 0, none⟩)) (hg : At w g (.cells cs t (0, 0))) (hg2 : At w g2 (.cells #[v] t2 (0, 0)))
    (hu : P.underlying ty = some d) (hd : (match d with | .struct _ | .array _ _ => true | _ => false) = true) (n : Nat) (hi : (P.info? ty).map (·.size) = some n) (hn : cs.size = n) (hu2 : P.underlying tq = some d2) (hd2 : (match d2 with | .struct _ | .array _ _ => true | _ => false) = false) :
    (results fn tmps).run P w = .ok (.tuple #[.agg cs, v]) w := by
  have hp' : tmps[p]?.getD undef = .pointer (some ⟨g, 0, none⟩) := by simpa using hp
  have hq' : tmps[q]?.getD undef = .pointer (some ⟨g2, 0, none⟩) := by simpa using hq
  have h2 : (loadVar tq ⟨g2, 0, none⟩).run P w = .ok v w := by
    have hagg : (isAgg tq).run P w = .ok false w := by
      unfold isAgg
      rw [Sem.run_bind, run_underlying hu2 w]
      cases d2 <;> simp_all
    have hc := hg2.at_ 0
    unfold loadVar
    have hc2 : w.cell? ⟨g2, 0, none⟩ = some v := by simpa using hc
    simp [Sem.run_bind, hagg, go_sem, hc2]
  simp [results, h, hp', hq', asAddr, run_loadVar_row w g t ty cs (0, 0) d hg hu hd (by rw [hn]; exact hi), h2]
set_option maxHeartbeats 1600000 in
theorem doorM_ok (F : FuncId) (caps : Array Value) (p a b d c : Int) (qs : List (List Nat)) (w : World) (hcf : ∀ w, (callFunc F caps).run Try.prog w = .ok (.enter F caps) w) (hW : ∀ w', Below w.heap.size w w' → Calls Try.prog F caps w' fun e w'' => ∃ v, e = .returned (.tuple #[.agg #[.int .i64 p, .int .i64 a, .int .i64 b, .int .i64 d, v], .int .i64 c]) ∧ Own w'' w'.heap.size v qs ∧ Below w'.heap.size w' w'') :
    Calls Try.prog 30 #[.func (.func F) #[] caps] w fun e w' => ∃ v, e = .returned (.tuple #[.agg #[.int .i64 p, .int .i64 a, .int .i64 b, .int .i64 d, v], .int .i64 c]) ∧ Own w' w.heap.size v qs ∧ Below w.heap.size w w' := by
  have hmf : ∀ (fn : Fn) (first cap : Array Value) (w : World), (Instr.makeFunc fn first cap).run Try.prog w = .ok (.func fn first cap) w := fun _ _ _ _ => rfl
  go_enter_defers Try.func30, Try.ntmps30
  go_wp2_with fail
  refine (hW _ (below2 _ _ _)).mono ?_
  rintro e w2 ⟨v, rfl, ho, b2⟩
  obtain ⟨A9, c9, rfl⟩ := Own.rdN2 ho (n := qs.length) rfl
  have hB := below_after (below2 w _ _) b2
  have h0 : At w2 w.heap.size (.cells #[.int .i64 0, .int .i64 0, .int .i64 0, .int .i64 0, .slice none 0 0] 28 (0, 0)) := At.after (al2_0 w _ _) b2
  have h1 : At w2 (w.heap.size + 1) (.cells #[.int .i64 0] 2 (0, 0)) := At.after (al2_1 w _ _) b2
  have ho2 : Own w2 (w.heap.size + 1 + 1) (.slice A9 qs.length c9) qs := ho.mono (by rw [size_al2]; omega)
  clear ho b2 hW
  go_wp2_with (first | (refine wpList_plain rfl fun K hK => wp_store_all 28 _ _ rfl rfl w.heap.size rfl #[.int .i64 p, .int .i64 a, .int .i64 b, .int .i64 d, .slice A9 qs.length c9] rfl _ _ h0 5 (by kernel_rfl) rfl rfl (one5 _ _ _ _ _ _ _) (fun w3 p3 => hK _ _ ?_); replace h1 := p3.other h1 (by omega); replace ho2 := ho2.put p3 (ho2.ne_lt (by omega)); replace hB := p3.below hB (by omega); replace h0 := p3.at_) | (refine wpList_plain rfl fun K hK => wp_store_one 2 _ _ rfl rfl (w.heap.size + 1) 0 rfl (.int .i64 c) rfl rfl rfl _ _ h1 (by kernel_rfl) (by simp) (fun w4 p4 => hK _ _ ?_); replace h0 := p4.other h0 (by omega); replace ho2 := ho2.put p4 (ho2.ne_lt (by omega)); replace hB := p4.below hB (by omega); replace h1 : At w4 (w.heap.size + 1) (.cells #[.int .i64 c] 2 (0, 0)) := p4.at_))
  refine leaves_cons (f := 58) (args := #[.pointer (some ⟨w.heap.size + 1, 0, none⟩)]) (by simp) (by simp [go_sem]) ?_
  refine (catchM_idle ⟨w.heap.size + 1, 0, none⟩ _).mono ?_
  rintro e u' w'' ⟨rfl, rfl, rfl⟩
  refine ⟨_, results_cc rfl _ _ _ _ _ _ _ _ _ _ rfl rfl h0 h1 Try.underlying28 rfl 5 (by kernel_rfl) rfl Try.underlying2 rfl, ?_⟩
  exact ⟨_, rfl, ho2.mono (by omega), hB⟩
set_option maxHeartbeats 1600000 in
theorem doorM_no (F : FuncId) (caps : Array Value) (w : World) (hcf : ∀ w, (callFunc F caps).run Try.prog w = .ok (.enter F caps) w) (hW : ∀ w', Below w.heap.size w w' → Calls Try.prog F caps w' fun e w'' => FailsM e ∧ Below w'.heap.size w' w'') :
    Calls Try.prog 30 #[.func (.func F) #[] caps] w fun e w' => e = .returned (.tuple #[.agg #[.int .i64 0, .int .i64 0, .int .i64 0, .int .i64 0, .slice none 0 0], .int .i64 3]) ∧ Below w.heap.size w w' := by
  have hmf : ∀ (fn : Fn) (first cap : Array Value) (w : World), (Instr.makeFunc fn first cap).run Try.prog w = .ok (.func fn first cap) w := fun _ _ _ _ => rfl
  go_enter_defers Try.func30, Try.ntmps30
  go_wp2_with fail
  refine (hW _ (below2 _ _ _)).mono ?_
  rintro e w2 ⟨he, b2⟩
  unfold FailsM at he
  subst he
  have hB := below_after (below2 w _ _) b2
  have h0 : At w2 w.heap.size (.cells #[.int .i64 0, .int .i64 0, .int .i64 0, .int .i64 0, .slice none 0 0] 28 (0, 0)) := At.after (al2_0 w _ _) b2
  have h1 : At w2 (w.heap.size + 1) (.cells #[.int .i64 0] 2 (0, 0)) := At.after (al2_1 w _ _) b2
  have P := Put.cell (i := 0) h1 (.int .i64 3)
  go_wp2_with fail
  refine leaves_cons (f := 58) (args := #[.pointer (some ⟨w.heap.size + 1, 0, none⟩)]) (by simp) (by simp [go_sem]) ?_
  refine (catchM_fail ⟨w.heap.size + 1, 0, none⟩ 0 _ _ (h1.at_ 0) (h1.free 0)).mono ?_
  rintro e u' w'' ⟨rfl, rfl, rfl⟩
  have h0' := P.other h0 (by omega)
  have h1' : At _ (w.heap.size + 1) (.cells #[.int .i64 3] 2 (0, 0)) := P.at_
  refine ⟨_, results_cc rfl _ _ _ _ _ _ _ _ _ _ rfl rfl h0' h1' Try.underlying28 rfl 5 (by kernel_rfl) rfl Try.underlying2 rfl, ?_⟩
  exact ⟨rfl, P.below hB (by omega)⟩
end Go.Proofs.Ytopdfblfhdooaaa
