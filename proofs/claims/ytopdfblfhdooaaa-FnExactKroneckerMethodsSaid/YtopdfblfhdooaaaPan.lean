/-
  A call that panics, as one operation. No function of the program is named here.
-/
import Derived.Test.YtopdfblfhdooaaaHeld
namespace Go.Proofs.Ytopdfblfhdooaaa
open Go.RowKit
section
variable {P : Program} {Q : Exit → Act → World → Prop} {o : Oper} {a : Act} {w : World} {K : Act → World → Prop}
theorem wp_call_p (f : Nat) (xs : Array Operand) (ts : Array TypeId) (ho : o.op = .call { callee := .value (.func f), args := xs, argTypes := ts }) (hcall : ∀ args w, (callFunc f args).run P w = .ok (.enter f args) w)
    (vs : Array Value) (hx : xs.map a.eval = vs) (post : Ending → World → Prop) (hc : Calls P f vs w post) (h : ∀ e w', post e w' → ∃ c, e = .panicked c ∧ Q (.panic c) a w') : Oper.wp P o a w K Q := by
  subst hx
  unfold Oper.wp execOp
  simp only [ho]
  simp [go_sem]
  rw [hcall, Oper.upon_enter]
  refine hc.mono fun e w' hp => ?_
  obtain ⟨c, rfl, hk⟩ := h e w' hp
  exact hk
theorem wp_call1_p (f : Nat) (x : Operand) (ts : Array TypeId) (ho : o.op = .call { callee := .value (.func f), args := #[x], argTypes := ts }) (hcall : ∀ args w, (callFunc f args).run P w = .ok (.enter f args) w)
    (v1 : Value) (hx : a.eval x = v1) (post : Ending → World → Prop) (hc : Calls P f #[v1] w post) (h : ∀ e w', post e w' → ∃ c, e = .panicked c ∧ Q (.panic c) a w') : Oper.wp P o a w K Q :=
  wp_call_p f #[x] ts ho hcall #[v1] (by simp [hx]) post hc h
theorem wp_call2_p (f : Nat) (x y : Operand) (ts : Array TypeId) (ho : o.op = .call { callee := .value (.func f), args := #[x, y], argTypes := ts }) (hcall : ∀ args w, (callFunc f args).run P w = .ok (.enter f args) w)
    (v1 v2 : Value) (hx : a.eval x = v1) (hy : a.eval y = v2) (post : Ending → World → Prop) (hc : Calls P f #[v1, v2] w post) (h : ∀ e w', post e w' → ∃ c, e = .panicked c ∧ Q (.panic c) a w') : Oper.wp P o a w K Q :=
  wp_call_p f #[x, y] ts ho hcall #[v1, v2] (by simp [hx, hy]) post hc h
theorem wp_call3_p (f : Nat) (x y z : Operand) (ts : Array TypeId) (ho : o.op = .call { callee := .value (.func f), args := #[x, y, z], argTypes := ts }) (hcall : ∀ args w, (callFunc f args).run P w = .ok (.enter f args) w)
    (v1 v2 v3 : Value) (hx : a.eval x = v1) (hy : a.eval y = v2) (hz : a.eval z = v3) (post : Ending → World → Prop) (hc : Calls P f #[v1, v2, v3] w post) (h : ∀ e w', post e w' → ∃ c, e = .panicked c ∧ Q (.panic c) a w') : Oper.wp P o a w K Q :=
  wp_call_p f #[x, y, z] ts ho hcall #[v1, v2, v3] (by simp [hx, hy, hz]) post hc h
theorem exec_mkf2 {w : World} (f : FuncId) (x y : Operand) (ho : o.op = .makeFunc (.func f) #[] #[x, y]) (u v : Value) (hx : a.eval x = u) (hy : a.eval y = v) : (execOp a.eval o).run P w = .ok (.value (.func (.func f) #[] #[u, v])) w := by
  subst hx hy
  unfold execOp
  simp only [ho]
  simp [go_sem]
theorem exec_mkf3 {w : World} (f : FuncId) (x y z : Operand) (ho : o.op = .makeFunc (.func f) #[] #[x, y, z]) (u v t : Value) (hx : a.eval x = u) (hy : a.eval y = v) (hz : a.eval z = t) : (execOp a.eval o).run P w = .ok (.value (.func (.func f) #[] #[u, v, t])) w := by
  subst hx hy hz
  unfold execOp
  simp only [ho]
  simp [go_sem]
end
end Go.Proofs.Ytopdfblfhdooaaa
