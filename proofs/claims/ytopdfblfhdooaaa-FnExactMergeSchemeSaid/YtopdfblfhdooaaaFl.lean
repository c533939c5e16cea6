/-
  impl.factorReaders, (impl.flip).isOf. (Made by mkfl.py.)
-/
import Derived.Test.YtopdfblfhdooaaaMv1
import Derived.Test.YtopdfblfhdooaaaSx
namespace Go.Proofs.Ytopdfblfhdooaaa
open Go.RowKit
set_option maxRecDepth 100000
attribute [local irreducible] wpList
theorem wp_callv1 {P : Program} {Q : Exit → Act → World → Prop} {o : Oper} {a : Act} {w : World} {K : Act → World → Prop} (d : Option Tmp) (hd : o.dst = d) (fv x : Operand) (ts : Array TypeId) (ho : o.op = .call { callee := .value fv, args := #[x], argTypes := ts }) (f : Nat) (caps : Array Value) (hf : a.eval fv = .func (.func f) #[] caps) (hcall : ∀ args w, (callFunc f args).run P w = .ok (.enter f args) w)
    (v1 : Value) (hx : a.eval x = v1) (post : Ending → World → Prop) (hc : Calls P f (#[v1] ++ caps) w post) (h : ∀ e w', post e w' → ∃ v, e = .returned v ∧ K (a.put d v) w') : Oper.wp P o a w K Q := by
  subst hd
  have hm : #[x].map a.eval = #[v1] := by simp [hx]
  unfold Oper.wp execOp
  simp only [ho, resolve, hf, Deferred.ofValue, Sem.run_bind, Sem.run_pure, Result.andThen_ok, invoke, hcall, Array.empty_append, hm]
  rw [Oper.upon_enter]
  refine hc.mono fun e w' hp => ?_
  obtain ⟨v, rfl, hk⟩ := h e w' hp
  exact hk
theorem wp_call0 {P : Program} {Q : Exit → Act → World → Prop} {o : Oper} {a : Act} {w : World} {K : Act → World → Prop} (d : Option Tmp) (hd : o.dst = d) (f : Nat) (ts : Array TypeId) (ho : o.op = .call { callee := .value (.func f), args := #[], argTypes := ts }) (hcall : ∀ args w, (callFunc f args).run P w = .ok (.enter f args) w)
    (post : Ending → World → Prop) (hc : Calls P f #[] w post) (h : ∀ e w', post e w' → ∃ v, e = .returned v ∧ K (a.put d v) w') : Oper.wp P o a w K Q :=
  wp_call d hd f #[] ts ho hcall #[] (by simp) post hc h
theorem al_impl_Form {o : Oper} {a : Act} {w : World} (ho : o.op = .alloc 51) : (execOp a.eval o).run Try.prog w = .ok (.value (.pointer (some ⟨w.heap.size, 0, none⟩))) (w.alloc (.cells (u8s (List.replicate 9 0)) 51 (0, 0))) := by
  unfold execOp
  rw [ho]
  kernel_rfl
theorem Rd.cFl {w : World} {b off : Nat} {ts : List (List Nat)} (h : Rd w (some ⟨b, off, none⟩) ts) {i : Nat} {Q : List Nat} (hi : ts[i]? = some Q) : ∀ j, j < 27 → w.cell? ⟨b, off + i * 27 + j, none⟩ = some (.int .u8 ((Q[j]?.getD 0 : Nat) : Int)) := by
  obtain ⟨hlt, rfl⟩ := List.getElem?_eq_some_iff.1 hi
  obtain ⟨b', off', e, hc⟩ := h.at_ hlt
  simp only [Option.some.injEq, Addr.mk.injEq, and_true] at e
  obtain ⟨rfl, rfl⟩ := e
  exact hc
/-- Whether two products can be flipped at a factor. -/
def flB (Q R : List Nat) (i j f : Nat) : Bool := decide (i ≠ j) && (facQ Q f == facQ R f)
end Go.Proofs.Ytopdfblfhdooaaa
