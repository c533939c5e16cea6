/-
  What a function keeps that appends to a list which it is given: memory below a bound, and whatever is no memory of products; calls of five and six arguments.
-/
import Derived.Test.YtelicajipilhjaaLK1
import Derived.Test.YtelicajipilhjaaNrm0
namespace Go.Proofs.Ytelicajipilhjaa
open Go.RowKit
set_option maxRecDepth 100000
structure KeepT (w w' : World) : Prop where
  keep : ∀ (k : Nat) (cs : Array Value) (t : TypeId), At w k (.cells cs t (0, 0)) → t ≠ 49 → At w' k (.cells cs t (0, 0))
section
variable {w w1 w2 : World} {lo g : Nat} {v : Value} {qs : List (List Nat)} {o : Obj}
theorem KeepT.refl (w : World) : KeepT w w := ⟨fun _ _ _ h _ => h⟩
theorem KeepT.after (h : KeepT w w1) (b : Below w1.heap.size w1 w2) : KeepT w w2 := ⟨fun k cs t hk ht => (h.keep k cs t hk ht).after b⟩
theorem KeepT.grown (h : KeepT w w1) (ho : Own w1 lo v qs) (gr : w1.grownBy w2 v.ownBlock) : KeepT w w2 := ⟨fun k cs t hk ht => (h.keep k cs t hk ht).grown gr (ho.off (h.keep k cs t hk ht) ht)⟩
theorem KeepT.put (h : KeepT w w1) (hP : Put w1 w2 g o) (hg : w.heap.size ≤ g) : KeepT w w2 := ⟨fun k cs t hk ht => hP.other (h.keep k cs t hk ht) (by have := hk.lt; omega)⟩
theorem KeepT.trans (h : KeepT w w1) (h' : KeepT w1 w2) : KeepT w w2 := ⟨fun k cs t hk ht => h'.keep k cs t (h.keep k cs t hk ht) ht⟩
theorem KeepT.drew (h : KeepT w w1) : KeepT w w1.drew := ⟨fun k cs t hk ht => h.keep k cs t hk ht⟩
theorem At.kept {k : Nat} {cs : Array Value} {t : TypeId} (hk : At w k (.cells cs t (0, 0))) (h : KeepT w w1) (ht : t ≠ 49) : At w1 k (.cells cs t (0, 0)) := h.keep k cs t hk ht
theorem low_after (h : Below lo w w1) (hl : lo ≤ w.heap.size) (b : Below w1.heap.size w1 w2) : Below lo w w2 :=
  h.trans ⟨b.os, b.tape, b.output, b.size, fun k hk => b.block k (by have := h.size; omega)⟩
theorem low_grown (h : Below lo w w1) (hl : lo ≤ w.heap.size) (ho : Own w1 lo v qs) (gr : w1.grownBy w2 v.ownBlock) : Below lo w w2 :=
  h.trans ⟨gr.os, gr.tape, gr.output, gr.size, fun k hk => gr.block k (by have := h.size; omega) (fun e => by have := (ho.lt e.symm).1; omega)⟩
end
section
variable {P : Program} {Q : Exit → Act → World → Prop}
theorem wp_call5 {o : Oper} {a : Act} {w : World} {K : Act → World → Prop} (d : Option Tmp) (hd : o.dst = d) (f : Nat) (x y z u t : Operand) (ts : Array TypeId) (ho : o.op = .call { callee := .value (.func f), args := #[x, y, z, u, t], argTypes := ts }) (hcall : ∀ args w, (callFunc f args).run P w = .ok (.enter f args) w)
    (v1 v2 v3 v4 v5 : Value) (hx : a.eval x = v1) (hy : a.eval y = v2) (hz : a.eval z = v3) (hu : a.eval u = v4) (ht : a.eval t = v5) (post : Ending → World → Prop) (hc : Calls P f #[v1, v2, v3, v4, v5] w post) (h : ∀ e w', post e w' → ∃ v, e = .returned v ∧ K (a.put d v) w') : Oper.wp P o a w K Q :=
  wp_call d hd f #[x, y, z, u, t] ts ho hcall #[v1, v2, v3, v4, v5] (by simp [hx, hy, hz, hu, ht]) post hc h
theorem wp_call6 {o : Oper} {a : Act} {w : World} {K : Act → World → Prop} (d : Option Tmp) (hd : o.dst = d) (f : Nat) (x y z u t s : Operand) (ts : Array TypeId) (ho : o.op = .call { callee := .value (.func f), args := #[x, y, z, u, t, s], argTypes := ts }) (hcall : ∀ args w, (callFunc f args).run P w = .ok (.enter f args) w)
    (v1 v2 v3 v4 v5 v6 : Value) (hx : a.eval x = v1) (hy : a.eval y = v2) (hz : a.eval z = v3) (hu : a.eval u = v4) (ht : a.eval t = v5) (hs : a.eval s = v6) (post : Ending → World → Prop) (hc : Calls P f #[v1, v2, v3, v4, v5, v6] w post) (h : ∀ e w', post e w' → ∃ v, e = .returned v ∧ K (a.put d v) w') : Oper.wp P o a w K Q :=
  wp_call d hd f #[x, y, z, u, t, s] ts ho hcall #[v1, v2, v3, v4, v5, v6] (by simp [hx, hy, hz, hu, ht, hs]) post hc h
end
end Go.Proofs.Ytelicajipilhjaa
