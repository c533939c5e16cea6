/-
  slices.ContainsFunc over products by areProducts' literal; impl.areProducts. (Made by mkare.py.)
-/
import Derived.Test.YtolgfpcadfjliaaProd
import Derived.Test.YtolgfpcadfjliaaSx
namespace Go.Proofs.Ytolgfpcadfjliaa
open Go.RowKit
set_option maxRecDepth 100000
attribute [local irreducible] wpList
theorem exec_mkfn2p {P : Program} {o : Oper} {a : Act} {w : World} (f : FuncId) (x y : Operand) (ho : o.op = .makeFunc (.func f) #[] #[x, y]) (u v : Value) (hx : a.eval x = u) (hy : a.eval y = v) : (execOp a.eval o).run P w = .ok (.value (.func (.func f) #[] #[u, v])) w := by
  subst hx hy
  unfold execOp
  simp only [ho]
  simp [go_sem]
/-- Where a list has a product that is none, or -1. -/
def IdxPr (p : Int) (R C : Nat → Int) (ts : List (List Nat)) (r : Int) : Prop := (r = -1 ∧ ts.all (prodG p R C) = true) ∨ (0 ≤ r ∧ ts.all (prodG p R C) = false)
def prodsG (p : Int) (R C : Nat → Int) (ts : List (List Nat)) (a : Nat) : Bool := (ts.take a).all (prodG p R C)
theorem prodsG_step {p : Int} {R C : Nat → Int} {ts : List (List Nat)} {a : Nat} (h : a < ts.length) (h1 : prodsG p R C ts a = true) (h2 : prodG p R C ts[a] = true) : prodsG p R C ts (a + 1) = true := by
  unfold prodsG at *
  rw [List.take_succ_eq_append_getElem h, List.all_append, h1]
  simp [h2]
theorem prodsG_no {p : Int} {R C : Nat → Int} {ts : List (List Nat)} {i : Nat} (hi : i < ts.length) (h : prodG p R C ts[i] = false) : ts.all (prodG p R C) = false := by
  rw [List.all_eq_false]
  exact ⟨_, List.getElem_mem hi, by simp [h]⟩
/-- The products of a scheme or a method. -/
def areB (p : Int) (R C : Nat → Int) (qs : List (List Nat)) : Bool := decide (qs.length ≤ 30) && qs.all (prodG p R C)
end Go.Proofs.Ytolgfpcadfjliaa
