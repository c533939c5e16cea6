/-
  Forms and products as told: spec.l01Form, l01Zero, l01Product; impl.isForm, isProductFor.
-/
import Derived.Test.YtolgfpcadfjliaaSizes
namespace Go.Proofs.Ytolgfpcadfjliaa
open Go.RowKit
set_option maxRecDepth 100000
def okAt (p n : Int) (f : List Nat) (i : Nat) : Bool := decide (((f[i]?.getD 0 : Nat) : Int) < p) && (decide ((i : Int) < n) || f[i]?.getD 0 == 0)
def formB (p : Int) (f : List Nat) (n : Int) : Bool := (List.range 9).all (okAt p n f)
def zeroB (f : List Nat) : Bool := f == List.replicate 9 0
theorem formB_of {p n : Int} {f : List Nat} (h : ∀ j, j < 9 → okAt p n f j = true) : formB p f n = true := by
  unfold formB
  rw [List.all_eq_true]
  intro j hj
  exact h j (List.mem_range.1 hj)
theorem formB_not {p n : Int} {f : List Nat} {j : Nat} (hj : j < 9) (h : okAt p n f j = false) : formB p f n = false := by
  unfold formB
  rw [List.all_eq_false]
  exact ⟨j, List.mem_range.2 hj, by simp [h]⟩
def prodB (p n m k : Int) (q : List Nat) : Bool := formB p (segm q 0 9) (n * m) && formB p (segm q 9 9) (m * k) && formB p (segm q 18 9) (n * k) && !zeroB (segm q 0 9) && !zeroB (segm q 9 9) && !zeroB (segm q 18 9)
def IsFormRel (w : World) (p r c : Int) (f : List Nat) (i : Value) (wr : World) : Prop :=
  ∃ k : Nat, k ≤ 9 ∧ i = .int .i64 k ∧ Below w.heap.size w wr ∧ At wr w.heap.size (.cells #[.int .i64 r, .int .i64 c] 62 (0, 0)) ∧ ∀ j, j < k → okAt p (r * c) f j = true
end Go.Proofs.Ytolgfpcadfjliaa
