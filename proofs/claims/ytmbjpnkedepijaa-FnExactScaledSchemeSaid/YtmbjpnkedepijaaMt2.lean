/-
  Method.sides, box.formShapes, spec.l09Is, IsMethod of both sides. (Made by mkmt2.py.)
-/
import Derived.Test.YtmbjpnkedepijaaImplIs
import Derived.Test.YtmbjpnkedepijaaTen3
import Derived.Test.YtmbjpnkedepijaaMth1
namespace Go.Proofs.Ytmbjpnkedepijaa
open Go.RowKit
set_option maxRecDepth 100000
/-- The lengths of a method's sides, and its products. -/
def mC (i j k : Int) (a : Nat) : Int := if a = 0 then i else if a = 1 then j else k
def mR (_ : Nat) : Int := 1
def prodM (p i j k : Int) (q : List Nat) : Bool := formB p (segm q 0 9) i && formB p (segm q 9 9) j && formB p (segm q 18 9) k && !zeroB (segm q 0 9) && !zeroB (segm q 9 9) && !zeroB (segm q 18 9)
theorem prodM_G (p i j k : Int) (q : List Nat) : prodG p mR (mC i j k) q = prodM p i j k q := by
  simp only [prodM, prodG, facG, mR, mC, Int.one_mul, Nat.zero_mul, Nat.one_mul, show 2 * 9 = 18 from rfl, show ¬ (1 : Nat) = 0 by omega, show ¬ (2 : Nat) = 0 by omega, show ¬ (2 : Nat) = 1 by omega, if_true, if_false]
  cases formB p (segm q 0 9) i <;> cases formB p (segm q 9 9) j <;> cases formB p (segm q 18 9) k <;> cases zeroB (segm q 0 9) <;> cases zeroB (segm q 9 9) <;> cases zeroB (segm q 18 9) <;> rfl
def methB (p i j k : Int) (qs : List (List Nat)) : Bool := primeB p && (sideB i && sideB j && sideB k) && (decide (qs.length ≤ 30) && qs.all (prodM p i j k))
theorem areM (p i j k : Int) (qs : List (List Nat)) : areB p mR (mC i j k) qs = (decide (qs.length ≤ 30) && qs.all (prodM p i j k)) := by
  unfold areB
  rw [show prodG p mR (mC i j k) = prodM p i j k from funext (prodM_G p i j k)]
theorem methB_parts {p i j k : Int} {qs : List (List Nat)} (h : methB p i j k qs = true) : primeB p = true ∧ sideB i = true ∧ sideB j = true ∧ sideB k = true ∧ qs.length ≤ 30 ∧ ∀ q ∈ qs, prodM p i j k q = true := by
  simp only [methB, Bool.and_eq_true, decide_eq_true_eq, List.all_eq_true] at h
  exact ⟨h.1.1, h.1.2.1.1, h.1.2.1.2, h.1.2.2, h.2.1, h.2.2⟩
def mProds (p i j k : Int) (qs : List (List Nat)) (a : Nat) : Bool := (qs.take a).all (prodM p i j k)
theorem mProds_step {p i j k : Int} {qs : List (List Nat)} {a : Nat} (h : a < qs.length) (h1 : mProds p i j k qs a = true) (h2 : prodM p i j k qs[a] = true) : mProds p i j k qs (a + 1) = true := by
  unfold mProds at *
  rw [List.take_succ_eq_append_getElem h, List.all_append, h1]
  simp [h2]
theorem methB_no {p i j k : Int} {qs : List (List Nat)} {a : Nat} (ha : a < qs.length) (h : prodM p i j k qs[a] = false) : methB p i j k qs = false := by
  have : qs.all (prodM p i j k) = false := by
    rw [List.all_eq_false]
    exact ⟨_, List.getElem_mem ha, by simp [h]⟩
  simp [methB, this]
theorem methB_yes {p i j k : Int} {qs : List (List Nat)} (hp : primeB p = true) (hi : sideB i = true) (hj : sideB j = true) (hk : sideB k = true) (hl : qs.length ≤ 30) (h : mProds p i j k qs qs.length = true) : methB p i j k qs = true := by
  unfold mProds at h
  rw [List.take_length] at h
  simp [methB, hp, hi, hj, hk, hl, h]
theorem Rd.c27m {w : World} {b off : Nat} {qs : List (List Nat)} (h : Rd w (some ⟨b, off, none⟩) qs) {i : Nat} (hi : i < qs.length) : ∀ j, j < 27 → w.cell? ⟨b, off + i * 27 + j, none⟩ = some (.int .u8 ((qs[i][j]?.getD 0 : Nat) : Int)) := by
  obtain ⟨b', off', hA0, hc⟩ := h.at_ hi
  cases hA0
  exact hc
theorem shapes_1 (i j k : Int) (hi : sideB i = true) (hj : sideB j = true) (hk : sideB k = true) : ShOk mR (mC i j k) := fun a _ w => by
  have hs : sideB (mC i j k a) = true := by unfold mC; split; exact hi; split; exact hj; exact hk
  generalize mC i j k a = x at *
  simp only [sideB, Bool.and_eq_true, decide_eq_true_eq] at hs
  have e1 : IntKind.i64.wrap (1 * x) = 1 * x := IntWalk.i64_in _ (by omega)
  unfold mR
  go_enter Try.func87, Try.ntmps87
  go_wp2_with fail
  go_ret
  exact ⟨by rw [Int.one_mul]; rfl, below1 _ _⟩
theorem areMethod_c (p i j k : Int) (A : Option Addr) (c : Nat) (qs : List (List Nat)) (w : World) (hR : Rd w A qs) (hlen : qs.length ≤ 1048576) (hp : primeB p = true) (hi : sideB i = true) (hj : sideB j = true) (hk : sideB k = true) :
    Calls Try.prog 36 #[.int .i64 p, .agg #[.int .i64 1, .int .i64 i, .int .i64 1, .int .i64 j, .int .i64 1, .int .i64 k], .slice A qs.length c] w fun e w' => e = .returned (.bool (decide (qs.length ≤ 30) && qs.all (prodM p i j k))) ∧ Below w.heap.size w w' := by
  rw [← areM]
  exact areProducts_c p mR (mC i j k) A c qs w hR hlen (primeB_pos hp) (shapes_1 i j k hi hj hk)
attribute [local irreducible] wpList
theorem al_impl_Product {o : Oper} {a : Act} {w : World} (ho : o.op = .alloc 45) : (execOp a.eval o).run Try.prog w = .ok (.value (.pointer (some ⟨w.heap.size, 0, none⟩))) (w.alloc (.cells (u8s (List.replicate 27 0)) 45 (0, 0))) := by
  unfold execOp
  rw [ho]
  kernel_rfl
end Go.Proofs.Ytmbjpnkedepijaa
