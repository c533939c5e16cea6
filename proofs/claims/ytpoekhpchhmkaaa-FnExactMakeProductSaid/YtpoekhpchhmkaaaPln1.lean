/-
  spec.l01Matrix, impl.isMatrix, shapeOfRows, isSmallMatrix, zeroMatrix.
-/
import Derived.Test.YtpoekhpchhmkaaaMat1
import Derived.Test.YtpoekhpchhmkaaaRight1
import Derived.Test.YtpoekhpchhmkaaaTen3
import Derived.Test.YtpoekhpchhmkaaaIsm
namespace Go.Proofs.Ytpoekhpchhmkaaa
open Go.RowKit
set_option maxRecDepth 100000
def numB (p x : Int) : Bool := decide (0 ≤ x) && decide (x < p)
def rowB (p m : Int) (xs : List Int) : Bool := decide ((xs.length : Int) = m) && xs.all (numB p)
def matB (p n m : Int) (N : Nat) (row : Nat → List Int) : Bool := decide ((N : Int) = n) && (List.range N).all fun i => rowB p m (row i)
theorem rowB_no {p m : Int} {xs : List Int} {j : Nat} (hj : j < xs.length) (h : numB p xs[j] = false) : rowB p m xs = false := by
  have : xs.all (numB p) = false := by
    rw [List.all_eq_false]
    exact ⟨xs[j], List.getElem_mem hj, by simp [h]⟩
  simp [rowB, this]
theorem rowB_yes {p m : Int} {xs : List Int} (hl : (xs.length : Int) = m) (h : ∀ (j : Nat) (hj : j < xs.length), numB p xs[j] = true) : rowB p m xs = true := by
  have : xs.all (numB p) = true := by
    rw [List.all_eq_true]
    intro x hx
    obtain ⟨j, hj, rfl⟩ := List.getElem_of_mem hx
    exact h j hj
  simp [rowB, hl, this]
theorem matB_no {p n m : Int} {N : Nat} {row : Nat → List Int} {i : Nat} (hi : i < N) (h : rowB p m (row i) = false) : matB p n m N row = false := by
  have : ((List.range N).all fun i => rowB p m (row i)) = false := by
    rw [List.all_eq_false]
    exact ⟨i, List.mem_range.2 hi, by simp [h]⟩
  simp [matB, this]
theorem matB_yes {p n m : Int} {N : Nat} {row : Nat → List Int} (hn : (N : Int) = n) (h : ∀ i, i < N → rowB p m (row i) = true) : matB p n m N row = true := by
  have : ((List.range N).all fun i => rowB p m (row i)) = true := by
    rw [List.all_eq_true]
    exact fun i hi => h i (List.mem_range.1 hi)
  simp [matB, hn, this]
theorem matB_parts {p n m : Int} {N : Nat} {row : Nat → List Int} (h : matB p n m N row = true) : (N : Int) = n ∧ ∀ i, i < N → ((row i).length : Int) = m ∧ ∀ x ∈ row i, 0 ≤ x ∧ x < p := by
  simp only [matB, Bool.and_eq_true, decide_eq_true_eq, List.all_eq_true, List.mem_range, rowB, numB] at h
  exact ⟨h.1, fun i hi => ⟨(h.2 i hi).1, (h.2 i hi).2⟩⟩
theorem num_in (p x : Int) : (decide (0 ≤ x) && decide (x ≤ p - 1)) = numB p x := by
  unfold numB
  congr 1
  exact decide_eq_decide.2 (by omega)
set_option maxHeartbeats 1600000 in
theorem l01Matrix_c (p n m : Int) (A : Option Addr) (c N : Nat) (row : Nat → List Int) (w : World) (hr : RdM w A N row) (hp : primeB p = true) (hN : N ≤ 1048576) (hrow : ∀ i, i < N → (row i).length ≤ 1048576) :
    Calls Try.prog 42 #[.int .i64 p, .slice A N c, .int .i64 n, .int .i64 m] w fun e w' => e = .returned (.bool (matB p n m N row)) ∧ w = w' := by
  have hp1 : IntKind.i64.wrap (p - 1) = p - 1 := by
    simp only [primeB, Bool.or_eq_true, beq_iff_eq] at hp
    exact IntWalk.i64_in _ (by omega)
  by_cases hn : (N : Int) = n
  · have hne : (((N : Nat) : Int) != n) = false := by simp [hn]
    have Hn := Lib.hid hn
    clear hn
    go_enter Try.func42, Try.ntmps42
    go_wp2_with fail
    go_loop [9] (fun i => ∃ a : Nat, a ≤ N ∧ i = .int .i64 a ∧ ∀ x, x < a → rowB p m (row x) = true) (fun i => N - (intOf i).toNat)
    case atStart => exact ⟨0, by omega, rfl, by omega⟩
    case round =>
      obtain ⟨a, ha, rfl, hall⟩ := hrel
      have Hall := Lib.hid hall
      clear hall
      by_cases hlt : a < N
      · obtain ⟨b, off, B, cB, rfl, hc, hI⟩ := hr.at_ hlt
        have e0 : IntKind.i64.wrap ((a : Int) + 1) = (a : Int) + 1 := IntWalk.i64_in _ (by omega)
        have hk' : (a : Int) < (N : Int) := by omega
        have hl := hrow a hlt
        by_cases hm : ((row a).length : Int) = m
        · have hme : (((row a).length : Int) != m) = false := by simp [hm]
          have Hm := Lib.hid hm
          clear hm
          go_wp2_with fail
          go_loop [10] (fun j => ∃ k : Nat, k ≤ (row a).length ∧ j = .int .i64 k ∧ ∀ (y : Nat) (hy : y < (row a).length), y < k → numB p (row a)[y] = true) (fun j => (row a).length - (intOf j).toNat)
          case atStart => exact ⟨0, by omega, rfl, by omega⟩
          case round =>
            obtain ⟨k, hk, rfl, hall2⟩ := hrel
            have Hall2 := Lib.hid hall2
            clear hall2
            by_cases hlt2 : k < (row a).length
            · obtain ⟨b2, off2, rfl, hc2⟩ := hI.at_ hlt2
              have f0 : IntKind.i64.wrap ((k : Int) + 1) = (k : Int) + 1 := IntWalk.i64_in _ (by omega)
              have hk2 : (k : Int) < ((row a).length : Int) := by omega
              have HC := Lib.hid (l01In_c (row a)[k] 0 (p - 1))
              simp only [num_in] at HC
              have Hx : Hid (∃ x, (row a)[k] = x) := Lib.hid ⟨_, rfl⟩
              obtain ⟨x, hx⟩ := Hx.out
              rw [hx] at hc2 HC
              have Hx := Lib.hid hx
              clear hx
              cases hb : numB p x with
              | false =>
                have Hno : Hid (matB p n m N row = false) := Lib.hid (matB_no hlt (rowB_no hlt2 (by rw [Hx.out]; exact hb)))
                rw [hb] at HC
                go_wp2_with fail
                refine (HC.out _).mono ?_
                rintro e w' ⟨rfl, rfl⟩
                go_wp2_with fail
                go_ret
                exact ⟨by rw [Hno.out]; rfl, rfl⟩
              | true =>
                have Hstep : Hid (∀ (y : Nat) (hy : y < (row a).length), y < k + 1 → numB p (row a)[y] = true) := Lib.hid (fun y hy hyk => by
                  by_cases e : y = k
                  · subst e; rw [Hx.out]; exact hb
                  · exact Hall2.out y hy (by omega))
                rw [hb] at HC
                go_wp2_with fail
                refine (HC.out _).mono ?_
                rintro e w' ⟨rfl, rfl⟩
                go_wp2_with fail
                exact ⟨⟨k + 1, by omega, by go_num, Hstep.out⟩, by simp [intOf]; omega⟩
            · obtain rfl : k = (row a).length := by omega
              have Hstep : Hid (∀ x, x < a + 1 → rowB p m (row x) = true) := Lib.hid (fun x hx => by
                by_cases e : x = a
                · subst e; exact rowB_yes Hm.out (fun j hj => Hall2.out j hj hj)
                · exact Hall.out x (by omega))
              go_wp2_with fail
              exact ⟨⟨a + 1, by omega, by go_num, Hstep.out⟩, by simp [intOf]; omega⟩
        · have hme : (((row a).length : Int) != m) = true := by simp [hm]
          have Hno : Hid (matB p n m N row = false) := Lib.hid (matB_no hlt (by simp [rowB, hm]))
          go_wp2_with fail
          go_ret
          exact ⟨by rw [Hno.out]; rfl, rfl⟩
      · obtain rfl : a = N := by omega
        have Hyes : Hid (matB p n m a row = true) := Lib.hid (matB_yes Hn.out Hall.out)
        go_wp2_with fail
        go_ret
        exact ⟨by rw [Hyes.out]; rfl, rfl⟩
  · have hne : (((N : Nat) : Int) != n) = true := by simp [hn]
    have Hno : Hid (matB p n m N row = false) := Lib.hid (by simp [matB, hn])
    go_enter Try.func42, Try.ntmps42
    go_wp2_with fail
    go_ret
    exact ⟨by rw [Hno.out]; rfl, rfl⟩
theorem isMatrix_c (p n m : Int) (A : Option Addr) (c N : Nat) (row : Nat → List Int) (w : World) (hr : RdM w A N row) (hN : N ≤ 1048576) (hrow : ∀ i, i < N → (row i).length ≤ 1048576) :
    Calls Try.prog 46 #[.int .i64 p, .agg #[.int .i64 n, .int .i64 m], .slice A N c] w fun e w' => e = .returned (.bool (matB p n m N row)) ∧ Below w.heap.size w w' :=
  isMatrixR_c p n m A c N row w hr hN hrow
end Go.Proofs.Ytpoekhpchhmkaaa
