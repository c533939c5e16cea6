/-
  spec.l01Matrix, impl.isMatrix, shapeOfRows, isSmallMatrix, zeroMatrix.
-/
import Derived.Test.YtlipoaamhmbliaaMat2
import Derived.Test.YtlipoaamhmbliaaRight1
import Derived.Test.YtlipoaamhmbliaaTen3
namespace Go.Proofs.Ytlipoaamhmbliaa
open Go.RowKit
set_option maxRecDepth 100000
def numB (p x : Int) : Bool := decide (0 ≤ x) && decide (x < p)
def rowB (p m : Int) (xs : List Int) : Bool := decide ((xs.length : Int) = m) && xs.all (numB p)
def matB (p n m : Int) (N : Nat) (row : Nat → List Int) : Bool := decide ((N : Int) = n) && (List.range N).all fun i => rowB p m (row i)
theorem rowB_no {p m : Int} {xs : List Int} {j : Nat} (hj : j < xs.length) (h : numB p xs[j] = false) : rowB p m xs = false := by
  have : xs.all (numB p) = false := by
    rw [List.all_eq_false]
    exact ⟨xs[j], List.getElem_mem hj, by simp [h]⟩
  simp [rowB, this]
theorem rowB_yes {p m : Int} {xs : List Int} (hl : (xs.length : Int) = m) (h : ∀ (j : Nat) (hj : j < xs.length), numB p xs[j] = true) : rowB p m xs = true := by
  have : xs.all (numB p) = true := by
    rw [List.all_eq_true]
    intro x hx
    obtain ⟨j, hj, rfl⟩ := List.getElem_of_mem hx
    exact h j hj
  simp [rowB, hl, this]
theorem matB_no {p n m : Int} {N : Nat} {row : Nat → List Int} {i : Nat} (hi : i < N) (h : rowB p m (row i) = false) : matB p n m N row = false := by
  have : ((List.range N).all fun i => rowB p m (row i)) = false := by
    rw [List.all_eq_false]
    exact ⟨i, List.mem_range.2 hi, by simp [h]⟩
  simp [matB, this]
theorem matB_yes {p n m : Int} {N : Nat} {row : Nat → List Int} (hn : (N : Int) = n) (h : ∀ i, i < N → rowB p m (row i) = true) : matB p n m N row = true := by
  have : ((List.range N).all fun i => rowB p m (row i)) = true := by
    rw [List.all_eq_true]
    exact fun i hi => h i (List.mem_range.1 hi)
  simp [matB, hn, this]
theorem matB_parts {p n m : Int} {N : Nat} {row : Nat → List Int} (h : matB p n m N row = true) : (N : Int) = n ∧ ∀ i, i < N → ((row i).length : Int) = m ∧ ∀ x ∈ row i, 0 ≤ x ∧ x < p := by
  simp only [matB, Bool.and_eq_true, decide_eq_true_eq, List.all_eq_true, List.mem_range, rowB, numB] at h
  exact ⟨h.1, fun i hi => ⟨(h.2 i hi).1, (h.2 i hi).2⟩⟩
theorem num_in (p x : Int) : (decide (0 ≤ x) && decide (x ≤ p - 1)) = numB p x := by
  unfold numB
  congr 1
  exact decide_eq_decide.2 (by omega)
set_option maxHeartbeats 1600000 in
theorem isMatrix_c (p n m : Int) (A : Option Addr) (c N : Nat) (row : Nat → List Int) (w : World) (hr : RdM w A N row) (hN : N ≤ 1048576) (hrow : ∀ i, i < N → (row i).length ≤ 1048576) :
    Calls Try.prog 51 #[.int .i64 p, .agg #[.int .i64 n, .int .i64 m], .slice A N c] w fun e w' => e = .returned (.bool (matB p n m N row)) ∧ Below w.heap.size w w' := by
  by_cases hn : (N : Int) = n
  · have hne : (((N : Nat) : Int) != n) = false := by simp [hn]
    have Hn := Lib.hid hn
    have HR := Lib.hid (fun w' (hb : Below w.heap.size w w') => hr.keep hb)
    clear hn hr
    go_enter Try.func51, Try.ntmps51
    go_wp2_with (refine wpList_abs1 ?_; intro W hsz hB h0; have c0 : W.cell? ⟨w.heap.size, 0, none⟩ = some (.int .i64 n) := h0.at_ 0)
    clear hsz c0
    go_loopw [16] (fun i wr => ∃ a : Nat, a ≤ N ∧ i = .int .i64 a ∧ Below w.heap.size w wr ∧ At wr w.heap.size (.cells #[.int .i64 n, .int .i64 m] 76 (0, 0)) ∧ ∀ x, x < a → rowB p m (row x) = true) (fun i _ => N - (intOf i).toNat)
    case atStart => exact ⟨0, by omega, rfl, hB, h0, by omega⟩
    case round =>
      clear hB h0
      obtain ⟨a, ha, rfl, hB, h0, hall⟩ := hrel
      obtain ⟨wa, rfl⟩ : ∃ x : World, x = wr := ⟨_, rfl⟩
      have Hall := Lib.hid hall
      clear hall
      have c1 : wa.cell? ⟨w.heap.size, 1, none⟩ = some (.int .i64 m) := h0.at_ 1
      by_cases hlt : a < N
      · obtain ⟨b, off, B, cB, rfl, hc, hI⟩ := (HR.out _ hB).at_ hlt
        have e0 : IntKind.i64.wrap ((a : Int) + 1) = (a : Int) + 1 := IntWalk.i64_in _ (by omega)
        have hk' : (a : Int) < (N : Int) := by omega
        have hl := hrow a hlt
        by_cases hm : ((row a).length : Int) = m
        · have hme : (((row a).length : Int) != m) = false := by simp [hm]
          have Hm := Lib.hid hm
          have HA := Lib.hid (areNumbers_c B cB p (row a) _ hI hl)
          clear hm hI
          cases hb : numsB p (row a) with
          | false =>
            have Hno : Hid (matB p n m N row = false) := Lib.hid (matB_no hlt (by
              have : (row a).all (numB p) = false := hb
              simp [rowB, this]))
            rw [hb] at HA
            clear hb
            go_wp2_with fail
            refine HA.out.mono ?_
            rintro e w2 ⟨rfl, b2⟩
            go_wp2_with fail
            go_ret
            exact ⟨by rw [Hno.out]; rfl, below_after hB b2⟩
          | true =>
            have Hstep : Hid (∀ x, x < a + 1 → rowB p m (row x) = true) := Lib.hid (fun x hx => by
              by_cases e : x = a
              · subst e
                have : (row x).all (numB p) = true := hb
                simp [rowB, this, Hm.out]
              · exact Hall.out x (by omega))
            rw [hb] at HA
            clear hb
            go_wp2_with fail
            refine HA.out.mono ?_
            rintro e w2 ⟨rfl, b2⟩
            go_wp2_with fail
            go_roundw
            case rel => exact ⟨a + 1, by omega, by go_num, below_after hB b2, h0.after b2, Hstep.out⟩
            case measure => simp [intOf]; omega
        · have hme : (((row a).length : Int) != m) = true := by simp [hm]
          have Hno : Hid (matB p n m N row = false) := Lib.hid (matB_no hlt (by simp [rowB, hm]))
          clear hm hI
          go_wp2_with fail
          go_ret
          exact ⟨by rw [Hno.out]; rfl, hB⟩
      · obtain rfl : a = N := by omega
        have Hyes : Hid (matB p n m a row = true) := Lib.hid (matB_yes Hn.out Hall.out)
        go_wp2_with fail
        go_ret
        exact ⟨by rw [Hyes.out]; rfl, hB⟩
  · have hne : (((N : Nat) : Int) != n) = true := by simp [hn]
    have Hno : Hid (matB p n m N row = false) := Lib.hid (by simp [matB, hn])
    go_enter Try.func51, Try.ntmps51
    go_wp2_with fail
    go_ret
    exact ⟨by rw [Hno.out]; rfl, below1 _ _⟩
end Go.Proofs.Ytlipoaamhmbliaa
