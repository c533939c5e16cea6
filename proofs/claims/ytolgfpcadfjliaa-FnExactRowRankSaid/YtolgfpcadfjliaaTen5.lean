/-
  numberAt, l05At, has, NumberAt of both sides.
-/
import Derived.Test.YtolgfpcadfjliaaTen4
namespace Go.Proofs.Ytolgfpcadfjliaa
open Go.RowKit
set_option maxRecDepth 100000
/-- The number at a place. -/
def nthI (xs : List Int) (t : Int) : Int := xs[t.toNat]?.getD 0
theorem place_le {i j k a b c : Int} (hi : 0 ≤ i) (hi' : i < a) (hj : 0 ≤ j) (hj' : j < b) (hk : 0 ≤ k) (hk' : k < c) (ha : a ≤ 9) (hb : b ≤ 9) (hc : c ≤ 9) :
    0 ≤ i * b ∧ i * b ≤ 81 ∧ 0 ≤ (i * b + j) * c ∧ (i * b + j) * c ≤ 729 ∧ 0 ≤ (i * b + j) * c + k ∧ (i * b + j) * c + k < a * b * c := by
  have h1 : 0 ≤ i * b := Int.mul_nonneg hi (by omega)
  have h2 : i * b ≤ 8 * b := Int.mul_le_mul_of_nonneg_right (by omega) (by omega)
  have h3 : 0 ≤ (i * b + j) * c := Int.mul_nonneg (by omega) (by omega)
  have h4 : (i * b + j) * c ≤ 80 * c := Int.mul_le_mul_of_nonneg_right (by omega) (by omega)
  have h5 : (i + 1) * b ≤ a * b := Int.mul_le_mul_of_nonneg_right (by omega) (by omega)
  have h6 : (i * b + j + 1) * c ≤ (i + 1) * b * c := Int.mul_le_mul_of_nonneg_right (by rw [Int.add_mul]; omega) (by omega)
  have h7 : (i + 1) * b * c ≤ a * b * c := Int.mul_le_mul_of_nonneg_right h5 (by omega)
  rw [Int.add_mul] at h6
  omega
set_option maxHeartbeats 800000 in
theorem numberAt_c (p a b c : Int) (A : Option Addr) (cap : Nat) (xs : List Int) (i j k : Int) (w : World) (hr : RdI w A xs) (hl : (xs.length : Int) = a * b * c) (ha : a ≤ 9) (hb : b ≤ 9) (hc : c ≤ 9)
    (hi : 0 ≤ i) (hi' : i < a) (hj : 0 ≤ j) (hj' : j < b) (hk : 0 ≤ k) (hk' : k < c) :
    Calls Try.prog 41 #[.agg #[.int .i64 p, .int .i64 a, .int .i64 b, .int .i64 c, .slice A xs.length cap], .int .i64 i, .int .i64 j, .int .i64 k] w fun e w' => e = .returned (.int .i64 (nthI xs ((i * b + j) * c + k))) ∧ Below w.heap.size w w' := by
  obtain ⟨h1, h2, h3, h4, h5, h6⟩ := place_le hi hi' hj hj' hk hk' ha hb hc
  have e1 : IntKind.i64.wrap (i * b) = i * b := IntWalk.i64_in _ (by omega)
  have e2 : IntKind.i64.wrap (i * b + j) = i * b + j := IntWalk.i64_in _ (by omega)
  have e3 : IntKind.i64.wrap ((i * b + j) * c) = (i * b + j) * c := IntWalk.i64_in _ (by omega)
  have e4 : IntKind.i64.wrap ((i * b + j) * c + k) = (i * b + j) * c + k := IntWalk.i64_in _ (by omega)
  obtain ⟨t, ht⟩ := Int.eq_ofNat_of_zero_le h5
  have hlt : t < xs.length := by omega
  obtain ⟨bb, off, rfl, hx⟩ := (hr.keep (below1 w (.cells #[.int .i64 p, .int .i64 a, .int .i64 b, .int .i64 c, .slice A xs.length cap] 29 (0, 0)))).at_ hlt
  have Hv : Hid (nthI xs ((i * b + j) * c + k) = xs[t]) := Lib.hid (by rw [ht]; simp [nthI, hlt])
  rw [ht] at e4
  generalize xs[t] = x at *
  clear h1 h2 h3 h4 h5 h6 hl ha hb hc hi hi' hj hj' hk hk' hr
  go_enter Try.func41, Try.ntmps41
  go_wp2_with fail
  go_ret
  exact ⟨by rw [Hv.out]; rfl, below1 _ _⟩
set_option maxHeartbeats 800000 in
theorem l05At_c (p a b c : Int) (A : Option Addr) (cap : Nat) (xs : List Int) (i j k : Int) (w : World) (hr : RdI w A xs) (hl : (xs.length : Int) = a * b * c) (ha : a ≤ 9) (hb : b ≤ 9) (hc : c ≤ 9)
    (hi : 0 ≤ i) (hi' : i < a) (hj : 0 ≤ j) (hj' : j < b) (hk : 0 ≤ k) (hk' : k < c) :
    Calls Try.prog 37 #[.agg #[.int .i64 p, .int .i64 a, .int .i64 b, .int .i64 c, .slice A xs.length cap], .int .i64 i, .int .i64 j, .int .i64 k] w fun e w' => e = .returned (.int .i64 (nthI xs ((i * b + j) * c + k))) ∧ Below w.heap.size w w' := by
  obtain ⟨h1, h2, h3, h4, h5, h6⟩ := place_le hi hi' hj hj' hk hk' ha hb hc
  have e1 : IntKind.i64.wrap (i * b) = i * b := IntWalk.i64_in _ (by omega)
  have e2 : IntKind.i64.wrap (i * b + j) = i * b + j := IntWalk.i64_in _ (by omega)
  have e3 : IntKind.i64.wrap ((i * b + j) * c) = (i * b + j) * c := IntWalk.i64_in _ (by omega)
  have e4 : IntKind.i64.wrap ((i * b + j) * c + k) = (i * b + j) * c + k := IntWalk.i64_in _ (by omega)
  obtain ⟨t, ht⟩ := Int.eq_ofNat_of_zero_le h5
  have hlt : t < xs.length := by omega
  obtain ⟨bb, off, rfl, hx⟩ := (hr.keep (below1 w (.cells #[.int .i64 p, .int .i64 a, .int .i64 b, .int .i64 c, .slice A xs.length cap] 29 (0, 0)))).at_ hlt
  have Hv : Hid (nthI xs ((i * b + j) * c + k) = xs[t]) := Lib.hid (by rw [ht]; simp [nthI, hlt])
  rw [ht] at e4
  generalize xs[t] = x at *
  clear h1 h2 h3 h4 h5 h6 hl ha hb hc hi hi' hj hj' hk hk' hr
  go_enter Try.func37, Try.ntmps37
  go_wp2_with fail
  go_ret
  exact ⟨by rw [Hv.out]; rfl, below1 _ _⟩
/-! ### has -/
def hasB (a b c i j k : Int) : Bool := inB i a && inB j b && inB k c
theorem inB_iff {x n : Int} : inB x n = true ↔ 0 ≤ x ∧ x < n := by simp [inB]
theorem hasB_in {a b c i j k : Int} (h : hasB a b c i j k = true) : 0 ≤ i ∧ i < a ∧ 0 ≤ j ∧ j < b ∧ 0 ≤ k ∧ k < c := by
  simp only [hasB, Bool.and_eq_true, inB_iff] at h
  omega
/-! ### NumberAt -/
def naCode (p a b c : Int) (xs : List Int) (i j k : Int) : Int := if tenB p a b c xs = true then (if hasB a b c i j k = true then 0 else 2) else 1
def naR (p a b c : Int) (xs : List Int) (i j k : Int) : Int := if naCode p a b c xs i j k = 0 then nthI xs ((i * b + j) * c + k) else 0
theorem l01In_idx (x n q : Int) (hq : q = n - 1) (w : World) : Calls Try.prog 26 #[.int .i64 x, .int .i64 0, .int .i64 q] w fun e w' => e = .returned (.bool (inB x n)) ∧ w = w' := l01In_num x n q hq w
end Go.Proofs.Ytolgfpcadfjliaa
