/-
  Places and right sides: spec.l01Want; impl.isIndex, unitForm, rightSides.
-/
import Derived.Test.YtdbcgbbokodndaaImplIs
namespace Go.Proofs.Ytdbcgbbokodndaa
open Go.RowKit
set_option maxRecDepth 100000
def inB (a N : Int) : Bool := decide (0 ≤ a) && decide (a < N)
def wantI (m k a b c : Int) : Int := if a % m = b / k ∧ a / m = c / k ∧ b % k = c % k then 1 else 0
theorem isIndex_c (a N : Int) (w : World) : Calls Try.prog 66 #[.int .i64 a, .int .i64 N] w fun e w' => e = .returned (.bool (inB a N)) ∧ w = w' := by
  by_cases h : 0 ≤ a
  · have Hr : Hid (inB a N = decide (a < N)) := Lib.hid (by simp [inB, h])
    have h1 : decide (0 ≤ a) = true := by simp [h]
    go_enter Try.func66, Try.ntmps66
    go_wp2_with fail
    go_ret
    exact ⟨by rw [Hr.out]; rfl, rfl⟩
  · have Hr : Hid (inB a N = false) := Lib.hid (by simp [inB, h])
    have h1 : decide (0 ≤ a) = false := by simp [h]
    go_enter Try.func66, Try.ntmps66
    go_wp2_with fail
    go_ret
    exact ⟨by rw [Hr.out]; rfl, rfl⟩
def unitL (j : Nat) : List Nat := (List.replicate 9 0).set j 1
theorem unitL_len (j : Nat) : (unitL j).length = 9 := by simp [unitL]
set_option maxHeartbeats 400000 in
theorem unitForm_c (j : Nat) (hj : j < 9) (w : World) : Calls Try.prog 62 #[.int .i64 j] w fun e w' => e = .returned (.agg (u8s (unitL j))) ∧ Below w.heap.size w w' := by
  go_enter Try.func62, Try.ntmps62
  go_wp2_with (first | (refine wpList_abs2 ?_; intro W hsz hB h0 h1; replace h0 : At W w.heap.size (.cells (u8s (List.replicate 9 0)) 52 (0, 0)) := h0; replace h1 : At W (w.heap.size + 1) (.cells (u8s (List.replicate 9 0)) 52 (0, 0)) := h1; have c1 := h1.cell (i := j) (by simp; exact hj); have f1 := h1.free j; have p1 := Put.set (i := j) h1 1; have h0' := p1.other h0 (by omega); have h1' := p1.at_; have hB' := p1.below hB (by omega); clear p1) | (refine wpList_load_all rfl 52 _ rfl (w.heap.size + 1) rfl _ _ _ h1' Try.underlying52 rfl 9 (by kernel_rfl) ((u8s_size _).trans (unitL_len j)) ?_) | (refine wpList_store_u8s rfl 52 _ _ rfl rfl w.heap.size 0 rfl _ rfl _ _ h0' 9 (by kernel_rfl) (unitL_len j) (by simp) ?_; intro w2 p2))
  rw [over_all (by simp)] at p2
  refine bodyPost_ret (results_at rfl _ _ w.heap.size _ _ _ rfl p2.at_ Try.underlying52 rfl 9 (by kernel_rfl) ((u8s_size _).trans (unitL_len j))) rfl ?_
  exact ⟨rfl, p2.below hB' (by omega)⟩
def rightL (m k a b : Int) : List Nat := if a % m = b / k then unitL (a / m * k + b % k).toNat else List.replicate 9 0
theorem place_bounds {n m k a b : Int} (hn : 1 ≤ n ∧ n ≤ 3) (hm : 1 ≤ m ∧ m ≤ 3) (hk : 1 ≤ k ∧ k ≤ 3) (ha : 0 ≤ a ∧ a < n * m) : 0 ≤ a / m * k ∧ a / m * k ≤ 6 ∧ 0 ≤ a / m * k + b % k ∧ a / m * k + b % k < 9 := by
  have hn' : n = 1 ∨ n = 2 ∨ n = 3 := by omega
  have hm' : m = 1 ∨ m = 2 ∨ m = 3 := by omega
  have hk' : k = 1 ∨ k = 2 ∨ k = 3 := by omega
  rcases hn' with rfl | rfl | rfl <;> rcases hm' with rfl | rfl | rfl <;> rcases hk' with rfl | rfl | rfl <;> omega
end Go.Proofs.Ytdbcgbbokodndaa
