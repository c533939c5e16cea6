/-
  Primes, sizes, places: spec.l01Prime, l01In, l01Sizes, l01Lengths; impl.isPrime, isSize, places, shapesOf, factorsOf.
-/
import Derived.Test.YtbahcbmmkbokgaaEqs
namespace Go.Proofs.Ytbahcbmmkbokgaa
open Go.RowKit
def primeB (p : Int) : Bool := p == 2 || p == 3 || p == 5
def sizeB (n : Int) : Bool := decide (1 ≤ n) && decide (n ≤ 3)
def sizesB (p n m k : Int) : Bool := primeB p && sizeB n && sizeB m && sizeB k
theorem ret_bool {a b : Bool} (h : a = b) : Ending.returned (.bool a) = .returned (.bool b) := by rw [h]
set_option maxRecDepth 100000
theorem mul_bounds {a b : Int} (h1 : 1 ≤ a) (h2 : a ≤ 3) (h3 : 1 ≤ b) (h4 : b ≤ 3) : 1 ≤ a * b ∧ a * b ≤ 9 := by
  have ha : a = 1 ∨ a = 2 ∨ a = 3 := by omega
  rcases ha with rfl | rfl | rfl <;> omega
theorem mul_in {a b : Int} (h1 : 1 ≤ a) (h2 : a ≤ 3) (h3 : 1 ≤ b) (h4 : b ≤ 3) : IntKind.i64.wrap (a * b) = a * b := by
  have := mul_bounds h1 h2 h3 h4
  exact IntWalk.i64_in _ (by omega)
theorem l01Prime_c (p : Int) (w : World) : Calls Try.prog 39 #[.int .i64 p] w fun e w' => e = .returned (.bool (primeB p)) ∧ w = w' := by
  by_cases h2 : p = 2
  · subst h2
    go_enter Try.func39, Try.ntmps39
    go_wp2_with fail
    go_ret
    exact ⟨rfl, rfl⟩
  · by_cases h3 : p = 3
    · subst h3
      go_enter Try.func39, Try.ntmps39
      go_wp2_with fail
      go_ret
      exact ⟨rfl, rfl⟩
    · have b2 : (p == 2) = false := by simp [h2]
      have b3 : (p == 3) = false := by simp [h3]
      have Hr : Hid (primeB p = (p == 5)) := Lib.hid (by simp [primeB, b2, b3])
      clear h2 h3
      go_enter Try.func39, Try.ntmps39
      go_wp2_with fail
      go_ret
      exact ⟨by rw [Hr.out]; rfl, rfl⟩
theorem isPrime_c (p : Int) (w : World) : Calls Try.prog 45 #[.int .i64 p] w fun e w' => e = .returned (.bool (primeB p)) ∧ w = w' := by
  by_cases h2 : p = 2
  · subst h2
    go_enter Try.func45, Try.ntmps45
    go_wp2_with fail
    go_ret
    exact ⟨rfl, rfl⟩
  · by_cases h3 : p = 3
    · subst h3
      go_enter Try.func45, Try.ntmps45
      go_wp2_with fail
      go_ret
      exact ⟨rfl, rfl⟩
    · have b2 : (p == 2) = false := by simp [h2]
      have b3 : (p == 3) = false := by simp [h3]
      have Hr : Hid (primeB p = (p == 5)) := Lib.hid (by simp [primeB, b2, b3])
      clear h2 h3
      go_enter Try.func45, Try.ntmps45
      go_wp2_with fail
      go_ret
      exact ⟨by rw [Hr.out]; rfl, rfl⟩
theorem l01In_c (n a b : Int) (w : World) : Calls Try.prog 40 #[.int .i64 n, .int .i64 a, .int .i64 b] w fun e w' => e = .returned (.bool (decide (a ≤ n) && decide (n ≤ b))) ∧ w = w' := by
  by_cases h : a ≤ n
  · have h1 : decide (a ≤ n) = true := by simp [h]
    go_enter Try.func40, Try.ntmps40
    go_wp2_with fail
    go_ret
    exact ⟨by simp [h], rfl⟩
  · have h1 : decide (a ≤ n) = false := by simp [h]
    go_enter Try.func40, Try.ntmps40
    go_wp2_with fail
    go_ret
    exact ⟨by simp, rfl⟩
theorem l01In_size (n : Int) (w : World) : Calls Try.prog 40 #[.int .i64 n, .int .i64 1, .int .i64 3] w fun e w' => e = .returned (.bool (sizeB n)) ∧ w = w' := l01In_c n 1 3 w
theorem places_c (r c : Int) (w : World) (hr : sizeB r = true) (hc : sizeB c = true) : Calls Try.prog 71 #[.agg #[.int .i64 r, .int .i64 c]] w fun e w' => e = .returned (.int .i64 (r * c)) ∧ Below w.heap.size w w' := by
  simp only [sizeB, Bool.and_eq_true, decide_eq_true_eq] at hr hc
  obtain ⟨r1, r2⟩ := hr
  obtain ⟨c1, c2⟩ := hc
  have a1 : IntKind.i64.wrap (r * c) = r * c := mul_in r1 r2 c1 c2
  go_enter Try.func71, Try.ntmps71
  go_wp2_with fail
  go_ret
  exact ⟨rfl, below1 _ _⟩
theorem factorsOf_c (q : List Nat) (hq : Bytes 27 q) (w : World) : Calls Try.prog 67 #[.agg (u8s q)] w fun e w' => e = .returned (.agg (u8s q)) ∧ Below w.heap.size w w' := by
  have zq : 27 ≤ q.length := by rw [hq.len]; exact Nat.le_refl _
  go_enter Try.func67, Try.ntmps67
  go_wp2_with (first | (refine wpList_abs2 ?_; intro W hsz hB h0 h1; replace h1 : At W (w.heap.size + 1) (.cells (u8s (List.replicate 27 0)) 102 (0, 0)) := h1) | (refine wpList_load_u8s rfl 59 _ rfl w.heap.size 0 rfl _ q _ 9 h0 Try.underlying59 rfl (by kernel_rfl) (by omega) ?_) | (refine wpList_load_u8s rfl 59 _ rfl w.heap.size 9 rfl _ q _ 9 h0 Try.underlying59 rfl (by kernel_rfl) (by omega) ?_) | (refine wpList_load_u8s rfl 59 _ rfl w.heap.size 18 rfl _ q _ 9 h0 Try.underlying59 rfl (by kernel_rfl) (by omega) ?_) | (refine wpList_of_exec rfl (exec_build3 _ 59 _ _ _ rfl 3 _ _ _ rfl rfl rfl Try.underlying102 (by kernel_rfl) (by kernel_rfl) (segm_len (by omega)) (segm_len (by omega)) (segm_len (by omega))) ?_; rw [over3 q hq.len]) | (refine wpList_store_u8s rfl 102 _ _ rfl rfl (w.heap.size + 1) 0 rfl _ rfl _ _ h1 27 (by kernel_rfl) hq.len (by simp) ?_; intro w2 p2))
  rw [over_all (by rw [hq.len]; simp)] at p2
  refine bodyPost_ret (results_at rfl _ _ (w.heap.size + 1) _ _ _ rfl p2.at_ Try.underlying102 rfl 27 (by kernel_rfl) ((u8s_size _).trans hq.len)) rfl ?_
  exact ⟨rfl, p2.below hB (by omega)⟩
end Go.Proofs.Ytbahcbmmkbokgaa
