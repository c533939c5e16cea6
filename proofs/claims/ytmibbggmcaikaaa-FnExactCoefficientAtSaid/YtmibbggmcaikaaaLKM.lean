/-
  For the laws' walks: matrices.
-/
import Derived.Test.YtmibbggmcaikaaaMat2
namespace Go.Proofs.Ytmibbggmcaikaaa
open Go.RowKit
set_option maxRecDepth 100000
theorem tot_ge (row : Nat → List Int) {i n : Nat} (h : i < n) : (row i).length ≤ tot row n := by
  have := tot_mono row (show i + 1 ≤ n by omega)
  simp only [tot] at this
  omega
theorem tot_le {row : Nat → List Int} {n K : Nat} (h : ∀ i, i < n → (row i).length ≤ K) : tot row n ≤ n * K := by
  induction n with
  | zero => simp [tot]
  | succ n ih =>
    have h1 := ih (fun i hi => h i (by omega))
    have h2 := h n (by omega)
    simp only [tot, Nat.succ_mul]
    omega
theorem OwnI.of_at {w : World} {lo g : Nat} {xs : List Int} (h : At w g (.cells (iar xs) 2 (0, 0))) (hl : lo ≤ g) (hn : xs.length ≤ 1048576) : OwnI w lo (.slice (some ⟨g, 0, none⟩) xs.length xs.length) xs := by
  refine ⟨by rw [i64s_len]; simp, .inr ⟨g, xs.length, iar xs, rfl, hl, h, Nat.le_refl _, by unfold maxLen; omega, by rw [iar_size]; simp, ?_⟩⟩
  rw [List.take_of_length_le (by simp [iar, i64s])]
  simp [iar]
end Go.Proofs.Ytmibbggmcaikaaa
