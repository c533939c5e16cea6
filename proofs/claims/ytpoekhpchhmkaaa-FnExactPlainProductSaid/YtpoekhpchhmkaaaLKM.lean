/-
  For the laws' walks: matrices.
-/
import Derived.Test.YtpoekhpchhmkaaaMat2
namespace Go.Proofs.Ytpoekhpchhmkaaa
open Go.RowKit
set_option maxRecDepth 100000
/-- The call answers this matrix, in memory of its own, and this code. -/
def ResM (w : World) (n : Nat) (row : Nat → List Int) (code : Int) (e : Ending) (w' : World) : Prop :=
  ∃ v, e = .returned (.tuple #[v, .int .i64 code]) ∧ OwnM w' w.heap.size w'.heap.size v n row ∧ Below w.heap.size w w'
theorem tot_ge (row : Nat → List Int) {i n : Nat} (h : i < n) : (row i).length ≤ tot row n := by
  have := tot_mono row (show i + 1 ≤ n by omega)
  simp only [tot] at this
  omega
theorem markInt64SS_2 {lo hi : Nat} {v : Value} (K : Nat) (k : Int) (n : Nat) (row : Nat → List Int) (w : World) (hk' : k = (K : Int)) (h : OwnM w lo hi v n row) (ht : n + tot row n ≤ 1048576) (hk : K ≤ 1000000000) :
    Calls Try.prog 22 #[v, .int .i64 k] w fun e w' => e = .returned (.int .i64 ((K + tot row n : Nat) : Int)) ∧ OwnM w' lo hi v n (markRow K row) ∧ Same lo hi w w' := by
  subst hk'
  exact markInt64SS_c K n row w h ht hk
theorem heldInt64SS_2 {lo hi : Nat} {v : Value} (n : Nat) (row : Nat → List Int) (w : World) (h : OwnM w lo hi v n (markRow 1 row)) (ht : n + tot row n ≤ 1048576) :
    Calls Try.prog 23 #[v, .int .i64 1] w fun e w' => e = .returned (.int .i64 ((1 + tot row n : Nat) : Int)) ∧ w = w' := heldInt64SS_c 1 n row w h ht (by omega)
theorem tot_le {row : Nat → List Int} {n K : Nat} (h : ∀ i, i < n → (row i).length ≤ K) : tot row n ≤ n * K := by
  induction n with
  | zero => simp [tot]
  | succ n ih =>
    have h1 := ih (fun i hi => h i (by omega))
    have h2 := h n (by omega)
    simp only [tot, Nat.succ_mul]
    omega
theorem OwnI.of_at {w : World} {lo g : Nat} {xs : List Int} (h : At w g (.cells (iar xs) 2 (0, 0))) (hl : lo ≤ g) (hn : xs.length ≤ 1048576) : OwnI w lo (.slice (some ⟨g, 0, none⟩) xs.length xs.length) xs := by
  refine ⟨by rw [i64s_len]; simp, .inr ⟨g, xs.length, iar xs, rfl, hl, h, Nat.le_refl _, by unfold maxLen; omega, by rw [iar_size]; simp, ?_⟩⟩
  rw [List.take_of_length_le (by simp [iar, i64s])]
  simp [iar]
theorem szInt64S_e (A : Option Addr) (n c : Nat) (l : Int) (w : World) (h0 : 0 ≤ l) (hn : n ≤ 9223372036854775807) (hl : l ≤ 1048576) :
    Calls Try.prog 41 #[.slice A n c, .int .i64 l] w fun e w' => ∃ r, e = .returned (.int .i64 r) ∧ SzN n l r ∧ w = w' := by
  refine (szInt64S_c A n c l w h0 hn hl).mono ?_
  rintro e w' ⟨rfl, rfl⟩
  refine ⟨_, rfl, ?_, rfl⟩
  by_cases h : l < n
  · rw [if_pos h]; exact .inl rfl
  · rw [if_neg h]; exact .inr ⟨by omega, by omega⟩
end Go.Proofs.Ytpoekhpchhmkaaa
