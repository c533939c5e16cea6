/-
  The table of spec.RestTensor, place by place: what its three loops leave.
-/
import Derived.Test.YtdbcgbbokodndaaRti
namespace Go.Proofs.Ytdbcgbbokodndaa
open Go.RowKit
set_option maxRecDepth 100000
/-- The places that are set behind z rounds, i rounds of the next, k rounds of that. -/
def rsT (d z i k t : Nat) : Bool := decide (t / d / d + t / d % d < z ∨ (t / d / d + t / d % d = z ∧ (t / d / d < i ∨ (t / d / d = i ∧ t % d < k))))
def rsP (p : Int) (xs : List Int) (d z i k : Nat) : List Int := (List.range (d * d * d)).map fun t => if rsT d z i k t = true then rsF p xs (t / d / d) (t / d % d) (t % d) else 0
theorem rsP_len (p : Int) (xs : List Int) (d z i k : Nat) : (rsP p xs d z i k).length = d * d * d := by simp [rsP]
theorem rsP_congr {p : Int} {xs : List Int} {d z i k z' i' k' : Nat} (h : ∀ t, t < d * d * d → rsT d z i k t = rsT d z' i' k' t) : rsP p xs d z i k = rsP p xs d z' i' k' := by
  unfold rsP
  apply List.map_congr_left
  intro t ht
  rw [h t (List.mem_range.1 ht)]
theorem rs_parts {d t : Nat} (h : t < d * d * d) : t / d / d < d ∧ t / d % d < d ∧ t % d < d := by
  have hd : 0 < d := by
    rcases Nat.eq_zero_or_pos d with rfl | h0
    · simp at h
    · exact h0
  refine ⟨?_, Nat.mod_lt _ hd, Nat.mod_lt _ hd⟩
  rw [Nat.div_div_eq_div_mul]
  exact Nat.div_lt_of_lt_mul h
theorem rsP_zero (p : Int) (xs : List Int) (d : Nat) : rsP p xs d 0 0 0 = List.replicate (d * d * d) 0 := by
  apply List.ext_getElem
  · simp [rsP]
  · intro t h1 h2
    simp [rsP, rsT]
theorem rsP_k (p : Int) (xs : List Int) (d z i : Nat) : rsP p xs d z i d = rsP p xs d z (i + 1) 0 := rsP_congr fun t ht => by
  obtain ⟨_, _, h3⟩ := rs_parts ht
  unfold rsT
  rw [decide_eq_decide]
  omega
theorem rsP_i (p : Int) (xs : List Int) {d z i : Nat} (hi : d ≤ i ∨ z < i) : rsP p xs d z i 0 = rsP p xs d (z + 1) (z + 2 - d) 0 := rsP_congr fun t ht => by
  obtain ⟨h1, h2, _⟩ := rs_parts ht
  unfold rsT
  rw [decide_eq_decide]
  clear ht
  generalize t / d / d = a at *
  generalize t / d % d = b at *
  generalize t % d = c at *
  constructor
  · intro h
    have h9 : a + b < z + 1 := by omega
    exact .inl h9
  · intro h
    have h9 : a + b < z + 1 := by
      rcases h with h | ⟨h, h8⟩
      · exact h
      · omega
    omega
theorem rsP_end {p : Int} (hp : 2 ≤ p) (xs : List Int) {d z i : Nat} (hd : xs.length = d) (hz : 2 * d ≤ z + 1) : rsP p xs d z i 0 = rsL p xs := by
  subst hd
  unfold rsP rsL genL gen
  apply List.map_congr_left
  intro t ht
  obtain ⟨h1, h2, h3⟩ := rs_parts (List.mem_range.1 ht)
  have e : rsT xs.length z i 0 t = true := by unfold rsT; rw [decide_eq_true_eq]; omega
  have hb := (restR_in hp xs (t / xs.length / xs.length + t / xs.length % xs.length)).get (rsF_get p xs h3)
  rw [if_pos e]
  exact (Int.emod_eq_of_lt hb.1 hb.2).symm
theorem rs_place {d i j k : Nat} (hj : j < d) (hk : k < d) : ((i * d + j) * d + k) / d / d = i ∧ ((i * d + j) * d + k) / d % d = j ∧ ((i * d + j) * d + k) % d = k := by
  have hd : 0 < d := by omega
  have e1 : ((i * d + j) * d + k) / d = i * d + j := by rw [Nat.mul_comm, Nat.mul_add_div hd, Nat.div_eq_of_lt hk, Nat.add_zero]
  have e2 : (i * d + j) / d = i := by rw [Nat.mul_comm, Nat.mul_add_div hd, Nat.div_eq_of_lt hj, Nat.add_zero]
  refine ⟨by rw [e1, e2], ?_, ?_⟩
  · rw [e1, Nat.mul_comm, Nat.mul_add_mod, Nat.mod_eq_of_lt hj]
  · rw [Nat.mul_comm, Nat.mul_add_mod, Nat.mod_eq_of_lt hk]
theorem rs_same {d i j k t : Nat} (h1 : t / d / d = i) (h2 : t / d % d = j) (h3 : t % d = k) : t = (i * d + j) * d + k := by
  subst h1
  subst h2
  subst h3
  rw [Nat.div_add_mod', Nat.div_add_mod']
theorem rsP_set {p : Int} {xs : List Int} {d z i k : Nat} {X : Int} (hiz : i ≤ z) (hj : z - i < d) (hk : k < d) (hX : rsF p xs i (z - i) k = X) : (rsP p xs d z i k).set ((i * d + (z - i)) * d + k) X = rsP p xs d z i (k + 1) := by
  obtain ⟨p1, p2, p3⟩ := rs_place (i := i) hj hk
  apply List.ext_getElem
  · simp [rsP]
  · intro t h1 h2
    rw [List.getElem_set]
    simp only [rsP, List.getElem_map, List.getElem_range]
    by_cases e : (i * d + (z - i)) * d + k = t
    · rw [if_pos e]
      rw [e] at p1 p2 p3
      have e9 : rsT d z i (k + 1) t = true := by unfold rsT; rw [decide_eq_true_eq]; omega
      rw [if_pos e9, p1, p2, p3, hX]
    · rw [if_neg e]
      have e9 : rsT d z i k t = rsT d z i (k + 1) t := by
        unfold rsT
        rw [decide_eq_decide]
        have h9 : ¬ (t / d / d = i ∧ t / d % d = z - i ∧ t % d = k) := fun ⟨a, b, c⟩ => e (rs_same a b c).symm
        omega
      rw [e9]
/-- The step as spec writes it. -/
theorem stR_spec (p V R X : Int) : (V - R * X) % p = (V + (p - R) * X) % p := by
  have e : V + (p - R) * X = V - R * X + X * p := by rw [Int.sub_mul, Int.mul_comm p X]; omega
  rw [e, Int.add_mul_emod_self_right]
end Go.Proofs.Ytdbcgbbokodndaa
