/-
  The turn of a tensor, made number by number in the order of the first one's; spec.l05Empty.
-/
import Derived.Test.YtebmkmkhfhmfbaaTen8
namespace Go.Proofs.Ytebmkmkhfhmfbaa
open Go.RowKit
set_option maxRecDepth 100000
theorem dm_div {q n r : Nat} (h : r < n) : (q * n + r) / n = q := by
  rw [Nat.mul_comm, Nat.mul_add_div (by omega), Nat.div_eq_of_lt h, Nat.add_zero]
theorem dm_mod {q n r : Nat} (h : r < n) : (q * n + r) % n = r := by
  rw [Nat.mul_comm, Nat.mul_add_mod, Nat.mod_eq_of_lt h]
theorem dm_eq {q n r q' r' : Nat} (h : r < n) (h' : r' < n) (e : q * n + r = q' * n + r') : q = q' ∧ r = r' := by
  have h1 := dm_div (q := q) h
  have h2 := dm_mod (q := q) h
  rw [e, dm_div h'] at h1
  rw [e, dm_mod h'] at h2
  exact ⟨h1.symm, h2.symm⟩
def srcT (n0 n1 n2 t : Nat) : Nat := (t % n0 * n1 + t / n0 / n2) * n2 + t / n0 % n2
def turnP (n0 n1 n2 : Nat) (xs : List Int) (c : Nat) : List Int := (List.range (n1 * n2 * n0)).map fun t => if srcT n0 n1 n2 t < c then nthI xs ((srcT n0 n1 n2 t : Nat) : Int) else 0
theorem turnP_len (n0 n1 n2 : Nat) (xs : List Int) (c : Nat) : (turnP n0 n1 n2 xs c).length = n1 * n2 * n0 := by simp [turnP]
theorem turnP_zero (n0 n1 n2 : Nat) (xs : List Int) : turnP n0 n1 n2 xs 0 = List.replicate (n1 * n2 * n0) 0 := by
  apply List.ext_getElem
  · simp [turnP]
  · intro t h1 h2
    simp [turnP]
theorem srcT_dst {n0 n1 n2 i j k : Nat} (hi : i < n0) (hk : k < n2) : srcT n0 n1 n2 ((j * n2 + k) * n0 + i) = (i * n1 + j) * n2 + k := by
  unfold srcT
  rw [dm_div hi, dm_mod hi, dm_div hk, dm_mod hk]
theorem srcT_inj {n0 n1 n2 i j k t : Nat} (hj : j < n1) (hk : k < n2) (ht : t < n1 * n2 * n0) (h : srcT n0 n1 n2 t = (i * n1 + j) * n2 + k) : t = (j * n2 + k) * n0 + i := by
  unfold srcT at h
  have q1 : t / n0 < n1 * n2 := Nat.div_lt_of_lt_mul (by rw [Nat.mul_comm]; exact ht)
  have q2 : t / n0 / n2 < n1 := Nat.div_lt_of_lt_mul (by rw [Nat.mul_comm]; exact q1)
  have q3 : t / n0 % n2 < n2 := Nat.mod_lt _ (by omega)
  obtain ⟨e1, e2⟩ := dm_eq q3 hk h
  obtain ⟨e3, e4⟩ := dm_eq q2 hj e1
  have e5 : t / n0 = j * n2 + k := by
    rw [← e4, ← e2, Nat.mul_comm]
    exact (Nat.div_add_mod _ _).symm
  rw [← e3, ← e5, Nat.mul_comm]
  exact (Nat.div_add_mod _ _).symm
theorem turnP_step {n0 n1 n2 i j k : Nat} {xs : List Int} (hi : i < n0) (hj : j < n1) (hk : k < n2) :
    (turnP n0 n1 n2 xs ((i * n1 + j) * n2 + k)).set ((j * n2 + k) * n0 + i) (nthI xs (((i * n1 + j) * n2 + k : Nat) : Int)) = turnP n0 n1 n2 xs ((i * n1 + j) * n2 + k + 1) := by
  apply List.ext_getElem
  · simp [turnP]
  · intro t h1 h2
    have ht : t < n1 * n2 * n0 := by rw [turnP_len] at h2; exact h2
    rw [List.getElem_set]
    by_cases e : (j * n2 + k) * n0 + i = t
    · rw [if_pos e]
      have hs : srcT n0 n1 n2 t = (i * n1 + j) * n2 + k := by rw [← e]; exact srcT_dst hi hk
      simp only [turnP, List.getElem_map, List.getElem_range]
      rw [hs, if_pos (by omega)]
    · rw [if_neg e]
      have hs : srcT n0 n1 n2 t ≠ (i * n1 + j) * n2 + k := fun h => e (srcT_inj hj hk ht h).symm
      simp only [turnP, List.getElem_map, List.getElem_range]
      by_cases h3 : srcT n0 n1 n2 t < (i * n1 + j) * n2 + k
      · rw [if_pos h3, if_pos (by omega)]
      · rw [if_neg h3, if_neg (by omega)]
theorem srcT_lt {n0 n1 n2 t : Nat} (h0 : 0 < n0) (h2 : 0 < n2) (ht : t < n1 * n2 * n0) : srcT n0 n1 n2 t < n0 * n1 * n2 := by
  have q1 : t / n0 < n1 * n2 := Nat.div_lt_of_lt_mul (by rw [Nat.mul_comm]; exact ht)
  have q2 : t / n0 / n2 < n1 := Nat.div_lt_of_lt_mul (by rw [Nat.mul_comm]; exact q1)
  exact place_lt (Nat.mod_lt _ h0) q2 (Nat.mod_lt _ h2)
theorem turnP_end {n0 n1 n2 : Nat} {p : Int} {xs : List Int} (h0 : 0 < n0) (h2 : 0 < n2) (hp : 0 < p) (hn : numsB p xs = true) : turnP n0 n1 n2 xs (n0 * n1 * n2) = turnL p n0 n1 n2 xs := by
  apply List.ext_getElem
  · rw [turnP_len, turnL_len]
  · intro t h1 h3
    have ht : t < n1 * n2 * n0 := by rw [turnP_len] at h1; exact h1
    simp only [turnP, turnL, genL, gen, List.getElem_map, List.getElem_range]
    rw [if_pos (srcT_lt h0 h2 ht)]
    have := numsB_nth hn hp ((srcT n0 n1 n2 t : Nat) : Int)
    unfold at3
    exact (Int.emod_eq_of_lt this.1 this.2).symm
end Go.Proofs.Ytebmkmkhfhmfbaa
