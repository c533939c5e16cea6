/-
  The turn of a tensor, made number by number in the order of the first one's; spec.l05Empty.
-/
import Derived.Test.YtolgfpcadfjliaaTen8
namespace Go.Proofs.Ytolgfpcadfjliaa
open Go.RowKit
set_option maxRecDepth 100000
theorem dm_div {q n r : Nat} (h : r < n) : (q * n + r) / n = q := by
  rw [Nat.mul_comm, Nat.mul_add_div (by omega), Nat.div_eq_of_lt h, Nat.add_zero]
theorem dm_mod {q n r : Nat} (h : r < n) : (q * n + r) % n = r := by
  rw [Nat.mul_comm, Nat.mul_add_mod, Nat.mod_eq_of_lt h]
theorem dm_eq {q n r q' r' : Nat} (h : r < n) (h' : r' < n) (e : q * n + r = q' * n + r') : q = q' ∧ r = r' := by
  have h1 := dm_div (q := q) h
  have h2 := dm_mod (q := q) h
  rw [e, dm_div h'] at h1
  rw [e, dm_mod h'] at h2
  exact ⟨h1.symm, h2.symm⟩
def srcT (n0 n1 n2 t : Nat) : Nat := (t % n0 * n1 + t / n0 / n2) * n2 + t / n0 % n2
def turnP (n0 n1 n2 : Nat) (xs : List Int) (c : Nat) : List Int := (List.range (n1 * n2 * n0)).map fun t => if srcT n0 n1 n2 t < c then nthI xs ((srcT n0 n1 n2 t : Nat) : Int) else 0
theorem turnP_len (n0 n1 n2 : Nat) (xs : List Int) (c : Nat) : (turnP n0 n1 n2 xs c).length = n1 * n2 * n0 := by simp [turnP]
theorem turnP_zero (n0 n1 n2 : Nat) (xs : List Int) : turnP n0 n1 n2 xs 0 = List.replicate (n1 * n2 * n0) 0 := by
  apply List.ext_getElem
  · simp [turnP]
  · intro t h1 h2
    simp [turnP]
theorem srcT_dst {n0 n1 n2 i j k : Nat} (hi : i < n0) (hk : k < n2) : srcT n0 n1 n2 ((j * n2 + k) * n0 + i) = (i * n1 + j) * n2 + k := by
  unfold srcT
  rw [dm_div hi, dm_mod hi, dm_div hk, dm_mod hk]
theorem srcT_inj {n0 n1 n2 i j k t : Nat} (hj : j < n1) (hk : k < n2) (ht : t < n1 * n2 * n0) (h : srcT n0 n1 n2 t = (i * n1 + j) * n2 + k) : t = (j * n2 + k) * n0 + i := by
  unfold srcT at h
  have q1 : t / n0 < n1 * n2 := Nat.div_lt_of_lt_mul (by rw [Nat.mul_comm]; exact ht)
  have q2 : t / n0 / n2 < n1 := Nat.div_lt_of_lt_mul (by rw [Nat.mul_comm]; exact q1)
  have q3 : t / n0 % n2 < n2 := Nat.mod_lt _ (by omega)
  obtain ⟨e1, e2⟩ := dm_eq q3 hk h
  obtain ⟨e3, e4⟩ := dm_eq q2 hj e1
  have e5 : t / n0 = j * n2 + k := by
    rw [← e4, ← e2, Nat.mul_comm]
    exact (Nat.div_add_mod _ _).symm
  rw [← e3, ← e5, Nat.mul_comm]
  exact (Nat.div_add_mod _ _).symm
theorem turnP_step {n0 n1 n2 i j k : Nat} {xs : List Int} (hi : i < n0) (hj : j < n1) (hk : k < n2) :
    (turnP n0 n1 n2 xs ((i * n1 + j) * n2 + k)).set ((j * n2 + k) * n0 + i) (nthI xs (((i * n1 + j) * n2 + k : Nat) : Int)) = turnP n0 n1 n2 xs ((i * n1 + j) * n2 + k + 1) := by
  apply List.ext_getElem
  · simp [turnP]
  · intro t h1 h2
    have ht : t < n1 * n2 * n0 := by rw [turnP_len] at h2; exact h2
    rw [List.getElem_set]
    by_cases e : (j * n2 + k) * n0 + i = t
    · rw [if_pos e]
      have hs : srcT n0 n1 n2 t = (i * n1 + j) * n2 + k := by rw [← e]; exact srcT_dst hi hk
      simp only [turnP, List.getElem_map, List.getElem_range]
      rw [hs, if_pos (by omega)]
    · rw [if_neg e]
      have hs : srcT n0 n1 n2 t ≠ (i * n1 + j) * n2 + k := fun h => e (srcT_inj hj hk ht h).symm
      simp only [turnP, List.getElem_map, List.getElem_range]
      by_cases h3 : srcT n0 n1 n2 t < (i * n1 + j) * n2 + k
      · rw [if_pos h3, if_pos (by omega)]
      · rw [if_neg h3, if_neg (by omega)]
theorem srcT_lt {n0 n1 n2 t : Nat} (h0 : 0 < n0) (h2 : 0 < n2) (ht : t < n1 * n2 * n0) : srcT n0 n1 n2 t < n0 * n1 * n2 := by
  have q1 : t / n0 < n1 * n2 := Nat.div_lt_of_lt_mul (by rw [Nat.mul_comm]; exact ht)
  have q2 : t / n0 / n2 < n1 := Nat.div_lt_of_lt_mul (by rw [Nat.mul_comm]; exact q1)
  exact place_lt (Nat.mod_lt _ h0) q2 (Nat.mod_lt _ h2)
theorem turnP_end {n0 n1 n2 : Nat} {p : Int} {xs : List Int} (h0 : 0 < n0) (h2 : 0 < n2) (hp : 0 < p) (hn : numsB p xs = true) : turnP n0 n1 n2 xs (n0 * n1 * n2) = turnL p n0 n1 n2 xs := by
  apply List.ext_getElem
  · rw [turnP_len, turnL_len]
  · intro t h1 h3
    have ht : t < n1 * n2 * n0 := by rw [turnP_len] at h1; exact h1
    simp only [turnP, turnL, genL, gen, List.getElem_map, List.getElem_range]
    rw [if_pos (srcT_lt h0 h2 ht)]
    have := numsB_nth hn hp ((srcT n0 n1 n2 t : Nat) : Int)
    unfold at3
    exact (Int.emod_eq_of_lt this.1 this.2).symm
set_option maxHeartbeats 800000 in
theorem l05Empty_c (p : Int) (n0 n1 n2 : Nat) (w : World) (h0 : n0 ≤ 9) (h1 : n1 ≤ 9) (h2 : n2 ≤ 9) :
    Calls Try.prog 66 #[.int .i64 p, .int .i64 n0, .int .i64 n1, .int .i64 n2] w
      fun e w' => ∃ g : Nat, e = .returned (.agg #[.int .i64 p, .int .i64 n0, .int .i64 n1, .int .i64 n2, .slice (some ⟨g, 0, none⟩) (n0 * n1 * n2) (n0 * n1 * n2)]) ∧ w.heap.size ≤ g ∧ At w' g (.cells (iar (List.replicate (n0 * n1 * n2) 0)) 2 (0, 0)) ∧ Below w.heap.size w w' := by
  have hN := places_729 h0 h1 h2
  have hM : n0 * n1 ≤ 81 := Nat.mul_le_mul h0 h1
  obtain ⟨M, hM1⟩ : ∃ M : Nat, M = n0 * n1 := ⟨_, rfl⟩
  obtain ⟨N, hN1⟩ : ∃ N : Nat, N = n0 * n1 * n2 := ⟨_, rfl⟩
  have e1 : IntKind.i64.wrap ((n0 : Int) * (n1 : Int)) = (M : Int) := by rw [← Int.natCast_mul, ← hM1]; exact IntWalk.i64_in _ (by omega)
  have e2 : IntKind.i64.wrap ((M : Int) * (n2 : Int)) = (N : Int) := by rw [← Int.natCast_mul, hM1, ← hN1]; exact IntWalk.i64_in _ (by omega)
  rw [← hN1] at hN ⊢
  clear hM hM1 hN1
  go_enter Try.func66, Try.ntmps66
  go_wp2_with (first | (refine wpList_abs1 ?_; intro W hsz hB hz; have e3 : W.heap.size = w.heap.size + 1 := hsz) | (refine wpList_make_one rfl _ _ 22 rfl 2 (.int .i64 0) 8 Try.underlying22 infoI64 rfl N rfl rfl (by omega) (by omega) ?_; intro w1 nn; have hB1 := nn.below hB (by omega); have h01 := nn.old hz; have hA := nn.at_; rw [iar_zero, e3] at hA; clear nn) | (refine wpList_store_all rfl 29 _ _ rfl rfl w.heap.size rfl _ rfl _ _ h01 5 (by kernel_rfl) rfl rfl (by simp [Value.oneCell']) ?_; intro w2 p2))
  refine bodyPost_ret (results_at rfl _ _ w.heap.size _ _ _ rfl p2.at_ Try.underlying29 rfl 5 (by kernel_rfl) rfl) rfl ?_
  exact ⟨_, rfl, by omega, p2.other hA (by omega), p2.below hB1 (by omega)⟩
theorem l05At_n (p : Int) (n0 n1 n2 : Nat) (A : Option Addr) (cap : Nat) (xs : List Int) (i j k : Nat) (w : World) (hr : RdI w A xs) (hl : xs.length = n0 * n1 * n2) (h0 : n0 ≤ 9) (h1 : n1 ≤ 9) (h2 : n2 ≤ 9) (hi : i < n0) (hj : j < n1) (hk : k < n2) :
    Calls Try.prog 37 #[.agg #[.int .i64 p, .int .i64 n0, .int .i64 n1, .int .i64 n2, .slice A xs.length cap], .int .i64 i, .int .i64 j, .int .i64 k] w fun e w' => e = .returned (.int .i64 (at3 n1 n2 xs i j k)) ∧ Below w.heap.size w w' := by
  have h := l05At_c p n0 n1 n2 A cap xs i j k w hr (by rw [hl]; simp) (by omega) (by omega) (by omega) (by omega) (by omega) (by omega) (by omega) (by omega) (by omega)
  have e : at3 n1 n2 xs i j k = nthI xs ((i * n1 + j) * n2 + k) := by unfold at3; congr 1
  rw [e]
  exact h
end Go.Proofs.Ytolgfpcadfjliaa
