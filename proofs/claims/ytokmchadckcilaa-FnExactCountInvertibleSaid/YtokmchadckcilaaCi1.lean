/-
  CountInvertible: how many invertible squares there are; spec and impl.
-/
import Derived.Test.YtokmchadckcilaaSizes
namespace Go.Proofs.Ytokmchadckcilaa
open Go.RowKit
set_option maxRecDepth 100000
def pw (p : Int) : Nat → Int
  | 0 => 1
  | k + 1 => pw p k * p
def cntP (p : Int) (n : Nat) : Nat → Int
  | 0 => 1
  | k + 1 => cntP p n k * (pw p n - pw p k)
def cntA (p n : Int) : Int := if primeB p && sizeB n then cntP p n.toNat n.toNat else 0
def cntCode (p n : Int) : Int := if primeB p && sizeB n then 0 else 2
theorem pw_b {p : Int} (hp : primeB p = true) {k : Nat} (hk : k ≤ 3) : 1 ≤ pw p k ∧ pw p k ≤ 125 := by
  simp only [primeB, Bool.or_eq_true, beq_iff_eq] at hp
  rcases hp with (rfl | rfl) | rfl <;> (rcases (show k = 0 ∨ k = 1 ∨ k = 2 ∨ k = 3 by omega) with rfl | rfl | rfl | rfl <;> decide)
theorem cntP_b {p : Int} (hp : primeB p = true) {n k : Nat} (hn : n ≤ 3) (hk : k ≤ 3) : -2000000 ≤ cntP p n k ∧ cntP p n k ≤ 2000000 := by
  simp only [primeB, Bool.or_eq_true, beq_iff_eq] at hp
  rcases hp with (rfl | rfl) | rfl <;> (rcases (show n = 0 ∨ n = 1 ∨ n = 2 ∨ n = 3 by omega) with rfl | rfl | rfl | rfl <;> (rcases (show k = 0 ∨ k = 1 ∨ k = 2 ∨ k = 3 by omega) with rfl | rfl | rfl | rfl <;> decide))
theorem sizeB_nat {n : Int} (h : sizeB n = true) : ∃ N : Nat, n = N ∧ 1 ≤ N ∧ N ≤ 3 := by
  simp only [sizeB, Bool.and_eq_true, decide_eq_true_eq] at h
  exact ⟨n.toNat, by omega, by omega, by omega⟩
set_option maxHeartbeats 1600000 in
theorem specCountInvertible_c (p n : Int) (w : World) :
    Calls Try.prog 8 #[.int .i64 p, .int .i64 n] w fun e w' => e = .returned (.tuple #[.int .i64 (cntA p n), .int .i64 (cntCode p n)]) ∧ Below w.heap.size w w' := by
  cases hp : primeB p with
  | false =>
    have Hr : Hid (cntA p n = 0 ∧ cntCode p n = 2) := Lib.hid (by simp [cntA, cntCode, hp])
    go_enter Try.func8, Try.ntmps8
    go_wp2_with fail
    refine (l01Prime_c p _).mono ?_
    rintro e w1 ⟨rfl, rfl⟩
    rw [hp]
    go_wp2_with fail
    go_ret2
    exact ⟨by rw [Hr.out.1, Hr.out.2]; rfl, Below.refl _ _⟩
  | true =>
    have Hp := Lib.hid hp
    cases hn : sizeB n with
    | false =>
      have Hr : Hid (cntA p n = 0 ∧ cntCode p n = 2) := Lib.hid (by simp [cntA, cntCode, hp, hn])
      have Hn : Hid ((decide (1 ≤ n) && decide (n ≤ 3)) = false) := Lib.hid hn
      go_enter Try.func8, Try.ntmps8
      go_wp2_with fail
      refine (l01Prime_c p _).mono ?_
      rintro e w1 ⟨rfl, rfl⟩
      rw [hp]
      go_wp2_with fail
      refine (l01In_c n 1 3 _).mono ?_
      rintro e w1 ⟨rfl, rfl⟩
      first | rw [Hn.out] | rw [hn]
      go_wp2_with fail
      go_ret2
      exact ⟨by rw [Hr.out.1, Hr.out.2]; rfl, Below.refl _ _⟩
    | true =>
      have Hn : Hid ((decide (1 ≤ n) && decide (n ≤ 3)) = true) := Lib.hid hn
      have Hr : Hid (cntA p n = cntP p n.toNat n.toNat ∧ cntCode p n = 0) := Lib.hid (by simp [cntA, cntCode, hp, hn])
      obtain ⟨N, rfl, hN1, hN3⟩ := sizeB_nat hn
      rw [Int.toNat_natCast] at Hr
      go_enter Try.func8, Try.ntmps8
      go_wp2_with fail
      refine (l01Prime_c p _).mono ?_
      rintro e w1 ⟨rfl, rfl⟩
      rw [hp]
      go_wp2_with fail
      refine (l01In_c N 1 3 _).mono ?_
      rintro e w1 ⟨rfl, rfl⟩
      first | rw [Hn.out] | rw [hn]
      go_wp2_with fail
      go_loop [6, 9] (fun a i => ∃ k : Nat, k ≤ N ∧ i = .int .i64 k ∧ a = .int .i64 (pw p k)) (fun _ i => N - (intOf i).toNat)
      case atStart => exact ⟨0, by omega, rfl, rfl⟩
      case round =>
        obtain ⟨k, hk, rfl, rfl⟩ := hrel
        by_cases hlt : k < N
        · have e0 : IntKind.i64.wrap ((k : Int) + 1) = (k : Int) + 1 := IntWalk.i64_in _ (by omega)
          have e1 : IntKind.i64.wrap (pw p k * p) = pw p k * p := IntWalk.i64_in _ (by have := pw_b Hp.out (k := k + 1) (by omega); simp only [pw] at this; omega)
          go_wp2_with fail
          go_round
          case rel => exact ⟨k + 1, by omega, by go_num, rfl⟩
          case measure => simp [intOf]; omega
        · obtain rfl : k = N := by omega
          go_wp2_with fail
          go_loop [7, 8, 10] (fun a o i => ∃ j : Nat, j ≤ k ∧ i = .int .i64 j ∧ a = .int .i64 (pw p j) ∧ o = .int .i64 (cntP p k j)) (fun _ _ i => k - (intOf i).toNat)
          case atStart => exact ⟨0, by omega, rfl, rfl, rfl⟩
          case round =>
            obtain ⟨j, hj, rfl, rfl, rfl⟩ := hrel
            by_cases hlt : j < k
            · have e0 : IntKind.i64.wrap ((j : Int) + 1) = (j : Int) + 1 := IntWalk.i64_in _ (by omega)
              have e1 : IntKind.i64.wrap (pw p j * p) = pw p j * p := IntWalk.i64_in _ (by have := pw_b Hp.out (k := j + 1) (by omega); simp only [pw] at this; omega)
              have e2 : IntKind.i64.wrap (pw p k - pw p j) = pw p k - pw p j := IntWalk.i64_in _ (by have := pw_b Hp.out (k := j) (by omega); have := pw_b Hp.out (k := k) (by omega); omega)
              have e3 : IntKind.i64.wrap (cntP p k j * (pw p k - pw p j)) = cntP p k j * (pw p k - pw p j) := IntWalk.i64_in _ (by have := cntP_b Hp.out (n := k) (k := j + 1) (by omega) (by omega); simp only [cntP] at this; omega)
              go_wp2_with fail
              go_round
              case rel => exact ⟨j + 1, by omega, by go_num, rfl, rfl⟩
              case measure => simp [intOf]; omega
            · obtain rfl : j = k := by omega
              go_wp2_with fail
              go_ret2
              exact ⟨by rw [Hr.out.1, Hr.out.2]; rfl, Below.refl _ _⟩
set_option maxHeartbeats 1600000 in
theorem implCountInvertible_c (p n : Int) (w : World) :
    Calls Try.prog 9 #[.int .i64 p, .int .i64 n] w fun e w' => e = .returned (.tuple #[.int .i64 (cntA p n), .int .i64 (cntCode p n)]) ∧ Below w.heap.size w w' := by
  cases hp : primeB p with
  | false =>
    have Hr : Hid (cntA p n = 0 ∧ cntCode p n = 2) := Lib.hid (by simp [cntA, cntCode, hp])
    go_enter Try.func9, Try.ntmps9
    go_wp2_with fail
    refine (isPrime_c p _).mono ?_
    rintro e w1 ⟨rfl, rfl⟩
    rw [hp]
    go_wp2_with fail
    go_ret2
    exact ⟨by rw [Hr.out.1, Hr.out.2]; rfl, Below.refl _ _⟩
  | true =>
    have Hp := Lib.hid hp
    cases hn : sizeB n with
    | false =>
      have Hr : Hid (cntA p n = 0 ∧ cntCode p n = 2) := Lib.hid (by simp [cntA, cntCode, hp, hn])
      have Hn : Hid ((decide (1 ≤ n) && decide (n ≤ 3)) = false) := Lib.hid hn
      go_enter Try.func9, Try.ntmps9
      go_wp2_with fail
      refine (isPrime_c p _).mono ?_
      rintro e w1 ⟨rfl, rfl⟩
      rw [hp]
      go_wp2_with fail
      refine (isSize_c n _).mono ?_
      rintro e w1 ⟨rfl, rfl⟩
      first | rw [Hn.out] | rw [hn]
      go_wp2_with fail
      go_ret2
      exact ⟨by rw [Hr.out.1, Hr.out.2]; rfl, Below.refl _ _⟩
    | true =>
      have Hn : Hid ((decide (1 ≤ n) && decide (n ≤ 3)) = true) := Lib.hid hn
      have Hr : Hid (cntA p n = cntP p n.toNat n.toNat ∧ cntCode p n = 0) := Lib.hid (by simp [cntA, cntCode, hp, hn])
      obtain ⟨N, rfl, hN1, hN3⟩ := sizeB_nat hn
      rw [Int.toNat_natCast] at Hr
      go_enter Try.func9, Try.ntmps9
      go_wp2_with fail
      refine (isPrime_c p _).mono ?_
      rintro e w1 ⟨rfl, rfl⟩
      rw [hp]
      go_wp2_with fail
      refine (isSize_c N _).mono ?_
      rintro e w1 ⟨rfl, rfl⟩
      first | rw [Hn.out] | rw [hn]
      go_wp2_with fail
      go_loop [6, 18] (fun a i => ∃ k : Nat, k ≤ N ∧ i = .int .i64 k ∧ a = .int .i64 (pw p k)) (fun _ i => N - (intOf i).toNat)
      case atStart => exact ⟨0, by omega, rfl, rfl⟩
      case round =>
        obtain ⟨k, hk, rfl, rfl⟩ := hrel
        by_cases hlt : k < N
        · have e0 : IntKind.i64.wrap ((k : Int) + 1) = (k : Int) + 1 := IntWalk.i64_in _ (by omega)
          have e1 : IntKind.i64.wrap (pw p k * p) = pw p k * p := IntWalk.i64_in _ (by have := pw_b Hp.out (k := k + 1) (by omega); simp only [pw] at this; omega)
          go_wp2_with fail
          go_round
          case rel => exact ⟨k + 1, by omega, by go_num, rfl⟩
          case measure => simp [intOf]; omega
        · obtain rfl : k = N := by omega
          go_wp2_with fail
          go_loop [8, 7, 25] (fun a o i => ∃ j : Nat, j ≤ k ∧ i = .int .i64 j ∧ a = .int .i64 (pw p j) ∧ o = .int .i64 (cntP p k j)) (fun _ _ i => k - (intOf i).toNat)
          case atStart => exact ⟨0, by omega, rfl, rfl, rfl⟩
          case round =>
            obtain ⟨j, hj, rfl, rfl, rfl⟩ := hrel
            by_cases hlt : j < k
            · have e0 : IntKind.i64.wrap ((j : Int) + 1) = (j : Int) + 1 := IntWalk.i64_in _ (by omega)
              have e1 : IntKind.i64.wrap (pw p j * p) = pw p j * p := IntWalk.i64_in _ (by have := pw_b Hp.out (k := j + 1) (by omega); simp only [pw] at this; omega)
              have e2 : IntKind.i64.wrap (pw p k - pw p j) = pw p k - pw p j := IntWalk.i64_in _ (by have := pw_b Hp.out (k := j) (by omega); have := pw_b Hp.out (k := k) (by omega); omega)
              have e3 : IntKind.i64.wrap (cntP p k j * (pw p k - pw p j)) = cntP p k j * (pw p k - pw p j) := IntWalk.i64_in _ (by have := cntP_b Hp.out (n := k) (k := j + 1) (by omega) (by omega); simp only [cntP] at this; omega)
              go_wp2_with fail
              go_round
              case rel => exact ⟨j + 1, by omega, by go_num, rfl, rfl⟩
              case measure => simp [intOf]; omega
            · obtain rfl : j = k := by omega
              go_wp2_with fail
              go_ret2
              exact ⟨by rw [Hr.out.1, Hr.out.2]; rfl, Below.refl _ _⟩
end Go.Proofs.Ytokmchadckcilaa
