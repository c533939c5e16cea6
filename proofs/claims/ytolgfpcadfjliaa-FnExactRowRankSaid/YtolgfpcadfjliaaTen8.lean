/-
  impl.turned, impl.TurnTensor.
-/
import Derived.Test.YtolgfpcadfjliaaTen7Turn
namespace Go.Proofs.Ytolgfpcadfjliaa
open Go.RowKit
set_option maxRecDepth 100000
/-- The number at three places. -/
def at3 (n1 n2 : Nat) (xs : List Int) (i j k : Nat) : Int := nthI xs (((i * n1 + j) * n2 + k : Nat) : Int)
theorem numsB_nth {p : Int} {xs : List Int} (h : numsB p xs = true) (hp : 0 < p) (t : Int) : 0 ≤ nthI xs t ∧ nthI xs t < p := by
  unfold nthI
  by_cases hlt : t.toNat < xs.length
  · have h1 : inB xs[t.toNat] p = true := by
      unfold numsB at h
      rw [List.all_eq_true] at h
      exact h _ (List.getElem_mem hlt)
    rw [List.getElem?_eq_getElem hlt, Option.getD_some]
    exact inB_iff.1 h1
  · rw [List.getElem?_eq_none (by omega), Option.getD_none]
    exact ⟨Int.le_refl _, hp⟩
theorem numberAt_n (p : Int) (n0 n1 n2 : Nat) (A : Option Addr) (cap : Nat) (xs : List Int) (i j k : Nat) (w : World) (hr : RdI w A xs) (hl : xs.length = n0 * n1 * n2) (h0 : n0 ≤ 9) (h1 : n1 ≤ 9) (h2 : n2 ≤ 9) (hi : i < n0) (hj : j < n1) (hk : k < n2) :
    Calls Try.prog 41 #[.agg #[.int .i64 p, .int .i64 n0, .int .i64 n1, .int .i64 n2, .slice A xs.length cap], .int .i64 i, .int .i64 j, .int .i64 k] w fun e w' => e = .returned (.int .i64 (at3 n1 n2 xs i j k)) ∧ Below w.heap.size w w' := by
  have h := numberAt_c p n0 n1 n2 A cap xs i j k w hr (by rw [hl]; simp) (by omega) (by omega) (by omega) (by omega) (by omega) (by omega) (by omega) (by omega) (by omega)
  have e : at3 n1 n2 xs i j k = nthI xs ((i * n1 + j) * n2 + k) := by unfold at3; congr 1
  rw [e]
  exact h
theorem turned1_c (p : Int) (n0 n1 n2 : Nat) (A : Option Addr) (cap : Nat) (xs : List Int) (i j k g : Nat) (w : World) (hr : RdI w A xs) (hl : xs.length = n0 * n1 * n2) (h0 : n0 ≤ 9) (h1 : n1 ≤ 9) (h2 : n2 ≤ 9) (hi : i < n0) (hj : j < n1) (hk : k < n2)
    (hg : At w g (.cells #[.int .i64 p, .int .i64 n0, .int .i64 n1, .int .i64 n2, .slice A xs.length cap] 29 (0, 0))) :
    Calls Try.prog 69 #[.int .i64 j, .int .i64 k, .int .i64 i, .pointer (some ⟨g, 0, none⟩)] w fun e w' => e = .returned (.int .i64 (at3 n1 n2 xs i j k)) ∧ Below w.heap.size w w' := by
  have HC := Lib.hid (numberAt_n p n0 n1 n2 A cap xs i j k w hr hl h0 h1 h2 hi hj hk)
  clear hr hl h0 h1 h2 hi hj hk
  go_enter Try.func69, Try.ntmps69
  go_wp2_with (refine wpList_load_all rfl 29 _ rfl g rfl _ _ _ hg Try.underlying29 rfl 5 (by kernel_rfl) rfl ?_)
  refine HC.out.mono ?_
  rintro e w1 ⟨rfl, b1⟩
  go_wp2_with fail
  go_ret
  exact ⟨rfl, b1⟩
def turnL (p : Int) (n0 n1 n2 : Nat) (xs : List Int) : List Int := genL n2 n0 p (fun j k i => at3 n1 n2 xs i j k) (n1 * n2 * n0)
theorem turnL_len (p : Int) (n0 n1 n2 : Nat) (xs : List Int) : (turnL p n0 n1 n2 xs).length = n1 * n2 * n0 := genL_len _ _ _ _ _
theorem tenB_n3 {p : Int} {n0 n1 n2 : Nat} {xs : List Int} (h : tenB p n0 n1 n2 xs = true) : 2 ≤ p ∧ p ≤ 5 ∧ (1 ≤ n0 ∧ n0 ≤ 9) ∧ (1 ≤ n1 ∧ n1 ≤ 9) ∧ (1 ≤ n2 ∧ n2 ≤ 9) ∧ xs.length = n0 * n1 * n2 ∧ numsB p xs = true := by
  obtain ⟨h1, h2, h3, h4, h5, h6⟩ := tenB_parts h
  have a := prime_le5 h1
  have b := sideB_in h2
  have c := sideB_in h3
  have d := sideB_in h4
  refine ⟨a.1, a.2, by omega, by omega, by omega, ?_, h6⟩
  rw [← Int.natCast_mul, ← Int.natCast_mul] at h5
  omega
theorem side_of {n : Nat} (h : 1 ≤ n ∧ n ≤ 9) : sideB n = true := by
  simp only [sideB, Bool.and_eq_true, decide_eq_true_eq]
  omega
set_option maxHeartbeats 1600000 in
theorem turned_c (p : Int) (n0 n1 n2 : Nat) (A : Option Addr) (cap : Nat) (xs : List Int) (w : World) (hr : RdI w A xs) (ht : tenB p n0 n1 n2 xs = true) :
    Calls Try.prog 54 #[.agg #[.int .i64 p, .int .i64 n0, .int .i64 n1, .int .i64 n2, .slice A xs.length cap]] w
      fun e w' => ∃ v, e = .returned (.agg #[.int .i64 p, .int .i64 n1, .int .i64 n2, .int .i64 n0, v]) ∧ OwnI w' w.heap.size v (turnL p n0 n1 n2 xs) ∧ Below w.heap.size w w' := by
  obtain ⟨p1, p2, a0, a1, a2, hl, hn⟩ := tenB_n3 ht
  have hB := below2 w (.cells #[.int .i64 p, .int .i64 n0, .int .i64 n1, .int .i64 n2, .slice A xs.length cap] 29 (0, 0)) (.cells #[.int .i64 0, .int .i64 0, .int .i64 0, .int .i64 0, .slice none 0 0] 29 (0, 0))
  have hg := al2_0 w (.cells #[.int .i64 p, .int .i64 n0, .int .i64 n1, .int .i64 n2, .slice A xs.length cap] 29 (0, 0)) (.cells #[.int .i64 0, .int .i64 0, .int .i64 0, .int .i64 0, .slice none 0 0] 29 (0, 0))
  have h1 := al2_1 w (.cells #[.int .i64 p, .int .i64 n0, .int .i64 n1, .int .i64 n2, .slice A xs.length cap] 29 (0, 0)) (.cells #[.int .i64 0, .int .i64 0, .int .i64 0, .int .i64 0, .slice none 0 0] 29 (0, 0))
  have HW := Lib.hid (tensorWithTurn_c p n1 n2 n0 w.heap.size (fun j k i => at3 n1 n2 xs i j k) _ (by omega) (side_of a1) (side_of a2) (side_of a0) (fun j k i w' hj hk hi hb => ⟨(numsB_nth hn (by omega) _).1, turned1_c p n0 n1 n2 A cap xs i j k w.heap.size w' ((hr.keep hB).keep hb) hl a0.2 a1.2 a2.2 hi hj hk (At.after hg hb)⟩))
  clear ht p1 p2 a0 a1 a2 hl hn hr
  go_enter Try.func54, Try.ntmps54
  go_wp2_with fail
  refine HW.out.mono ?_
  rintro e w1 ⟨v, rfl, ho, b1⟩
  have h1' := At.after h1 b1
  replace hB := below_after hB b1
  have z1 : w.heap.size + 1 + 1 ≤ ((w.alloc (.cells #[.int .i64 p, .int .i64 n0, .int .i64 n1, .int .i64 n2, .slice A xs.length cap] 29 (0, 0))).alloc (.cells #[.int .i64 0, .int .i64 0, .int .i64 0, .int .i64 0, .slice none 0 0] 29 (0, 0))).heap.size := Nat.le_of_eq (size_al2 _ _ _).symm
  replace ho := ho.mono z1
  obtain ⟨A5, c5, rfl, _⟩ := ho.rd
  clear h1 hg
  go_wp2_with (refine wpList_store_all rfl 29 _ _ rfl rfl (w.heap.size + 1) rfl _ rfl _ _ h1' 5 (by kernel_rfl) rfl rfl (by simp [Value.oneCell']) ?_; intro w7 p7)
  refine bodyPost_ret (results_at rfl _ _ (w.heap.size + 1) _ _ _ rfl p7.at_ Try.underlying29 rfl 5 (by kernel_rfl) rfl) rfl ?_
  exact ⟨_, rfl, (ho.put p7 (fun e => by have := (ho.lt e.symm).1; omega)).mono (by omega), p7.below hB (by omega)⟩
end Go.Proofs.Ytolgfpcadfjliaa
