/-
  spec.l01Places, spec.RightSide; impl.isEquation, sideAt (of rightSides), RightSide.
-/
import Derived.Test.YtnlidegmllcdhaaRight1
namespace Go.Proofs.Ytnlidegmllcdhaa
open Go.RowKit
set_option maxRecDepth 100000
def eqnB (n m k a b c : Int) : Bool := inB a (n * m) && inB b (m * k) && inB c (n * k)
def codeI (p n m k : Int) (qs : List (List Nat)) (a b c : Int) : Int := if schemeB p n m k qs then (if eqnB n m k a b c then 0 else 2) else 1
theorem inB_le (a N : Int) : (decide (0 ≤ a) && decide (a ≤ N - 1)) = inB a N := by
  unfold inB
  congr 1
  simp only [decide_eq_decide]
  omega
theorem l01In_ix (a N : Int) (w : World) : Calls Try.prog 24 #[.int .i64 a, .int .i64 0, .int .i64 (N - 1)] w fun e w' => e = .returned (.bool (inB a N)) ∧ w = w' := by
  have := l01In_c a 0 (N - 1) w
  rw [inB_le] at this
  exact this
theorem sizesB_mul {p n m k : Int} (h : sizesB p n m k = true) : (1 ≤ n * m ∧ n * m ≤ 9) ∧ (1 ≤ m * k ∧ m * k ≤ 9) ∧ 1 ≤ n * k ∧ n * k ≤ 9 := by
  obtain ⟨_, hn, hm, hk⟩ := sizesB_parts h
  simp only [sizeB, Bool.and_eq_true, decide_eq_true_eq] at hn hm hk
  exact ⟨mul_bounds hn.1 hn.2 hm.1 hm.2, mul_bounds hm.1 hm.2 hk.1 hk.2, mul_bounds hn.1 hn.2 hk.1 hk.2⟩
theorem codeI_cases (p n m k : Int) (qs : List (List Nat)) (a b c : Int) : codeI p n m k qs a b c = 1 ∨ codeI p n m k qs a b c = 2 ∨ (codeI p n m k qs a b c = 0 ∧ schemeB p n m k qs = true ∧ eqnB n m k a b c = true) := by
  unfold codeI
  cases schemeB p n m k qs <;> cases eqnB n m k a b c <;> simp
theorem sizes_bounds {p n m k : Int} (h : sizesB p n m k = true) : (1 ≤ n ∧ n ≤ 3) ∧ (1 ≤ m ∧ m ≤ 3) ∧ 1 ≤ k ∧ k ≤ 3 := by
  obtain ⟨_, hn, hm, hk⟩ := sizesB_parts h
  simp only [sizeB, Bool.and_eq_true, decide_eq_true_eq] at hn hm hk
  exact ⟨hn, hm, hk⟩
theorem eqnB_bounds {n m k a b c : Int} (h : eqnB n m k a b c = true) : (0 ≤ a ∧ a < n * m) ∧ (0 ≤ b ∧ b < m * k) ∧ 0 ≤ c ∧ c < n * k := by
  simp only [eqnB, inB, Bool.and_eq_true, decide_eq_true_eq] at h
  exact ⟨h.1.1, h.1.2, h.2⟩
def sideI (want : Int) (code : Int) : Int := if code = 0 then want else 0
set_option maxHeartbeats 800000 in
theorem isEquation_c (p n m k a b c : Int) (v : Value) (w : World) (hn : sizeB n = true) (hm : sizeB m = true) (hk : sizeB k = true) :
    Calls Try.prog 46 #[.agg #[.int .i64 p, .int .i64 n, .int .i64 m, .int .i64 k, v], .int .i64 a, .int .i64 b, .int .i64 c] w fun e w' => e = .returned (.bool (eqnB n m k a b c)) ∧ Below w.heap.size w w' := by
  have H1 := Lib.hid (fun w => places_c n m w hn hm)
  have H2 := Lib.hid (fun w => places_c m k w hm hk)
  have H3 := Lib.hid (fun w => places_c n k w hn hk)
  clear hn hm hk
  go_enter Try.func46, Try.ntmps46
  go_wp2_with (first | (refine wpList_abs1 ?_; intro W hsz hB h0) | (refine wpList_load_all rfl 28 _ rfl w.heap.size rfl _ _ _ h0 Try.underlying28 rfl 5 (by kernel_rfl) rfl ?_))
  refine (shapesOf_c p n m k v _).mono ?_
  rintro e w1 ⟨rfl, c1⟩
  replace hB := below_after hB c1
  clear c1 h0 hsz
  have lB := hB.size
  go_wp2_with (first | (refine wpList_abs1 ?_; intro W2 hsz2 hB2 s2; replace hB := below_after hB hB2) | (refine wpList_store_all rfl 105 _ _ rfl rfl w1.heap.size rfl _ rfl _ _ s2 6 (by kernel_rfl) rfl rfl (by simp [Value.oneCell']) ?_; intro W3 p3; replace hB := p3.below hB (by omega); have s3 := p3.at_) | (refine wpList_of_exec rfl (exec_load_lit 104 _ rfl w1.heap.size 0 rfl _ _ _ 2 s3 Try.underlying104 rfl (by kernel_rfl) (by simp) #[.int .i64 n, .int .i64 m] rfl) ?_))
  refine (H1.out _).mono ?_
  rintro e w4 ⟨rfl, c1⟩
  replace s3 := s3.after c1
  replace hB := below_after hB c1
  clear c1 p3 s2 hsz2 hB2
  go_wp2_with fail
  refine (isIndex_c a (n * m) _).mono ?_
  rintro e w5 ⟨rfl, rfl⟩
  cases e1 : inB a (n * m) with
  | false =>
    have He : Hid (eqnB n m k a b c = false) := Lib.hid (by simp [eqnB, e1])
    clear e1
    go_wp2_with fail
    go_ret
    exact ⟨by rw [He.out]; rfl, hB⟩
  | true =>
    have E1 := Lib.hid e1
    clear e1
    go_wp2_with (refine wpList_want_exec rfl (exec_load_lit 104 _ rfl w1.heap.size 2 rfl _ _ _ 2 s3 Try.underlying104 rfl (by kernel_rfl) (by simp) #[.int .i64 m, .int .i64 k] rfl) ?_)
    refine (H2.out _).mono ?_
    rintro e w6 ⟨rfl, c1⟩
    replace s3 := s3.after c1
    replace hB := below_after hB c1
    clear c1
    go_wp2_with fail
    refine (isIndex_c b (m * k) _).mono ?_
    rintro e w7 ⟨rfl, rfl⟩
    cases e2 : inB b (m * k) with
    | false =>
      have He : Hid (eqnB n m k a b c = false) := Lib.hid (by simp [eqnB, e2])
      clear e2
      go_wp2_with fail
      go_ret
      exact ⟨by rw [He.out]; rfl, hB⟩
    | true =>
      have E2 := Lib.hid e2
      clear e2
      go_wp2_with (refine wpList_want_exec rfl (exec_load_lit 104 _ rfl w1.heap.size 4 rfl _ _ _ 2 s3 Try.underlying104 rfl (by kernel_rfl) (by simp) #[.int .i64 n, .int .i64 k] rfl) ?_)
      refine (H3.out _).mono ?_
      rintro e w8 ⟨rfl, c1⟩
      replace hB := below_after hB c1
      clear c1 s3
      go_wp2_with fail
      refine (isIndex_c c (n * k) _).mono ?_
      rintro e w9 ⟨rfl, rfl⟩
      have He : Hid (eqnB n m k a b c = inB c (n * k)) := Lib.hid (by simp [eqnB, E1.out, E2.out])
      go_wp2_with fail
      go_ret
      exact ⟨by rw [He.out]; rfl, hB⟩
end Go.Proofs.Ytnlidegmllcdhaa
