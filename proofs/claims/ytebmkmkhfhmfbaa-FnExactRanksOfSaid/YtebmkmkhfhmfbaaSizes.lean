/-
  Primes, sizes, places: spec.l01Prime, l01In, l01Sizes, l01Lengths; impl.isPrime, isSize, places, shapesOf, factorsOf.
-/
import Derived.Test.YtebmkmkhfhmfbaaEqs
namespace Go.Proofs.Ytebmkmkhfhmfbaa
open Go.RowKit
def primeB (p : Int) : Bool := p == 2 || p == 3 || p == 5
def sizeB (n : Int) : Bool := decide (1 ≤ n) && decide (n ≤ 3)
def sizesB (p n m k : Int) : Bool := primeB p && sizeB n && sizeB m && sizeB k
theorem ret_bool {a b : Bool} (h : a = b) : Ending.returned (.bool a) = .returned (.bool b) := by rw [h]
set_option maxRecDepth 100000
theorem mul_bounds {a b : Int} (h1 : 1 ≤ a) (h2 : a ≤ 3) (h3 : 1 ≤ b) (h4 : b ≤ 3) : 1 ≤ a * b ∧ a * b ≤ 9 := by
  have ha : a = 1 ∨ a = 2 ∨ a = 3 := by omega
  rcases ha with rfl | rfl | rfl <;> omega
theorem mul_in {a b : Int} (h1 : 1 ≤ a) (h2 : a ≤ 3) (h3 : 1 ≤ b) (h4 : b ≤ 3) : IntKind.i64.wrap (a * b) = a * b := by
  have := mul_bounds h1 h2 h3 h4
  exact IntWalk.i64_in _ (by omega)
theorem l01Prime_c (p : Int) (w : World) : Calls Try.prog 33 #[.int .i64 p] w fun e w' => e = .returned (.bool (primeB p)) ∧ w = w' := by
  by_cases h2 : p = 2
  · subst h2
    go_enter Try.func33, Try.ntmps33
    go_wp2_with fail
    go_ret
    exact ⟨rfl, rfl⟩
  · by_cases h3 : p = 3
    · subst h3
      go_enter Try.func33, Try.ntmps33
      go_wp2_with fail
      go_ret
      exact ⟨rfl, rfl⟩
    · have b2 : (p == 2) = false := by simp [h2]
      have b3 : (p == 3) = false := by simp [h3]
      have Hr : Hid (primeB p = (p == 5)) := Lib.hid (by simp [primeB, b2, b3])
      clear h2 h3
      go_enter Try.func33, Try.ntmps33
      go_wp2_with fail
      go_ret
      exact ⟨by rw [Hr.out]; rfl, rfl⟩
theorem isPrime_c (p : Int) (w : World) : Calls Try.prog 38 #[.int .i64 p] w fun e w' => e = .returned (.bool (primeB p)) ∧ w = w' := by
  by_cases h2 : p = 2
  · subst h2
    go_enter Try.func38, Try.ntmps38
    go_wp2_with fail
    go_ret
    exact ⟨rfl, rfl⟩
  · by_cases h3 : p = 3
    · subst h3
      go_enter Try.func38, Try.ntmps38
      go_wp2_with fail
      go_ret
      exact ⟨rfl, rfl⟩
    · have b2 : (p == 2) = false := by simp [h2]
      have b3 : (p == 3) = false := by simp [h3]
      have Hr : Hid (primeB p = (p == 5)) := Lib.hid (by simp [primeB, b2, b3])
      clear h2 h3
      go_enter Try.func38, Try.ntmps38
      go_wp2_with fail
      go_ret
      exact ⟨by rw [Hr.out]; rfl, rfl⟩
theorem l01In_c (n a b : Int) (w : World) : Calls Try.prog 56 #[.int .i64 n, .int .i64 a, .int .i64 b] w fun e w' => e = .returned (.bool (decide (a ≤ n) && decide (n ≤ b))) ∧ w = w' := by
  by_cases h : a ≤ n
  · have h1 : decide (a ≤ n) = true := by simp [h]
    go_enter Try.func56, Try.ntmps56
    go_wp2_with fail
    go_ret
    exact ⟨by simp [h], rfl⟩
  · have h1 : decide (a ≤ n) = false := by simp [h]
    go_enter Try.func56, Try.ntmps56
    go_wp2_with fail
    go_ret
    exact ⟨by simp, rfl⟩
theorem isSize_c (n : Int) (w : World) : Calls Try.prog 68 #[.int .i64 n] w fun e w' => e = .returned (.bool (sizeB n)) ∧ w = w' := by
  by_cases h : 1 ≤ n
  · have Hr : Hid (sizeB n = decide (n ≤ 3)) := Lib.hid (by simp [sizeB, h])
    have h1 : decide (1 ≤ n) = true := by simp [h]
    go_enter Try.func68, Try.ntmps68
    go_wp2_with fail
    go_ret
    exact ⟨by rw [Hr.out]; rfl, rfl⟩
  · have Hr : Hid (sizeB n = false) := Lib.hid (by simp [sizeB, h])
    have h1 : decide (1 ≤ n) = false := by simp [h]
    go_enter Try.func68, Try.ntmps68
    go_wp2_with fail
    go_ret
    exact ⟨by rw [Hr.out]; rfl, rfl⟩
theorem l01In_size (n : Int) (w : World) : Calls Try.prog 56 #[.int .i64 n, .int .i64 1, .int .i64 3] w fun e w' => e = .returned (.bool (sizeB n)) ∧ w = w' := l01In_c n 1 3 w
theorem l01Sizes_c (p n m k : Int) (w : World) : Calls Try.prog 43 #[.int .i64 p, .int .i64 n, .int .i64 m, .int .i64 k] w fun e w' => e = .returned (.bool (sizesB p n m k)) ∧ w = w' := by
  go_enter Try.func43, Try.ntmps43
  go_wp2_with fail
  refine (l01Prime_c p _).mono ?_
  rintro e w1 ⟨rfl, rfl⟩
  cases hp : primeB p with
  | false =>
    have Hr : Hid (sizesB p n m k = false) := Lib.hid (by simp [sizesB, hp])
    clear hp
    go_wp2_with fail
    go_ret
    exact ⟨by rw [Hr.out]; rfl, rfl⟩
  | true =>
    go_wp2_with fail
    refine (l01In_size n _).mono ?_
    rintro e w1 ⟨rfl, rfl⟩
    cases hn : sizeB n with
    | false =>
      have Hr : Hid (sizesB p n m k = false) := Lib.hid (by simp [sizesB, hn])
      clear hp hn
      go_wp2_with fail
      go_ret
      exact ⟨by rw [Hr.out]; rfl, rfl⟩
    | true =>
      go_wp2_with fail
      refine (l01In_size m _).mono ?_
      rintro e w1 ⟨rfl, rfl⟩
      cases hm : sizeB m with
      | false =>
        have Hr : Hid (sizesB p n m k = false) := Lib.hid (by simp [sizesB, hm])
        clear hp hn hm
        go_wp2_with fail
        go_ret
        exact ⟨by rw [Hr.out]; rfl, rfl⟩
      | true =>
        have Hr : Hid (sizesB p n m k = sizeB k) := Lib.hid (by simp [sizesB, hp, hn, hm])
        clear hp hn hm
        go_wp2_with fail
        refine (l01In_size k _).mono ?_
        rintro e w1 ⟨rfl, rfl⟩
        go_wp2_with fail
        go_ret
        exact ⟨by rw [Hr.out]; rfl, rfl⟩
theorem l01Lengths_c (p n m k : Int) (v : Value) (w : World) (hn : sizeB n = true) (hm : sizeB m = true) (hk : sizeB k = true) :
    Calls Try.prog 64 #[.agg #[.int .i64 p, .int .i64 n, .int .i64 m, .int .i64 k, v]] w fun e w' => e = .returned (.tuple #[.int .i64 (n * m), .int .i64 (m * k), .int .i64 (n * k)]) ∧ Below w.heap.size w w' := by
  simp only [sizeB, Bool.and_eq_true, decide_eq_true_eq] at hn hm hk
  obtain ⟨n1, n2⟩ := hn
  obtain ⟨m1, m2⟩ := hm
  obtain ⟨k1, k2⟩ := hk
  have a1 : IntKind.i64.wrap (n * m) = n * m := mul_in n1 n2 m1 m2
  have a2 : IntKind.i64.wrap (m * k) = m * k := mul_in m1 m2 k1 k2
  have a3 : IntKind.i64.wrap (n * k) = n * k := mul_in n1 n2 k1 k2
  go_enter Try.func64, Try.ntmps64
  go_wp2_with fail
  go_quiet (fail)
  go_wp2_with fail
  go_ret3
  exact ⟨rfl, below_drawn (below1 _ _) _⟩
theorem places_c (r c : Int) (w : World) (hr : sizeB r = true) (hc : sizeB c = true) : Calls Try.prog 54 #[.agg #[.int .i64 r, .int .i64 c]] w fun e w' => e = .returned (.int .i64 (r * c)) ∧ Below w.heap.size w w' := by
  simp only [sizeB, Bool.and_eq_true, decide_eq_true_eq] at hr hc
  obtain ⟨r1, r2⟩ := hr
  obtain ⟨c1, c2⟩ := hc
  have a1 : IntKind.i64.wrap (r * c) = r * c := mul_in r1 r2 c1 c2
  go_enter Try.func54, Try.ntmps54
  go_wp2_with fail
  go_ret
  exact ⟨rfl, below1 _ _⟩
theorem sizesOf_c (p n m k : Int) (v : Value) (w : World) : Calls Try.prog 48 #[.agg #[.int .i64 p, .int .i64 n, .int .i64 m, .int .i64 k, v]] w fun e w' => e = .returned (.agg #[.int .i64 n, .int .i64 m, .int .i64 k]) ∧ Below w.heap.size w w' := by
  go_enter Try.func48, Try.ntmps48
  go_wp2_with fail
  refine bodyPost_ret (results_at rfl _ _ (w.heap.size + 1) _ _ _ rfl (al2_1 _ _ _) Try.underlying82 rfl 3 (by kernel_rfl) rfl) rfl ?_
  exact ⟨rfl, below2 _ _ _⟩
theorem shapes_c (n m k : Int) (w : World) : Calls Try.prog 51 #[.agg #[.int .i64 n, .int .i64 m, .int .i64 k]] w fun e w' => e = .returned (.agg #[.int .i64 n, .int .i64 m, .int .i64 m, .int .i64 k, .int .i64 n, .int .i64 k]) ∧ Below w.heap.size w w' := by
  go_enter Try.func51, Try.ntmps51
  go_wp2_with fail
  refine bodyPost_ret (results_at rfl _ _ (w.heap.size + 1) _ _ _ rfl (al2_1 _ _ _) Try.underlying53 rfl 6 (by kernel_rfl) rfl) rfl ?_
  exact ⟨rfl, below2 _ _ _⟩
theorem shapesOf_c (p n m k : Int) (v : Value) (w : World) : Calls Try.prog 23 #[.agg #[.int .i64 p, .int .i64 n, .int .i64 m, .int .i64 k, v]] w fun e w' => e = .returned (.agg #[.int .i64 n, .int .i64 m, .int .i64 m, .int .i64 k, .int .i64 n, .int .i64 k]) ∧ Below w.heap.size w w' := by
  go_enter Try.func23, Try.ntmps23
  go_wp2_with fail
  refine (sizesOf_c p n m k v _).mono ?_
  rintro e w1 ⟨rfl, c1⟩
  have h1 := At.after (al2_1 _ _ _) c1
  have hB := below_after (below2 _ _ _) c1
  clear c1
  go_wp2_with fail
  refine (shapes_c n m k _).mono ?_
  rintro e w2 ⟨rfl, c2⟩
  replace h1 := h1.after c2
  replace hB := below_after hB c2
  clear c2
  go_wp2_with (refine wpList_store_all rfl 53 _ _ rfl rfl (w.heap.size + 1) rfl _ rfl _ _ h1 6 (by kernel_rfl) rfl rfl (by simp [Value.oneCell']) ?_; intro w3 p3)
  refine bodyPost_ret (results_at rfl _ _ (w.heap.size + 1) _ _ _ rfl p3.at_ Try.underlying53 rfl 6 (by kernel_rfl) rfl) rfl ?_
  exact ⟨rfl, p3.below hB (by omega)⟩
theorem factorsOf_c (q : List Nat) (hq : Bytes 27 q) (w : World) : Calls Try.prog 25 #[.agg (u8s q)] w fun e w' => e = .returned (.agg (u8s q)) ∧ Below w.heap.size w w' := by
  have zq : 27 ≤ q.length := by rw [hq.len]; exact Nat.le_refl _
  go_enter Try.func25, Try.ntmps25
  go_wp2_with (first | (refine wpList_abs2 ?_; intro W hsz hB h0 h1; replace h1 : At W (w.heap.size + 1) (.cells (u8s (List.replicate 27 0)) 58 (0, 0)) := h1) | (refine wpList_load_u8s rfl 45 _ rfl w.heap.size 0 rfl _ q _ 9 h0 Try.underlying45 rfl (by kernel_rfl) (by omega) ?_) | (refine wpList_load_u8s rfl 45 _ rfl w.heap.size 9 rfl _ q _ 9 h0 Try.underlying45 rfl (by kernel_rfl) (by omega) ?_) | (refine wpList_load_u8s rfl 45 _ rfl w.heap.size 18 rfl _ q _ 9 h0 Try.underlying45 rfl (by kernel_rfl) (by omega) ?_) | (refine wpList_of_exec rfl (exec_build3 _ 45 _ _ _ rfl 3 _ _ _ rfl rfl rfl Try.underlying58 (by kernel_rfl) (by kernel_rfl) (segm_len (by omega)) (segm_len (by omega)) (segm_len (by omega))) ?_; rw [over3 q hq.len]) | (refine wpList_store_u8s rfl 58 _ _ rfl rfl (w.heap.size + 1) 0 rfl _ rfl _ _ h1 27 (by kernel_rfl) hq.len (by simp) ?_; intro w2 p2))
  rw [over_all (by rw [hq.len]; simp)] at p2
  refine bodyPost_ret (results_at rfl _ _ (w.heap.size + 1) _ _ _ rfl p2.at_ Try.underlying58 rfl 27 (by kernel_rfl) ((u8s_size _).trans hq.len)) rfl ?_
  exact ⟨rfl, p2.below hB (by omega)⟩
end Go.Proofs.Ytebmkmkhfhmfbaa
