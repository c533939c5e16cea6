/-
  Places and right sides: spec.l01Want; impl.isIndex, unitForm, rightSides.
-/
import Derived.Test.YtdcgkmfkbdhfhaaImplIs
namespace Go.Proofs.Ytdcgkmfkbdhfhaa
open Go.RowKit
set_option maxRecDepth 100000
def inB (a N : Int) : Bool := decide (0 ≤ a) && decide (a < N)
def wantI (m k a b c : Int) : Int := if a % m = b / k ∧ a / m = c / k ∧ b % k = c % k then 1 else 0
set_option maxHeartbeats 800000 in
theorem l01Want_c (p n m k a b c : Int) (v : Value) (w : World) (hm : 1 ≤ m ∧ m ≤ 3) (hk : 1 ≤ k ∧ k ≤ 3) (ha : 0 ≤ a ∧ a < 9) (hb : 0 ≤ b ∧ b < 9) (hc : 0 ≤ c ∧ c < 9) :
    Calls Try.prog 32 #[.agg #[.int .i64 p, .int .i64 n, .int .i64 m, .int .i64 k, v], .int .i64 a, .int .i64 b, .int .i64 c] w fun e w' => e = .returned (.int .i64 (wantI m k a b c)) ∧ Below w.heap.size w w' := by
  obtain ⟨m1, m2⟩ := hm
  obtain ⟨k1, k2⟩ := hk
  obtain ⟨a1, a2⟩ := ha
  obtain ⟨b1, b2⟩ := hb
  obtain ⟨c1, c2⟩ := hc
  have zm : (m == 0) = false := by simp; omega
  have zk : (k == 0) = false := by simp; omega
  go_enter Try.func32, Try.ntmps32
  go_wp2_with fail
  by_cases h1 : a % m = b / k
  · have d1 : (a % m == b / k) = true := by simp [h1]
    by_cases h2 : a / m = c / k
    · have d2 : (a / m == c / k) = true := by simp [h2]
      by_cases h3 : b % k = c % k
      · have d3 : (b % k == c % k) = true := by simp [h3]
        have Hw : Hid (wantI m k a b c = 1) := Lib.hid (if_pos ⟨h1, h2, h3⟩)
        clear h1 h2 h3
        go_quiet (fail)
        go_wp2_with fail
        go_ret
        exact ⟨by rw [Hw.out]; rfl, below_drawn (below1 _ _) _⟩
      · have d3 : (b % k == c % k) = false := by simp [h3]
        have Hw : Hid (wantI m k a b c = 0) := Lib.hid (if_neg fun h => h3 h.2.2)
        clear h1 h2 h3
        go_quiet (fail)
        go_wp2_with fail
        go_ret
        exact ⟨by rw [Hw.out]; rfl, below_drawn (below1 _ _) _⟩
    · have d2 : (a / m == c / k) = false := by simp [h2]
      have Hw : Hid (wantI m k a b c = 0) := Lib.hid (if_neg fun h => h2 h.2.1)
      clear h1 h2
      go_quiet (fail)
      go_wp2_with fail
      go_ret
      exact ⟨by rw [Hw.out]; rfl, below_drawn (below1 _ _) _⟩
  · have d1 : (a % m == b / k) = false := by simp [h1]
    have Hw : Hid (wantI m k a b c = 0) := Lib.hid (if_neg fun h => h1 h.1)
    clear h1
    go_quiet (fail)
    go_wp2_with fail
    go_ret
    exact ⟨by rw [Hw.out]; rfl, below_drawn (below1 _ _) _⟩
theorem isIndex_c (a N : Int) (w : World) : Calls Try.prog 58 #[.int .i64 a, .int .i64 N] w fun e w' => e = .returned (.bool (inB a N)) ∧ w = w' := by
  by_cases h : 0 ≤ a
  · have Hr : Hid (inB a N = decide (a < N)) := Lib.hid (by simp [inB, h])
    have h1 : decide (0 ≤ a) = true := by simp [h]
    go_enter Try.func58, Try.ntmps58
    go_wp2_with fail
    go_ret
    exact ⟨by rw [Hr.out]; rfl, rfl⟩
  · have Hr : Hid (inB a N = false) := Lib.hid (by simp [inB, h])
    have h1 : decide (0 ≤ a) = false := by simp [h]
    go_enter Try.func58, Try.ntmps58
    go_wp2_with fail
    go_ret
    exact ⟨by rw [Hr.out]; rfl, rfl⟩
def unitL (j : Nat) : List Nat := (List.replicate 9 0).set j 1
theorem unitL_len (j : Nat) : (unitL j).length = 9 := by simp [unitL]
set_option maxHeartbeats 400000 in
theorem unitForm_c (j : Nat) (hj : j < 9) (w : World) : Calls Try.prog 49 #[.int .i64 j] w fun e w' => e = .returned (.agg (u8s (unitL j))) ∧ Below w.heap.size w w' := by
  go_enter Try.func49, Try.ntmps49
  go_wp2_with (first | (refine wpList_abs2 ?_; intro W hsz hB h0 h1; replace h0 : At W w.heap.size (.cells (u8s (List.replicate 9 0)) 58 (0, 0)) := h0; replace h1 : At W (w.heap.size + 1) (.cells (u8s (List.replicate 9 0)) 58 (0, 0)) := h1; have c1 := h1.cell (i := j) (by simp; exact hj); have f1 := h1.free j; have p1 := Put.set (i := j) h1 1; have h0' := p1.other h0 (by omega); have h1' := p1.at_; have hB' := p1.below hB (by omega); clear p1) | (refine wpList_load_all rfl 58 _ rfl (w.heap.size + 1) rfl _ _ _ h1' Try.underlying58 rfl 9 (by kernel_rfl) ((u8s_size _).trans (unitL_len j)) ?_) | (refine wpList_store_u8s rfl 58 _ _ rfl rfl w.heap.size 0 rfl _ rfl _ _ h0' 9 (by kernel_rfl) (unitL_len j) (by simp) ?_; intro w2 p2))
  rw [over_all (by simp)] at p2
  refine bodyPost_ret (results_at rfl _ _ w.heap.size _ _ _ rfl p2.at_ Try.underlying58 rfl 9 (by kernel_rfl) ((u8s_size _).trans (unitL_len j))) rfl ?_
  exact ⟨rfl, p2.below hB' (by omega)⟩
def rightL (m k a b : Int) : List Nat := if a % m = b / k then unitL (a / m * k + b % k).toNat else List.replicate 9 0
theorem place_bounds {n m k a b : Int} (hn : 1 ≤ n ∧ n ≤ 3) (hm : 1 ≤ m ∧ m ≤ 3) (hk : 1 ≤ k ∧ k ≤ 3) (ha : 0 ≤ a ∧ a < n * m) : 0 ≤ a / m * k ∧ a / m * k ≤ 6 ∧ 0 ≤ a / m * k + b % k ∧ a / m * k + b % k < 9 := by
  have hn' : n = 1 ∨ n = 2 ∨ n = 3 := by omega
  have hm' : m = 1 ∨ m = 2 ∨ m = 3 := by omega
  have hk' : k = 1 ∨ k = 2 ∨ k = 3 := by omega
  rcases hn' with rfl | rfl | rfl <;> rcases hm' with rfl | rfl | rfl <;> rcases hk' with rfl | rfl | rfl <;> omega
set_option maxHeartbeats 800000 in
theorem rightSides_c (p n m k a b : Int) (v : Value) (w : World) (hn : 1 ≤ n ∧ n ≤ 3) (hm : 1 ≤ m ∧ m ≤ 3) (hk : 1 ≤ k ∧ k ≤ 3) (ha : 0 ≤ a ∧ a < n * m) (ha9 : a < 9) (hb : 0 ≤ b ∧ b < 9) :
    Calls Try.prog 33 #[.agg #[.int .i64 p, .int .i64 n, .int .i64 m, .int .i64 k, v], .int .i64 a, .int .i64 b] w fun e w' => e = .returned (.agg (u8s (rightL m k a b))) ∧ Below w.heap.size w w' := by
  obtain ⟨q1, q2, q3, q4⟩ := place_bounds (b := b) hn hm hk ha
  have w1 : IntKind.i64.wrap (a / m * k) = a / m * k := IntWalk.i64_in _ (by omega)
  have w2 : IntKind.i64.wrap (a / m * k + b % k) = a / m * k + b % k := IntWalk.i64_in _ (by omega)
  obtain ⟨m1, m2⟩ := hm
  obtain ⟨k1, k2⟩ := hk
  obtain ⟨a1, _⟩ := ha
  obtain ⟨b1, b2⟩ := hb
  have zm : (m == 0) = false := by simp; omega
  have zk : (k == 0) = false := by simp; omega
  by_cases h1 : a % m = b / k
  · have d1 : (a % m != b / k) = false := by simp [h1]
    have Hr : Hid (rightL m k a b = unitL (a / m * k + b % k).toNat) := Lib.hid (if_pos h1)
    clear h1
    go_enter Try.func33, Try.ntmps33
    go_wp2_with fail
    go_quiet (fail)
    go_wp2_with fail
    go_quiet (fail)
    go_wp2_with fail
    obtain ⟨j, hj⟩ : ∃ j : Nat, (j : Int) = a / m * k + b % k := ⟨(a / m * k + b % k).toNat, by omega⟩
    have hj9 : j < 9 := by omega
    have Hj : Hid (rightL m k a b = unitL j) := Lib.hid (by rw [Hr.out, ← hj, Int.toNat_natCast])
    rw [← hj]
    refine (unitForm_c j hj9 _).mono ?_
    rintro e w3 ⟨rfl, c1⟩
    have h1 : At w3 (w.heap.size + 1) (.cells (u8s (List.replicate 9 0)) 58 (0, 0)) := At.after (At.drewN (al2_1 _ _ _) _) c1
    have hB := below_after (below_drawn (below2 _ _ _) _) c1
    clear c1
    go_wp2_with (refine wpList_store_u8s rfl 58 _ _ rfl rfl (w.heap.size + 1) 0 rfl _ rfl _ _ h1 9 (by kernel_rfl) (unitL_len j) (by simp) ?_; intro w4 p4)
    rw [over_all (by simp [unitL])] at p4
    refine bodyPost_ret (results_at rfl _ _ (w.heap.size + 1) _ _ _ rfl p4.at_ Try.underlying58 rfl 9 (by kernel_rfl) ((u8s_size _).trans (unitL_len j))) rfl ?_
    exact ⟨by rw [Hj.out], p4.below hB (by omega)⟩
  · have d1 : (a % m != b / k) = true := by simp [h1]
    have Hr : Hid (rightL m k a b = List.replicate 9 0) := Lib.hid (if_neg h1)
    clear h1
    go_enter Try.func33, Try.ntmps33
    go_wp2_with fail
    go_quiet (fail)
    go_wp2_with fail
    go_quiet (fail)
    go_wp2_with (refine wpList_store_u8s rfl 58 _ _ rfl rfl (w.heap.size + 1) 0 rfl (List.replicate 9 0) rfl 58 (List.replicate 9 0) (by exact al2_1 _ _ _) 9 (by kernel_rfl) (by simp) (by simp) ?_; intro w4 p4)
    rw [over_all (by simp)] at p4
    refine bodyPost_ret (results_at rfl _ _ (w.heap.size + 1) _ _ _ rfl p4.at_ Try.underlying58 rfl 9 (by kernel_rfl) rfl) rfl ?_
    exact ⟨by rw [Hr.out], p4.below (below_drawn (below2 _ _ _) _) (by omega)⟩
end Go.Proofs.Ytdcgkmfkbdhfhaa
