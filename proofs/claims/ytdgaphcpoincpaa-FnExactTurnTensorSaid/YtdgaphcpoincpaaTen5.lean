/-
  numberAt, l05At, has, NumberAt of both sides.
-/
import Derived.Test.YtdgaphcpoincpaaTen4
namespace Go.Proofs.Ytdgaphcpoincpaa
open Go.RowKit
set_option maxRecDepth 100000
/-- The number at a place. -/
def nthI (xs : List Int) (t : Int) : Int := xs[t.toNat]?.getD 0
theorem place_le {i j k a b c : Int} (hi : 0 ≤ i) (hi' : i < a) (hj : 0 ≤ j) (hj' : j < b) (hk : 0 ≤ k) (hk' : k < c) (ha : a ≤ 9) (hb : b ≤ 9) (hc : c ≤ 9) :
    0 ≤ i * b ∧ i * b ≤ 81 ∧ 0 ≤ (i * b + j) * c ∧ (i * b + j) * c ≤ 729 ∧ 0 ≤ (i * b + j) * c + k ∧ (i * b + j) * c + k < a * b * c := by
  have h1 : 0 ≤ i * b := Int.mul_nonneg hi (by omega)
  have h2 : i * b ≤ 8 * b := Int.mul_le_mul_of_nonneg_right (by omega) (by omega)
  have h3 : 0 ≤ (i * b + j) * c := Int.mul_nonneg (by omega) (by omega)
  have h4 : (i * b + j) * c ≤ 80 * c := Int.mul_le_mul_of_nonneg_right (by omega) (by omega)
  have h5 : (i + 1) * b ≤ a * b := Int.mul_le_mul_of_nonneg_right (by omega) (by omega)
  have h6 : (i * b + j + 1) * c ≤ (i + 1) * b * c := Int.mul_le_mul_of_nonneg_right (by rw [Int.add_mul]; omega) (by omega)
  have h7 : (i + 1) * b * c ≤ a * b * c := Int.mul_le_mul_of_nonneg_right h5 (by omega)
  rw [Int.add_mul] at h6
  omega
set_option maxHeartbeats 800000 in
theorem numberAt_c (p a b c : Int) (A : Option Addr) (cap : Nat) (xs : List Int) (i j k : Int) (w : World) (hr : RdI w A xs) (hl : (xs.length : Int) = a * b * c) (ha : a ≤ 9) (hb : b ≤ 9) (hc : c ≤ 9)
    (hi : 0 ≤ i) (hi' : i < a) (hj : 0 ≤ j) (hj' : j < b) (hk : 0 ≤ k) (hk' : k < c) :
    Calls Try.prog 32 #[.agg #[.int .i64 p, .int .i64 a, .int .i64 b, .int .i64 c, .slice A xs.length cap], .int .i64 i, .int .i64 j, .int .i64 k] w fun e w' => e = .returned (.int .i64 (nthI xs ((i * b + j) * c + k))) ∧ Below w.heap.size w w' := by
  obtain ⟨h1, h2, h3, h4, h5, h6⟩ := place_le hi hi' hj hj' hk hk' ha hb hc
  have e1 : IntKind.i64.wrap (i * b) = i * b := IntWalk.i64_in _ (by omega)
  have e2 : IntKind.i64.wrap (i * b + j) = i * b + j := IntWalk.i64_in _ (by omega)
  have e3 : IntKind.i64.wrap ((i * b + j) * c) = (i * b + j) * c := IntWalk.i64_in _ (by omega)
  have e4 : IntKind.i64.wrap ((i * b + j) * c + k) = (i * b + j) * c + k := IntWalk.i64_in _ (by omega)
  obtain ⟨t, ht⟩ := Int.eq_ofNat_of_zero_le h5
  have hlt : t < xs.length := by omega
  obtain ⟨bb, off, rfl, hx⟩ := (hr.keep (below1 w (.cells #[.int .i64 p, .int .i64 a, .int .i64 b, .int .i64 c, .slice A xs.length cap] 27 (0, 0)))).at_ hlt
  have Hv : Hid (nthI xs ((i * b + j) * c + k) = xs[t]) := Lib.hid (by rw [ht]; simp [nthI, hlt])
  rw [ht] at e4
  generalize xs[t] = x at *
  clear h1 h2 h3 h4 h5 h6 hl ha hb hc hi hi' hj hj' hk hk' hr
  go_enter Try.func32, Try.ntmps32
  go_wp2_with fail
  go_ret
  exact ⟨by rw [Hv.out]; rfl, below1 _ _⟩
set_option maxHeartbeats 800000 in
theorem l05At_c (p a b c : Int) (A : Option Addr) (cap : Nat) (xs : List Int) (i j k : Int) (w : World) (hr : RdI w A xs) (hl : (xs.length : Int) = a * b * c) (ha : a ≤ 9) (hb : b ≤ 9) (hc : c ≤ 9)
    (hi : 0 ≤ i) (hi' : i < a) (hj : 0 ≤ j) (hj' : j < b) (hk : 0 ≤ k) (hk' : k < c) :
    Calls Try.prog 30 #[.agg #[.int .i64 p, .int .i64 a, .int .i64 b, .int .i64 c, .slice A xs.length cap], .int .i64 i, .int .i64 j, .int .i64 k] w fun e w' => e = .returned (.int .i64 (nthI xs ((i * b + j) * c + k))) ∧ Below w.heap.size w w' := by
  obtain ⟨h1, h2, h3, h4, h5, h6⟩ := place_le hi hi' hj hj' hk hk' ha hb hc
  have e1 : IntKind.i64.wrap (i * b) = i * b := IntWalk.i64_in _ (by omega)
  have e2 : IntKind.i64.wrap (i * b + j) = i * b + j := IntWalk.i64_in _ (by omega)
  have e3 : IntKind.i64.wrap ((i * b + j) * c) = (i * b + j) * c := IntWalk.i64_in _ (by omega)
  have e4 : IntKind.i64.wrap ((i * b + j) * c + k) = (i * b + j) * c + k := IntWalk.i64_in _ (by omega)
  obtain ⟨t, ht⟩ := Int.eq_ofNat_of_zero_le h5
  have hlt : t < xs.length := by omega
  obtain ⟨bb, off, rfl, hx⟩ := (hr.keep (below1 w (.cells #[.int .i64 p, .int .i64 a, .int .i64 b, .int .i64 c, .slice A xs.length cap] 27 (0, 0)))).at_ hlt
  have Hv : Hid (nthI xs ((i * b + j) * c + k) = xs[t]) := Lib.hid (by rw [ht]; simp [nthI, hlt])
  rw [ht] at e4
  generalize xs[t] = x at *
  clear h1 h2 h3 h4 h5 h6 hl ha hb hc hi hi' hj hj' hk hk' hr
  go_enter Try.func30, Try.ntmps30
  go_wp2_with fail
  go_ret
  exact ⟨by rw [Hv.out]; rfl, below1 _ _⟩
/-! ### has -/
def hasB (a b c i j k : Int) : Bool := inB i a && inB j b && inB k c
theorem has_c (a b c i j k : Int) (w : World) :
    Calls Try.prog 31 #[.agg #[.int .i64 a, .int .i64 b, .int .i64 c], .int .i64 i, .int .i64 j, .int .i64 k] w fun e w' => e = .returned (.bool (hasB a b c i j k)) ∧ Below w.heap.size w w' := by
  cases h1 : inB i a with
  | false =>
    have H1 := Lib.hid (isIndex_c i a)
    have Hr : Hid (hasB a b c i j k = false) := Lib.hid (by simp [hasB, h1])
    rw [h1] at H1
    clear h1
    go_enter Try.func31, Try.ntmps31
    go_wp2_with fail
    refine (H1.out _).mono ?_
    rintro e w' ⟨rfl, rfl⟩
    go_wp2_with fail
    go_ret
    exact ⟨by rw [Hr.out]; rfl, below1 _ _⟩
  | true =>
  cases h2 : inB j b with
  | false =>
    have H1 := Lib.hid (isIndex_c i a)
    have H2 := Lib.hid (isIndex_c j b)
    have Hr : Hid (hasB a b c i j k = false) := Lib.hid (by simp [hasB, h2])
    rw [h1] at H1
    rw [h2] at H2
    clear h1 h2
    go_enter Try.func31, Try.ntmps31
    go_wp2_with fail
    refine (H1.out _).mono ?_
    rintro e w' ⟨rfl, rfl⟩
    go_wp2_with fail
    refine (H2.out _).mono ?_
    rintro e w' ⟨rfl, rfl⟩
    go_wp2_with fail
    go_ret
    exact ⟨by rw [Hr.out]; rfl, below1 _ _⟩
  | true =>
    have H1 := Lib.hid (isIndex_c i a)
    have H2 := Lib.hid (isIndex_c j b)
    have H3 := Lib.hid (isIndex_c k c)
    have Hr : Hid (hasB a b c i j k = inB k c) := Lib.hid (by simp [hasB, h1, h2])
    rw [h1] at H1
    rw [h2] at H2
    clear h1 h2
    go_enter Try.func31, Try.ntmps31
    go_wp2_with fail
    refine (H1.out _).mono ?_
    rintro e w' ⟨rfl, rfl⟩
    go_wp2_with fail
    refine (H2.out _).mono ?_
    rintro e w' ⟨rfl, rfl⟩
    go_wp2_with fail
    refine (H3.out _).mono ?_
    rintro e w' ⟨rfl, rfl⟩
    go_wp2_with fail
    go_ret
    exact ⟨by rw [Hr.out]; rfl, below1 _ _⟩
theorem inB_iff {x n : Int} : inB x n = true ↔ 0 ≤ x ∧ x < n := by simp [inB]
theorem hasB_in {a b c i j k : Int} (h : hasB a b c i j k = true) : 0 ≤ i ∧ i < a ∧ 0 ≤ j ∧ j < b ∧ 0 ≤ k ∧ k < c := by
  simp only [hasB, Bool.and_eq_true, inB_iff] at h
  omega
/-! ### NumberAt -/
def naCode (p a b c : Int) (xs : List Int) (i j k : Int) : Int := if tenB p a b c xs = true then (if hasB a b c i j k = true then 0 else 2) else 1
def naR (p a b c : Int) (xs : List Int) (i j k : Int) : Int := if naCode p a b c xs i j k = 0 then nthI xs ((i * b + j) * c + k) else 0
set_option maxHeartbeats 1600000 in
theorem implNumberAt_c (p a b c : Int) (A : Option Addr) (cap : Nat) (xs : List Int) (i j k : Int) (w : World) (hr : RdI w A xs) (hn : xs.length ≤ 1048576) :
    Calls Try.prog 13 #[.agg #[.int .i64 p, .int .i64 a, .int .i64 b, .int .i64 c, .slice A xs.length cap], .int .i64 i, .int .i64 j, .int .i64 k] w
      fun e w' => e = .returned (.tuple #[.int .i64 (naR p a b c xs i j k), .int .i64 (naCode p a b c xs i j k)]) ∧ Below w.heap.size w w' := by
  have HI := Lib.hid (fun w hr => implIsTensor_c p a b c A cap xs w hr hn)
  have HR := Lib.hid (fun w' (hb : Below w.heap.size w w') => hr.keep hb)
  have hB := below1 w (.cells #[.int .i64 p, .int .i64 a, .int .i64 b, .int .i64 c, .slice A xs.length cap] 27 (0, 0))
  have h0 := al1_0 w (.cells #[.int .i64 p, .int .i64 a, .int .i64 b, .int .i64 c, .slice A xs.length cap] 27 (0, 0))
  cases ht : tenB p a b c xs with
  | false =>
    have Hc : Hid (naCode p a b c xs i j k = 1) := Lib.hid (by simp [naCode, ht])
    have Hr : Hid (naR p a b c xs i j k = 0) := Lib.hid (by simp [naR, Hc.out])
    rw [ht] at HI
    clear ht hr
    go_enter Try.func13, Try.ntmps13
    go_wp2_with fail
    refine (HI.out _ (HR.out _ hB)).mono ?_
    rintro e w1 ⟨rfl, b1⟩
    replace hB := below_after hB b1
    go_wp2_with fail
    go_ret2
    exact ⟨by rw [Hr.out, Hc.out]; rfl, hB⟩
  | true =>
    rw [ht] at HI
    cases hh : hasB a b c i j k with
    | false =>
      have Hc : Hid (naCode p a b c xs i j k = 2) := Lib.hid (by simp [naCode, ht, hh])
      have Hr : Hid (naR p a b c xs i j k = 0) := Lib.hid (by simp [naR, Hc.out])
      have HH := Lib.hid (has_c a b c i j k)
      rw [hh] at HH
      clear ht hr hh
      go_enter Try.func13, Try.ntmps13
      go_wp2_with fail
      refine (HI.out _ (HR.out _ hB)).mono ?_
      rintro e w1 ⟨rfl, b1⟩
      replace hB := below_after hB b1
      replace h0 := At.after h0 b1
      go_wp2_with (refine wpList_load_all rfl 27 _ rfl w.heap.size rfl _ _ _ h0 Try.underlying27 rfl 5 (by kernel_rfl) rfl ?_)
      refine (boxOf_c p a b c _ _).mono ?_
      rintro e w2 ⟨rfl, b2⟩
      replace hB := below_after hB b2
      go_wp2_with fail
      refine (HH.out _).mono ?_
      rintro e w3 ⟨rfl, b3⟩
      replace hB := below_after hB b3
      go_wp2_with fail
      go_ret2
      exact ⟨by rw [Hr.out, Hc.out]; rfl, hB⟩
    | true =>
      have Hc : Hid (naCode p a b c xs i j k = 0) := Lib.hid (by simp [naCode, ht, hh])
      have Hr : Hid (naR p a b c xs i j k = nthI xs ((i * b + j) * c + k)) := Lib.hid (by simp [naR, Hc.out])
      have HH := Lib.hid (has_c a b c i j k)
      rw [hh] at HH
      obtain ⟨_, t1, t2, t3, t4, _⟩ := tenB_parts ht
      obtain ⟨i1, i2, j1, j2, k1, k2⟩ := hasB_in hh
      have HN := Lib.hid (fun w hr => numberAt_c p a b c A cap xs i j k w hr t4 (sideB_in t1).2 (sideB_in t2).2 (sideB_in t3).2 i1 i2 j1 j2 k1 k2)
      clear ht hr hh t1 t2 t3 t4 i1 i2 j1 j2 k1 k2
      go_enter Try.func13, Try.ntmps13
      go_wp2_with fail
      refine (HI.out _ (HR.out _ hB)).mono ?_
      rintro e w1 ⟨rfl, b1⟩
      replace hB := below_after hB b1
      replace h0 := At.after h0 b1
      go_wp2_with (refine wpList_load_all rfl 27 _ rfl w.heap.size rfl _ _ _ h0 Try.underlying27 rfl 5 (by kernel_rfl) rfl ?_)
      refine (boxOf_c p a b c _ _).mono ?_
      rintro e w2 ⟨rfl, b2⟩
      replace hB := below_after hB b2
      replace h0 := h0.after b2
      go_wp2_with fail
      refine (HH.out _).mono ?_
      rintro e w3 ⟨rfl, b3⟩
      replace hB := below_after hB b3
      replace h0 := h0.after b3
      go_wp2_with (refine wpList_load_all rfl 27 _ rfl w.heap.size rfl _ _ _ h0 Try.underlying27 rfl 5 (by kernel_rfl) rfl ?_)
      refine (HN.out _ (HR.out _ hB)).mono ?_
      rintro e w4 ⟨rfl, b4⟩
      replace hB := below_after hB b4
      go_wp2_with fail
      go_ret2
      exact ⟨by rw [Hr.out, Hc.out]; rfl, hB⟩
theorem l01In_idx (x n q : Int) (hq : q = n - 1) (w : World) : Calls Try.prog 29 #[.int .i64 x, .int .i64 0, .int .i64 q] w fun e w' => e = .returned (.bool (inB x n)) ∧ w = w' := l01In_num x n q hq w
set_option maxHeartbeats 1600000 in
theorem specNumberAt_c (p a b c : Int) (A : Option Addr) (cap : Nat) (xs : List Int) (i j k : Int) (w : World) (hr : RdI w A xs) (hn : xs.length ≤ 1048576) :
    Calls Try.prog 12 #[.agg #[.int .i64 p, .int .i64 a, .int .i64 b, .int .i64 c, .slice A xs.length cap], .int .i64 i, .int .i64 j, .int .i64 k] w
      fun e w' => e = .returned (.tuple #[.int .i64 (naR p a b c xs i j k), .int .i64 (naCode p a b c xs i j k)]) ∧ Below w.heap.size w w' := by
  have HI := Lib.hid (fun w hr => l05Is_c p a b c A cap xs w hr hn)
  have HR := Lib.hid (fun w' (hb : Below w.heap.size w w') => hr.keep hb)
  have hB := below1 w (.cells #[.int .i64 p, .int .i64 a, .int .i64 b, .int .i64 c, .slice A xs.length cap] 27 (0, 0))
  have h0 := al1_0 w (.cells #[.int .i64 p, .int .i64 a, .int .i64 b, .int .i64 c, .slice A xs.length cap] 27 (0, 0))
  cases ht : tenB p a b c xs with
  | false =>
    have Hc : Hid (naCode p a b c xs i j k = 1) := Lib.hid (by simp [naCode, ht])
    have Hr : Hid (naR p a b c xs i j k = 0) := Lib.hid (by simp [naR, Hc.out])
    rw [ht] at HI
    clear ht hr
    go_enter Try.func12, Try.ntmps12
    go_wp2_with fail
    refine (HI.out _ (HR.out _ hB)).mono ?_
    rintro e w1 ⟨rfl, b1⟩
    replace hB := below_after hB b1
    go_wp2_with fail
    go_ret2
    exact ⟨by rw [Hr.out, Hc.out]; rfl, hB⟩
  | true =>
    rw [ht] at HI
    obtain ⟨_, t1, t2, t3, t4, _⟩ := tenB_parts ht
    have ea : IntKind.i64.wrap (a - 1) = a - 1 := IntWalk.i64_in _ (by have := sideB_in t1; omega)
    have eb : IntKind.i64.wrap (b - 1) = b - 1 := IntWalk.i64_in _ (by have := sideB_in t2; omega)
    have ec : IntKind.i64.wrap (c - 1) = c - 1 := IntWalk.i64_in _ (by have := sideB_in t3; omega)
    have H1 := Lib.hid (l01In_num i a (a - 1) rfl)
    have H2 := Lib.hid (l01In_num j b (b - 1) rfl)
    have H3 := Lib.hid (l01In_num k c (c - 1) rfl)
    have s0 : ∀ {w'}, Below (w.alloc (.cells #[.int .i64 p, .int .i64 a, .int .i64 b, .int .i64 c, .slice A xs.length cap] 27 (0, 0))).heap.size (w.alloc (.cells #[.int .i64 p, .int .i64 a, .int .i64 b, .int .i64 c, .slice A xs.length cap] 27 (0, 0))) w' → At w' w.heap.size (.cells #[.int .i64 p, .int .i64 a, .int .i64 b, .int .i64 c, .slice A xs.length cap] 27 (0, 0)) := fun hb => At.after h0 hb
    cases h1 : inB i a with
    | false =>
      have Hc : Hid (naCode p a b c xs i j k = 2) := Lib.hid (by simp [naCode, ht, hasB, h1])
      have Hr : Hid (naR p a b c xs i j k = 0) := Lib.hid (by simp [naR, Hc.out])
      rw [h1] at H1
      clear ht hr h1 t1 t2 t3 t4
      go_enter Try.func12, Try.ntmps12
      go_wp2_with fail
      refine (HI.out _ (HR.out _ hB)).mono ?_
      rintro e w1 ⟨rfl, b1⟩
      replace hB := below_after hB b1
      replace h0 := s0 b1
      have c1 : w1.cell? ⟨w.heap.size, 1, none⟩ = some (.int .i64 a) := At.at_ h0 1
      go_wp2_with fail
      refine (H1.out _).mono ?_
      rintro e w' ⟨rfl, rfl⟩
      go_wp2_with fail
      go_ret2
      exact ⟨by rw [Hr.out, Hc.out]; rfl, hB⟩
    | true =>
    rw [h1] at H1
    cases h2 : inB j b with
    | false =>
      have Hc : Hid (naCode p a b c xs i j k = 2) := Lib.hid (by simp [naCode, ht, hasB, h2])
      have Hr : Hid (naR p a b c xs i j k = 0) := Lib.hid (by simp [naR, Hc.out])
      rw [h2] at H2
      clear ht hr h1 h2 t1 t2 t3 t4
      go_enter Try.func12, Try.ntmps12
      go_wp2_with fail
      refine (HI.out _ (HR.out _ hB)).mono ?_
      rintro e w1 ⟨rfl, b1⟩
      replace hB := below_after hB b1
      replace h0 := s0 b1
      have c1 : w1.cell? ⟨w.heap.size, 1, none⟩ = some (.int .i64 a) := At.at_ h0 1
      have c2 : w1.cell? ⟨w.heap.size, 2, none⟩ = some (.int .i64 b) := At.at_ h0 2
      go_wp2_with fail
      refine (H1.out _).mono ?_
      rintro e w' ⟨rfl, rfl⟩
      go_wp2_with fail
      refine (H2.out _).mono ?_
      rintro e w' ⟨rfl, rfl⟩
      go_wp2_with fail
      go_ret2
      exact ⟨by rw [Hr.out, Hc.out]; rfl, hB⟩
    | true =>
    rw [h2] at H2
    cases h3 : inB k c with
    | false =>
      have Hc : Hid (naCode p a b c xs i j k = 2) := Lib.hid (by simp [naCode, ht, hasB, h3])
      have Hr : Hid (naR p a b c xs i j k = 0) := Lib.hid (by simp [naR, Hc.out])
      rw [h3] at H3
      clear ht hr h1 h2 h3 t1 t2 t3 t4
      go_enter Try.func12, Try.ntmps12
      go_wp2_with fail
      refine (HI.out _ (HR.out _ hB)).mono ?_
      rintro e w1 ⟨rfl, b1⟩
      replace hB := below_after hB b1
      replace h0 := s0 b1
      have c1 : w1.cell? ⟨w.heap.size, 1, none⟩ = some (.int .i64 a) := At.at_ h0 1
      have c2 : w1.cell? ⟨w.heap.size, 2, none⟩ = some (.int .i64 b) := At.at_ h0 2
      have c3 : w1.cell? ⟨w.heap.size, 3, none⟩ = some (.int .i64 c) := At.at_ h0 3
      go_wp2_with fail
      refine (H1.out _).mono ?_
      rintro e w' ⟨rfl, rfl⟩
      go_wp2_with fail
      refine (H2.out _).mono ?_
      rintro e w' ⟨rfl, rfl⟩
      go_wp2_with fail
      refine (H3.out _).mono ?_
      rintro e w' ⟨rfl, rfl⟩
      go_wp2_with fail
      go_ret2
      exact ⟨by rw [Hr.out, Hc.out]; rfl, hB⟩
    | true =>
      have hh : hasB a b c i j k = true := by simp [hasB, h1, h2, h3]
      have Hc : Hid (naCode p a b c xs i j k = 0) := Lib.hid (by simp [naCode, ht, hh])
      have Hr : Hid (naR p a b c xs i j k = nthI xs ((i * b + j) * c + k)) := Lib.hid (by simp [naR, Hc.out])
      obtain ⟨i1, i2, j1, j2, k1, k2⟩ := hasB_in hh
      have HN := Lib.hid (fun w hr => l05At_c p a b c A cap xs i j k w hr t4 (sideB_in t1).2 (sideB_in t2).2 (sideB_in t3).2 i1 i2 j1 j2 k1 k2)
      rw [h3] at H3
      clear ht hr h1 h2 h3 hh t1 t2 t3 t4 i1 i2 j1 j2 k1 k2
      go_enter Try.func12, Try.ntmps12
      go_wp2_with fail
      refine (HI.out _ (HR.out _ hB)).mono ?_
      rintro e w1 ⟨rfl, b1⟩
      replace hB := below_after hB b1
      replace h0 := s0 b1
      have c1 : w1.cell? ⟨w.heap.size, 1, none⟩ = some (.int .i64 a) := At.at_ h0 1
      have c2 : w1.cell? ⟨w.heap.size, 2, none⟩ = some (.int .i64 b) := At.at_ h0 2
      have c3 : w1.cell? ⟨w.heap.size, 3, none⟩ = some (.int .i64 c) := At.at_ h0 3
      go_wp2_with fail
      refine (H1.out _).mono ?_
      rintro e w' ⟨rfl, rfl⟩
      go_wp2_with fail
      refine (H2.out _).mono ?_
      rintro e w' ⟨rfl, rfl⟩
      go_wp2_with fail
      refine (H3.out _).mono ?_
      rintro e w' ⟨rfl, rfl⟩
      go_wp2_with (refine wpList_load_all rfl 27 _ rfl w.heap.size rfl _ _ _ h0 Try.underlying27 rfl 5 (by kernel_rfl) rfl ?_)
      refine (HN.out _ (HR.out _ hB)).mono ?_
      rintro e w4 ⟨rfl, b4⟩
      replace hB := below_after hB b4
      go_wp2_with fail
      go_ret2
      exact ⟨by rw [Hr.out, Hc.out]; rfl, hB⟩
end Go.Proofs.Ytdgaphcpoincpaa
