/-
  spec.MatrixTensor, impl.MatrixTensor.
-/
import Derived.Test.YtcmpeoijedddjaaTos3
import Derived.Test.YtcmpeoijedddjaaStd4
namespace Go.Proofs.Ytcmpeoijedddjaa
open Go.RowKit
set_option maxRecDepth 100000
def mtCode (p n m k : Int) : Int := if sizesB p n m k = true then 0 else 2
def mtZ (p n m k : Int) (x : Int) : Int := if sizesB p n m k = true then x else 0
def mtR (p n m k : Int) : List Int := if sizesB p n m k = true then tosL p (n * m).toNat (m * k).toNat (n * k).toNat (stdA m.toNat k.toNat n.toNat) else []
theorem mtR_len (p n m k : Int) : (mtR p n m k).length ≤ 1048576 := by
  unfold mtR
  split
  · rename_i hs
    obtain ⟨_, s1, s2, s3⟩ := sizesB_parts hs
    simp only [sizeB, Bool.and_eq_true, decide_eq_true_eq] at s1 s2 s3
    have a1 := mul_bounds s1.1 s1.2 s2.1 s2.2
    have a2 := mul_bounds s2.1 s2.2 s3.1 s3.2
    have a3 := mul_bounds s1.1 s1.2 s3.1 s3.2
    rw [tosL_len]
    have := places_729 (n0 := (n * m).toNat) (n1 := (m * k).toNat) (n2 := (n * k).toNat) (by omega) (by omega) (by omega)
    omega
  · simp
theorem std_all : ∀ p ∈ ([2, 3, 5] : List Int), ∀ n ∈ ([1, 2, 3] : List Nat), ∀ m ∈ ([1, 2, 3] : List Nat), ∀ k ∈ ([1, 2, 3] : List Nat), schemeB p n m k (stdA m k n) = true := by decide +kernel
theorem std_scheme {P n m k : Nat} (hp : primeB P = true) (hn : 1 ≤ n ∧ n ≤ 3) (hm : 1 ≤ m ∧ m ≤ 3) (hk : 1 ≤ k ∧ k ≤ 3) : schemeB P n m k (stdA m k n) = true := by
  have h3 : ∀ x : Nat, 1 ≤ x ∧ x ≤ 3 → x ∈ ([1, 2, 3] : List Nat) := fun x hx => by
    simp only [List.mem_cons, List.not_mem_nil, or_false]
    omega
  refine std_all P ?_ n (h3 n hn) m (h3 m hm) k (h3 k hk)
  simp only [primeB, Bool.or_eq_true, beq_iff_eq] at hp
  simp only [List.mem_cons, List.not_mem_nil, or_false]
  omega
theorem mt_nat {P n m k : Nat} (hs : sizesB P n m k = true) (w : World) : ResT w (mtZ P n m k P) (mtZ P n m k ((n : Int) * m)) (mtZ P n m k ((m : Int) * k)) (mtZ P n m k ((n : Int) * k)) (mtR P n m k) (mtCode P n m k) = ResT w P (n * m : Nat) (m * k : Nat) (n * k : Nat) (tosL P (n * m) (m * k) (n * k) (stdA m k n)) 0 := by
  simp only [mtZ, mtR, mtCode, hs, if_true, tos_nat, Int.natCast_mul, Int.toNat_natCast]
theorem Own.new_ne_s {w : World} {lo : Nat} {v : Value} {qs : List (List Nat)} (h : Own w lo v qs) : some w.heap.size ≠ v.ownBlock := fun e => by
  have := (h.lt e.symm).2
  omega
set_option maxHeartbeats 1600000 in
theorem specMatrixTensor_c (p n m k : Int) (w : World) :
    Calls Try.prog 22 #[.int .i64 p, .int .i64 n, .int .i64 m, .int .i64 k] w (ResT w (mtZ p n m k p) (mtZ p n m k (n * m)) (mtZ p n m k (m * k)) (mtZ p n m k (n * k)) (mtR p n m k) (mtCode p n m k)) := by
  cases hs : sizesB p n m k with
  | false =>
    have Hc : Hid (mtCode p n m k = 2) := Lib.hid (by simp [mtCode, hs])
    have Hz : Hid (∀ x, mtZ p n m k x = 0) := Lib.hid (fun x => by simp [mtZ, hs])
    have Hr : Hid (mtR p n m k = []) := Lib.hid (by simp [mtR, hs])
    have HI := Lib.hid (l01Sizes_c p n m k)
    rw [hs] at HI
    clear hs
    go_enter Try.func22, Try.ntmps22
    go_wp2_with (refine wpList_abs1 ?_; intro W hsz hB h1)
    refine (HI.out _).mono ?_
    rintro e w1 ⟨rfl, rfl⟩
    go_wp2_with (refine wpList_store_all rfl 26 _ _ rfl rfl w.heap.size rfl #[.int .i64 0, .int .i64 0, .int .i64 0, .int .i64 0, .slice none 0 0] rfl _ _ h1 5 (by kernel_rfl) rfl rfl (by simp [Value.oneCell']) ?_; intro w7 p7)
    refine bodyPost_ret (results_at2 rfl _ _ w.heap.size _ _ _ rfl _ rfl p7.at_ Try.underlying26 rfl 5 (by kernel_rfl) rfl) rfl ?_
    exact ⟨.slice none 0 0, by rw [Hz.out, Hz.out, Hz.out, Hz.out, Hc.out]; rfl, by rw [Hr.out]; exact OwnI.nil _ _, p7.below hB (by omega)⟩
  | true =>
    obtain ⟨s0, s1, s2, s3⟩ := sizesB_parts hs
    have hpp := prime_le5 s0
    have hn : 1 ≤ n ∧ n ≤ 3 := by simp only [sizeB, Bool.and_eq_true, decide_eq_true_eq] at s1; omega
    have hm : 1 ≤ m ∧ m ≤ 3 := by simp only [sizeB, Bool.and_eq_true, decide_eq_true_eq] at s2; omega
    have hk : 1 ≤ k ∧ k ≤ 3 := by simp only [sizeB, Bool.and_eq_true, decide_eq_true_eq] at s3; omega
    obtain ⟨P, rfl⟩ := Int.eq_ofNat_of_zero_le (show 0 ≤ p by omega)
    obtain ⟨n, rfl⟩ := Int.eq_ofNat_of_zero_le (show 0 ≤ n by omega)
    obtain ⟨m, rfl⟩ := Int.eq_ofNat_of_zero_le (show 0 ≤ m by omega)
    obtain ⟨k, rfl⟩ := Int.eq_ofNat_of_zero_le (show 0 ≤ k by omega)
    rw [mt_nat hs]
    have HI := Lib.hid (l01Sizes_c P n m k)
    rw [hs] at HI
    have HSt := Lib.hid (fun w => l01Standard_c P n m k w (by omega) (by omega) (by omega))
    have hlen : (stdA m k n).length ≤ 30 := by
      rw [stdA_len]
      have h1 : m * k ≤ 9 := Nat.mul_le_mul (show m ≤ 3 by omega) (show k ≤ 3 by omega)
      have h2 : n * (m * k) ≤ 3 * 9 := Nat.mul_le_mul (show n ≤ 3 by omega) h1
      omega
    have HO := Lib.hid (fun A cap w hr => l05Of_c P n m k A cap (stdA m k n) w hr hlen (by omega) (by omega) (by omega) (by omega))
    have HBy := Lib.hid (stdA_bytes m k n)
    clear hs s0 s1 s2 s3 hlen
    generalize stdA m k n = qs at *
    go_enter Try.func22, Try.ntmps22
    go_wp2_with (refine wpList_abs1 ?_; intro W hsz hB h1; have z0 : W.heap.size = w.heap.size + 1 := hsz; clear hsz)
    refine (HI.out _).mono ?_
    rintro e w1 ⟨rfl, rfl⟩
    go_wp2_with fail
    refine (HSt.out _).mono ?_
    rintro e w2 ⟨v, rfl, ho, b2⟩
    obtain ⟨A5, c5, rfl, hrd⟩ := ho.rd HBy.out
    replace hB := below_after hB b2
    replace h1 := h1.after b2
    have z2 : w.heap.size + 1 ≤ w2.heap.size := by have := b2.size; omega
    clear b2 z0
    go_wp2_with fail
    refine (HO.out A5 c5 _ hrd).mono ?_
    rintro e w3 ⟨v, rfl, hoI, b3⟩
    obtain ⟨A6, c6, rfl, _⟩ := hoI.rd
    replace hB := below_after hB b3
    replace h1 := h1.after b3
    clear ho hrd
    go_wp2_with (refine wpList_store_all rfl 26 _ _ rfl rfl w.heap.size rfl _ rfl _ _ h1 5 (by kernel_rfl) rfl rfl (by simp [Value.oneCell']) ?_; intro w7 p7)
    refine bodyPost_ret (results_at2 rfl _ _ w.heap.size _ _ _ rfl _ rfl p7.at_ Try.underlying26 rfl 5 (by kernel_rfl) rfl) rfl ?_
    exact ⟨_, rfl, (hoI.put p7 (fun e => by have := (hoI.lt e.symm).1; omega)).mono (by omega), p7.below hB (by omega)⟩
set_option maxHeartbeats 1600000 in
theorem implMatrixTensor_c (p n m k : Int) (w : World) :
    Calls Try.prog 23 #[.int .i64 p, .int .i64 n, .int .i64 m, .int .i64 k] w (ResT w (mtZ p n m k p) (mtZ p n m k (n * m)) (mtZ p n m k (m * k)) (mtZ p n m k (n * k)) (mtR p n m k) (mtCode p n m k)) := by
  cases hs : sizesB p n m k with
  | false =>
    have Hc : Hid (mtCode p n m k = 2) := Lib.hid (by simp [mtCode, hs])
    have Hz : Hid (∀ x, mtZ p n m k x = 0) := Lib.hid (fun x => by simp [mtZ, hs])
    have Hr : Hid (mtR p n m k = []) := Lib.hid (by simp [mtR, hs])
    have HSt := Lib.hid (fun w => implStandard_c p n m k w)
    have H2 : Hid (stdCode p n m k = 2) := Lib.hid (by simp [stdCode, hs])
    have H3 : Hid (∀ x, stdZ p n m k x = 0) := Lib.hid (fun x => by simp [stdZ, hs])
    have H4 : Hid (stdQs p n m k = []) := Lib.hid (by simp [stdQs, hs])
    clear hs
    go_enter Try.func23, Try.ntmps23
    go_wp2_with (refine wpList_abs1 ?_; intro W hsz hB h1; have z0 : W.heap.size = w.heap.size + 1 := hsz; clear hsz)
    refine (HSt.out _).mono ?_
    rintro e w1 ⟨v, rfl, ho, b1⟩
    rw [H4.out] at ho
    obtain ⟨A5, c5, rfl, _⟩ := ho.rd (by simp)
    rw [H2.out, H3.out, H3.out, H3.out, H3.out]
    replace hB := below_after hB b1
    replace h1 := h1.after b1
    have z1 : w.heap.size + 1 ≤ w1.heap.size := by have := b1.size; omega
    clear b1 z0 ho
    go_wp2_with (first | (refine wpList_abs1 ?_; intro W2 hsz2 hB2 h3; have z3 : W2.heap.size = w1.heap.size + 1 := hsz2; replace h1 := h1.after hB2; replace hB := below_after hB hB2; clear hsz2 hB2) | (refine wpList_store_all rfl 40 _ _ rfl rfl w1.heap.size rfl _ rfl _ _ h3 5 (by kernel_rfl) rfl rfl (by simp [Value.oneCell']) ?_; intro W3 p3; replace h1 := p3.other h1 (by omega); replace hB := p3.below hB (by omega); clear p3) | (refine wpList_store_all rfl 26 _ _ rfl rfl w.heap.size rfl #[.int .i64 0, .int .i64 0, .int .i64 0, .int .i64 0, .slice none 0 0] rfl _ _ h1 5 (by kernel_rfl) rfl rfl (by simp [Value.oneCell']) ?_; intro w7 p7))
    refine bodyPost_ret (results_at2 rfl _ _ w.heap.size _ _ _ rfl _ rfl p7.at_ Try.underlying26 rfl 5 (by kernel_rfl) rfl) rfl ?_
    exact ⟨.slice none 0 0, by rw [Hz.out, Hz.out, Hz.out, Hz.out, Hc.out]; rfl, by rw [Hr.out]; exact OwnI.nil _ _, p7.below hB (by omega)⟩
  | true =>
    obtain ⟨s0, s1, s2, s3⟩ := sizesB_parts hs
    have hpp := prime_le5 s0
    have hn : 1 ≤ n ∧ n ≤ 3 := by simp only [sizeB, Bool.and_eq_true, decide_eq_true_eq] at s1; omega
    have hm : 1 ≤ m ∧ m ≤ 3 := by simp only [sizeB, Bool.and_eq_true, decide_eq_true_eq] at s2; omega
    have hk : 1 ≤ k ∧ k ≤ 3 := by simp only [sizeB, Bool.and_eq_true, decide_eq_true_eq] at s3; omega
    obtain ⟨P, rfl⟩ := Int.eq_ofNat_of_zero_le (show 0 ≤ p by omega)
    obtain ⟨n, rfl⟩ := Int.eq_ofNat_of_zero_le (show 0 ≤ n by omega)
    obtain ⟨m, rfl⟩ := Int.eq_ofNat_of_zero_le (show 0 ≤ m by omega)
    obtain ⟨k, rfl⟩ := Int.eq_ofNat_of_zero_le (show 0 ≤ k by omega)
    rw [mt_nat hs]
    have HSt := Lib.hid (fun w => implStandard_c P n m k w)
    have H2 : Hid (stdCode P n m k = 0) := Lib.hid (by simp [stdCode, hs])
    have H3 : Hid (∀ x, stdZ P n m k x = x) := Lib.hid (fun x => by simp [stdZ, hs])
    have H4 : Hid (stdQs P n m k = stdA m k n) := Lib.hid (by simp [stdQs, hs])
    have hsc := std_scheme s0 (show 1 ≤ n ∧ n ≤ 3 by omega) (show 1 ≤ m ∧ m ≤ 3 by omega) (show 1 ≤ k ∧ k ≤ 3 by omega)
    have hl30 := schemeB_len hsc
    have HO := Lib.hid (fun A cap w hr => implTos_y P n m k A cap (stdA m k n) w hr (by omega) hsc)
    have HBy := Lib.hid (stdA_bytes m k n)
    rw [← H4.out] at HBy
    clear hs s0 s1 s2 s3 hsc hl30
    go_enter Try.func23, Try.ntmps23
    go_wp2_with (refine wpList_abs1 ?_; intro W hsz hB h1; have z0 : W.heap.size = w.heap.size + 1 := hsz; clear hsz)
    refine (HSt.out _).mono ?_
    rintro e w1 ⟨v, rfl, ho, b1⟩
    obtain ⟨A5, c5, rfl, hrd⟩ := ho.rd HBy.out
    rw [H2.out, H3.out, H3.out, H3.out, H3.out, H4.out]
    rw [H4.out] at hrd
    generalize stdA m k n = qs at *
    replace hB := below_after hB b1
    replace h1 := h1.after b1
    have z1 : w.heap.size + 1 ≤ w1.heap.size := by have := b1.size; omega
    have hoff := ho.new_ne_s
    clear b1 z0
    go_wp2_with (first | (refine wpList_abs1 ?_; intro W2 hsz2 hB2 h3; have z3 : W2.heap.size = w1.heap.size + 1 := hsz2; replace h1 := h1.after hB2; replace ho := ho.below hB2; replace hB := below_after hB hB2; clear hsz2 hB2) | (refine wpList_store_all rfl 40 _ _ rfl rfl w1.heap.size rfl _ rfl _ _ h3 5 (by kernel_rfl) rfl rfl (by simp [Value.oneCell']) ?_; intro W3 p3; replace h1 := p3.other h1 (by omega); replace ho := ho.put p3 hoff; replace hB := p3.below hB (by omega); replace h3 := p3.at_; clear p3) | (refine wpList_load_all rfl 40 _ rfl w1.heap.size rfl _ _ _ h3 Try.underlying40 rfl 5 (by kernel_rfl) rfl ?_))
    rw [H4.out] at ho HBy
    refine (HO.out A5 c5 _ (ho.rd' HBy.out)).mono ?_
    rintro e w4 ⟨v, rfl, hoI, b4⟩
    obtain ⟨A6, c6, rfl, _⟩ := hoI.rd
    replace hB := below_after hB b4
    replace h1 := h1.after b4
    have z4 := h3.lt
    go_wp2_with (refine wpList_store_all rfl 26 _ _ rfl rfl w.heap.size rfl _ rfl _ _ h1 5 (by kernel_rfl) rfl rfl (by simp [Value.oneCell']) ?_; intro w7 p7)
    refine bodyPost_ret (results_at2 rfl _ _ w.heap.size _ _ _ rfl _ rfl p7.at_ Try.underlying26 rfl 5 (by kernel_rfl) rfl) rfl ?_
    exact ⟨_, rfl, (hoI.put p7 (fun e => by have := (hoI.lt e.symm).1; omega)).mono (by omega), p7.below hB (by omega)⟩
end Go.Proofs.Ytcmpeoijedddjaa
