/-
  spec.TensorOfScheme and impl.TensorOfScheme, at every argument.
-/
import Derived.Test.YtcmpeoijedddjaaTos2
namespace Go.Proofs.Ytcmpeoijedddjaa
open Go.RowKit
set_option maxRecDepth 100000
def tosCode (p n m k : Int) (qs : List (List Nat)) : Int := if schemeB p n m k qs = true then 0 else 1
def tosZ (p n m k : Int) (qs : List (List Nat)) (x : Int) : Int := if schemeB p n m k qs = true then x else 0
def tosR (p n m k : Int) (qs : List (List Nat)) : List Int := if schemeB p n m k qs = true then tosL p (n * m).toNat (m * k).toNat (n * k).toNat qs else []
theorem tosR_len (p n m k : Int) (qs : List (List Nat)) : (tosR p n m k qs).length ≤ 1048576 := by
  unfold tosR
  split
  · rename_i hs
    obtain ⟨_, s1, s2, s3⟩ := sizesB_parts (schemeB_sizes hs)
    simp only [sizeB, Bool.and_eq_true, decide_eq_true_eq] at s1 s2 s3
    have a1 := mul_bounds s1.1 s1.2 s2.1 s2.2
    have a2 := mul_bounds s2.1 s2.2 s3.1 s3.2
    have a3 := mul_bounds s1.1 s1.2 s3.1 s3.2
    rw [tosL_len]
    have := places_729 (n0 := (n * m).toNat) (n1 := (m * k).toNat) (n2 := (n * k).toNat) (by omega) (by omega) (by omega)
    omega
  · simp
theorem tos_nat (a b : Nat) : ((a : Int) * (b : Int)).toNat = a * b := by rw [← Int.natCast_mul, Int.toNat_natCast]
set_option maxHeartbeats 800000 in
theorem implTos_no (p n m k : Int) (A : Option Addr) (cap : Nat) (qs : List (List Nat)) (w : World) (hr : Rd w A qs) (hlen : qs.length ≤ 1048576) (hs : schemeB p n m k qs = false) :
    Calls Try.prog 19 #[.agg #[.int .i64 p, .int .i64 n, .int .i64 m, .int .i64 k, .slice A qs.length cap]] w (ResT w (tosZ p n m k qs p) (tosZ p n m k qs (n * m)) (tosZ p n m k qs (m * k)) (tosZ p n m k qs (n * k)) (tosR p n m k qs) (tosCode p n m k qs)) := by
  have Hc : Hid (tosCode p n m k qs = 1) := Lib.hid (by simp [tosCode, hs])
  have Hz : Hid (∀ x, tosZ p n m k qs x = 0) := Lib.hid (fun x => by simp [tosZ, hs])
  have Hr : Hid (tosR p n m k qs = []) := Lib.hid (by simp [tosR, hs])
  have HI := Lib.hid (fun w' (hb : Below w.heap.size w w') => implIsScheme_c p n m k A cap qs w' (hr.keep hb) hlen)
  rw [hs] at HI
  clear hs hr
  go_enter Try.func19, Try.ntmps19
  go_wp2_with (first | (refine wpList_abs2 ?_; intro W hsz hB h0 h1; have z0 : W.heap.size = w.heap.size + 1 + 1 := hsz; clear hsz) | (refine wpList_load_all rfl 40 _ rfl w.heap.size rfl _ _ _ h0 Try.underlying40 rfl 5 (by kernel_rfl) rfl ?_))
  refine (HI.out _ hB).mono ?_
  rintro e w1 ⟨rfl, b1⟩
  replace hB := below_after hB b1
  replace h1 := h1.after b1
  go_wp2_with (refine wpList_store_all rfl 26 _ _ rfl rfl (w.heap.size + 1) rfl #[.int .i64 0, .int .i64 0, .int .i64 0, .int .i64 0, .slice none 0 0] rfl _ _ h1 5 (by kernel_rfl) rfl rfl (by simp [Value.oneCell']) ?_; intro w7 p7)
  refine bodyPost_ret (results_at2 rfl _ _ (w.heap.size + 1) _ _ _ rfl _ rfl p7.at_ Try.underlying26 rfl 5 (by kernel_rfl) rfl) rfl ?_
  exact ⟨.slice none 0 0, by rw [Hz.out, Hz.out, Hz.out, Hz.out, Hc.out]; rfl, by rw [Hr.out]; exact OwnI.nil _ _, p7.below hB (by omega)⟩
set_option maxHeartbeats 800000 in
theorem specTos_no (p n m k : Int) (A : Option Addr) (cap : Nat) (qs : List (List Nat)) (w : World) (hr : Rd w A qs) (hlen : qs.length ≤ 1048576) (hs : schemeB p n m k qs = false) :
    Calls Try.prog 17 #[.agg #[.int .i64 p, .int .i64 n, .int .i64 m, .int .i64 k, .slice A qs.length cap]] w (ResT w (tosZ p n m k qs p) (tosZ p n m k qs (n * m)) (tosZ p n m k qs (m * k)) (tosZ p n m k qs (n * k)) (tosR p n m k qs) (tosCode p n m k qs)) := by
  have Hc : Hid (tosCode p n m k qs = 1) := Lib.hid (by simp [tosCode, hs])
  have Hz : Hid (∀ x, tosZ p n m k qs x = 0) := Lib.hid (fun x => by simp [tosZ, hs])
  have Hr : Hid (tosR p n m k qs = []) := Lib.hid (by simp [tosR, hs])
  have HI := Lib.hid (fun w' (hb : Below w.heap.size w w') => l01Is_c p n m k A cap qs w' (hr.keep hb) hlen)
  rw [hs] at HI
  clear hs hr
  go_enter Try.func17, Try.ntmps17
  go_wp2_with (first | (refine wpList_abs2 ?_; intro W hsz hB h0 h1; have z0 : W.heap.size = w.heap.size + 1 + 1 := hsz; clear hsz) | (refine wpList_load_all rfl 40 _ rfl w.heap.size rfl _ _ _ h0 Try.underlying40 rfl 5 (by kernel_rfl) rfl ?_))
  refine (HI.out _ hB).mono ?_
  rintro e w1 ⟨rfl, b1⟩
  replace hB := below_after hB b1
  replace h1 := h1.after b1
  go_wp2_with (refine wpList_store_all rfl 26 _ _ rfl rfl (w.heap.size + 1) rfl #[.int .i64 0, .int .i64 0, .int .i64 0, .int .i64 0, .slice none 0 0] rfl _ _ h1 5 (by kernel_rfl) rfl rfl (by simp [Value.oneCell']) ?_; intro w7 p7)
  refine bodyPost_ret (results_at2 rfl _ _ (w.heap.size + 1) _ _ _ rfl _ rfl p7.at_ Try.underlying26 rfl 5 (by kernel_rfl) rfl) rfl ?_
  exact ⟨.slice none 0 0, by rw [Hz.out, Hz.out, Hz.out, Hz.out, Hc.out]; rfl, by rw [Hr.out]; exact OwnI.nil _ _, p7.below hB (by omega)⟩
set_option maxHeartbeats 800000 in
theorem specTos_y (P n m k : Nat) (A : Option Addr) (cap : Nat) (qs : List (List Nat)) (w : World) (hr : Rd w A qs) (hlen : qs.length ≤ 1048576) (hs : schemeB P n m k qs = true) (hP : 2 ≤ P ∧ P ≤ 5) (hn : 1 ≤ n ∧ n ≤ 3) (hm : 1 ≤ m ∧ m ≤ 3) (hk : 1 ≤ k ∧ k ≤ 3) :
    Calls Try.prog 17 #[.agg #[.int .i64 P, .int .i64 n, .int .i64 m, .int .i64 k, .slice A qs.length cap]] w (ResT w P (n * m : Nat) (m * k : Nat) (n * k : Nat) (tosL P (n * m) (m * k) (n * k) qs) 0) := by
  have HI := Lib.hid (fun w' (hb : Below w.heap.size w w') => l01Is_c P n m k A cap qs w' (hr.keep hb) hlen)
  have HO := Lib.hid (fun w' (hb : Below w.heap.size w w') => l05Of_c P n m k A cap qs w' (hr.keep hb) (schemeB_len hs) hP hn hm hk)
  rw [hs] at HI
  clear hs hr
  go_enter Try.func17, Try.ntmps17
  go_wp2_with (first | (refine wpList_abs2 ?_; intro W hsz hB h0 h1; have z0 : W.heap.size = w.heap.size + 1 + 1 := hsz; clear hsz) | (refine wpList_load_all rfl 40 _ rfl w.heap.size rfl _ _ _ h0 Try.underlying40 rfl 5 (by kernel_rfl) rfl ?_))
  refine (HI.out _ hB).mono ?_
  rintro e w1 ⟨rfl, b1⟩
  replace hB := below_after hB b1
  replace h0 := h0.after b1
  replace h1 := h1.after b1
  have z1 : w.heap.size + 1 + 1 ≤ w1.heap.size := by have := b1.size; omega
  clear b1
  go_wp2_with (refine wpList_load_all rfl 40 _ rfl w.heap.size rfl _ _ _ h0 Try.underlying40 rfl 5 (by kernel_rfl) rfl ?_)
  refine (HO.out _ hB).mono ?_
  rintro e w2 ⟨v, rfl, ho, b2⟩
  obtain ⟨A5, c5, rfl, _⟩ := ho.rd
  replace hB := below_after hB b2
  replace h1 := h1.after b2
  go_wp2_with (refine wpList_store_all rfl 26 _ _ rfl rfl (w.heap.size + 1) rfl _ rfl _ _ h1 5 (by kernel_rfl) rfl rfl (by simp [Value.oneCell']) ?_; intro w7 p7)
  refine bodyPost_ret (results_at2 rfl _ _ (w.heap.size + 1) _ _ _ rfl _ rfl p7.at_ Try.underlying26 rfl 5 (by kernel_rfl) rfl) rfl ?_
  exact ⟨_, rfl, (ho.put p7 (fun e => by have := (ho.lt e.symm).1; omega)).mono (by omega), p7.below hB (by omega)⟩
theorem specTensorOfScheme_c (p n m k : Int) (A : Option Addr) (cap : Nat) (qs : List (List Nat)) (w : World) (hr : Rd w A qs) (hlen : qs.length ≤ 1048576) :
    Calls Try.prog 17 #[.agg #[.int .i64 p, .int .i64 n, .int .i64 m, .int .i64 k, .slice A qs.length cap]] w (ResT w (tosZ p n m k qs p) (tosZ p n m k qs (n * m)) (tosZ p n m k qs (m * k)) (tosZ p n m k qs (n * k)) (tosR p n m k qs) (tosCode p n m k qs)) := by
  cases hs : schemeB p n m k qs with
  | false => exact specTos_no p n m k A cap qs w hr hlen hs
  | true =>
    obtain ⟨s0, s1, s2, s3⟩ := sizesB_parts (schemeB_sizes hs)
    have hpp := prime_le5 s0
    have hn : 1 ≤ n ∧ n ≤ 3 := by simp only [sizeB, Bool.and_eq_true, decide_eq_true_eq] at s1; omega
    have hm : 1 ≤ m ∧ m ≤ 3 := by simp only [sizeB, Bool.and_eq_true, decide_eq_true_eq] at s2; omega
    have hk : 1 ≤ k ∧ k ≤ 3 := by simp only [sizeB, Bool.and_eq_true, decide_eq_true_eq] at s3; omega
    obtain ⟨P, rfl⟩ := Int.eq_ofNat_of_zero_le (show 0 ≤ p by omega)
    obtain ⟨n, rfl⟩ := Int.eq_ofNat_of_zero_le (show 0 ≤ n by omega)
    obtain ⟨m, rfl⟩ := Int.eq_ofNat_of_zero_le (show 0 ≤ m by omega)
    obtain ⟨k, rfl⟩ := Int.eq_ofNat_of_zero_le (show 0 ≤ k by omega)
    have h := specTos_y P n m k A cap qs w hr hlen hs (by omega) (by omega) (by omega) (by omega)
    have e : ResT w (tosZ P n m k qs P) (tosZ P n m k qs ((n : Int) * m)) (tosZ P n m k qs ((m : Int) * k)) (tosZ P n m k qs ((n : Int) * k)) (tosR P n m k qs) (tosCode P n m k qs) = ResT w P (n * m : Nat) (m * k : Nat) (n * k : Nat) (tosL P (n * m) (m * k) (n * k) qs) 0 := by
      simp only [tosZ, tosR, tosCode, hs, if_true, tos_nat, Int.natCast_mul]
    rw [e]
    exact h
theorem implTensorOfScheme_c (p n m k : Int) (A : Option Addr) (cap : Nat) (qs : List (List Nat)) (w : World) (hr : Rd w A qs) (hlen : qs.length ≤ 1048576) :
    Calls Try.prog 19 #[.agg #[.int .i64 p, .int .i64 n, .int .i64 m, .int .i64 k, .slice A qs.length cap]] w (ResT w (tosZ p n m k qs p) (tosZ p n m k qs (n * m)) (tosZ p n m k qs (m * k)) (tosZ p n m k qs (n * k)) (tosR p n m k qs) (tosCode p n m k qs)) := by
  cases hs : schemeB p n m k qs with
  | false => exact implTos_no p n m k A cap qs w hr hlen hs
  | true =>
    obtain ⟨s0, s1, s2, s3⟩ := sizesB_parts (schemeB_sizes hs)
    have hpp := prime_le5 s0
    have hn : 1 ≤ n ∧ n ≤ 3 := by simp only [sizeB, Bool.and_eq_true, decide_eq_true_eq] at s1; omega
    have hm : 1 ≤ m ∧ m ≤ 3 := by simp only [sizeB, Bool.and_eq_true, decide_eq_true_eq] at s2; omega
    have hk : 1 ≤ k ∧ k ≤ 3 := by simp only [sizeB, Bool.and_eq_true, decide_eq_true_eq] at s3; omega
    obtain ⟨P, rfl⟩ := Int.eq_ofNat_of_zero_le (show 0 ≤ p by omega)
    obtain ⟨n, rfl⟩ := Int.eq_ofNat_of_zero_le (show 0 ≤ n by omega)
    obtain ⟨m, rfl⟩ := Int.eq_ofNat_of_zero_le (show 0 ≤ m by omega)
    obtain ⟨k, rfl⟩ := Int.eq_ofNat_of_zero_le (show 0 ≤ k by omega)
    have h := implTos_y P n m k A cap qs w hr hlen hs
    have e : ResT w (tosZ P n m k qs P) (tosZ P n m k qs ((n : Int) * m)) (tosZ P n m k qs ((m : Int) * k)) (tosZ P n m k qs ((n : Int) * k)) (tosR P n m k qs) (tosCode P n m k qs) = ResT w P (n * m : Nat) (m * k : Nat) (n * k : Nat) (tosL P (n * m) (m * k) (n * k) qs) 0 := by
      simp only [tosZ, tosR, tosCode, hs, if_true, tos_nat, Int.natCast_mul]
    rw [e]
    exact h
end Go.Proofs.Ytcmpeoijedddjaa
