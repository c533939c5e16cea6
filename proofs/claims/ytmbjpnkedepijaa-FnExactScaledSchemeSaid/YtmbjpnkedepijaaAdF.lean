/-
  A form plus a multiple of another: the plain function; spec.l01Mod, l01Add, l01Scale.
-/
import Derived.Test.YtmbjpnkedepijaaLK1
import Derived.Test.YtmbjpnkedepijaaHeld
import Derived.IntWalk
import Derived.Deep.RegionWith
namespace Go.Proofs.Ytmbjpnkedepijaa
open Go.RowKit
set_option maxRecDepth 100000
def ad1 (p k : Int) (x y : Nat) : Nat := (((x : Int) + k * (y : Int)) % p).toNat
def adF (p k : Int) (f g : List Nat) : List Nat := (List.range 9).map fun i => ad1 p k (f[i]?.getD 0) (g[i]?.getD 0)
theorem ad1_lt {p : Int} (k : Int) (x y : Nat) (hp : 0 < p) (hp5 : p ≤ 5) : ad1 p k x y < 5 := by
  have h1 := Int.emod_lt_of_pos ((x : Int) + k * (y : Int)) hp
  have h2 := Int.emod_nonneg ((x : Int) + k * (y : Int)) (show p ≠ 0 by omega)
  unfold ad1
  omega
theorem ad1_cast {p : Int} (k : Int) (x y : Nat) (hp : 0 < p) : ((ad1 p k x y : Nat) : Int) = ((x : Int) + k * (y : Int)) % p := by
  have h2 := Int.emod_nonneg ((x : Int) + k * (y : Int)) (show p ≠ 0 by omega)
  unfold ad1
  omega
theorem adF_len (p k : Int) (f g : List Nat) : (adF p k f g).length = 9 := by simp [adF]
theorem adF_get (p k : Int) (f g : List Nat) {i : Nat} (hi : i < 9) : (adF p k f g)[i]?.getD 0 = ad1 p k (f[i]?.getD 0) (g[i]?.getD 0) := by simp [adF, hi]
theorem adF_bytes {p : Int} (k : Int) (f g : List Nat) (hp : 0 < p) (hp5 : p ≤ 5) : Bytes 9 (adF p k f g) := by
  refine ⟨adF_len _ _ _ _, fun n hn => ?_⟩
  simp only [adF, List.mem_map, List.mem_range] at hn
  obtain ⟨i, _, rfl⟩ := hn
  have := ad1_lt k (f[i]?.getD 0) (g[i]?.getD 0) hp hp5
  omega
/-- The first 'k' places of 'r', those of 'f' behind. -/
def mixF (r f : List Nat) (k : Nat) : List Nat := r.take k ++ f.drop k
theorem mixF_zero (r f : List Nat) : mixF r f 0 = f := by simp [mixF]
theorem mixF_all {r f : List Nat} (hr : r.length = 9) (hf : f.length = 9) : mixF r f 9 = r := by simp [mixF, ← hr, List.drop_of_length_le (show f.length ≤ r.length by omega)]
theorem mixF_len {r f : List Nat} {k : Nat} (hr : r.length = 9) (hf : f.length = 9) (hk : k ≤ 9) : (mixF r f k).length = 9 := by simp [mixF, hr, hf]; omega
theorem mixF_get {r f : List Nat} {k i : Nat} (hr : r.length = 9) (hk : k ≤ i) (hk9 : k ≤ 9) : (mixF r f k)[i]?.getD 0 = f[i]?.getD 0 := by
  unfold mixF
  rw [List.getElem?_append_right (by simp [hr]; omega)]
  have : (r.take k).length = k := by simp [hr]; omega
  rw [this, List.getElem?_drop, show k + (i - k) = i by omega]
theorem mixF_set {r f : List Nat} {k : Nat} (hr : r.length = 9) (hf : f.length = 9) (hk : k < 9) : (mixF r f k).set k (r[k]?.getD 0) = mixF r f (k + 1) := by
  have hl : (r.take k).length = k := by simp [hr]; omega
  unfold mixF
  rw [List.set_append_right _ _ (by omega), hl, Nat.sub_self, List.drop_eq_getElem_cons (by omega), List.set_cons_zero, List.take_succ_eq_append_getElem (by omega), List.append_assoc]
  simp [show k < r.length by omega]
theorem tmod_bounds (x : Int) {p : Int} (hp : 0 < p) : -p < x.tmod p ∧ x.tmod p < p ∧ (x.tmod p = x % p ∨ x.tmod p = x % p - p) := by
  have ht := Int.tmod_eq_emod (a := x) (b := p)
  have h1 := Int.emod_nonneg x (show p ≠ 0 by omega)
  have h2 := Int.emod_lt_of_pos x hp
  have hn : ((p.natAbs : Nat) : Int) = p := by omega
  by_cases h : 0 ≤ x ∨ p ∣ x
  · rw [if_pos h] at ht
    omega
  · rw [if_neg h, hn] at ht
    have h3 : x % p ≠ 0 := fun e => h (.inr (Int.dvd_of_emod_eq_zero e))
    omega
theorem mod_fix {p x : Int} (hp : 0 < p) : (x.tmod p + p) % p = x % p := by
  rcases (tmod_bounds x hp).2.2 with h | h
  · rw [h, Int.add_emod_right, Int.emod_emod]
  · rw [h, Int.sub_add_cancel, Int.emod_emod]
theorem ret_i64 {a b : Int} (h : a = b) : Ending.returned (.int .i64 a) = .returned (.int .i64 b) := by rw [h]
set_option maxHeartbeats 400000 in
theorem l01Mod_c (p x : Int) (w : World) (hp : 0 < p) (hp5 : p ≤ 5) :
    Calls Try.prog 43 #[.int .i64 p, .int .i64 x] w fun e w' => e = .returned (.int .i64 (x % p)) ∧ w = w' := by
  obtain ⟨h2, h1, _⟩ := tmod_bounds x hp
  have H := Lib.hid (mod_fix (x := x) hp)
  have e0 : (p == 0) = false := by simp; omega
  go_enter Try.func43, Try.ntmps43
  go_wp2_with fail
  go_ret
  exact ⟨ret_i64 H.out, rfl⟩
def AddRel (w : World) (p k : Int) (f g : List Nat) (j : Nat) (wr : World) : Prop :=
  Below w.heap.size w wr ∧ At wr w.heap.size (.cells (u8s (mixF (adF p k f g) f j)) 43 (0, 0)) ∧ At wr (w.heap.size + 1) (.cells (u8s g) 43 (0, 0)) ∧ At wr (w.heap.size + 1 + 1) (.cells (u8s (List.replicate 9 0)) 43 (0, 0))
set_option maxHeartbeats 1600000 in
theorem l01Add_c (p k : Int) (f g : List Nat) (hf : Bytes 9 f) (hg : Bytes 9 g) (w : World) (hp : 0 < p) (hp5 : p ≤ 5) (hk : -1000 ≤ k) (hk' : k ≤ 1000) :
    Calls Try.prog 42 #[.int .i64 p, .agg (u8s f), .agg (u8s g), .int .i64 k] w fun e w' => e = .returned (.agg (u8s (adF p k f g))) ∧ Below w.heap.size w w' := by
  have hlen := adF_len p k f g
  go_enter Try.func42, Try.ntmps42
  go_wp2_with fail
  go_loopw [9] (fun i wr => ∃ j : Nat, j ≤ 9 ∧ i = .int .i64 j ∧ AddRel w p k f g j wr) (fun i _ => 9 - (intOf i).toNat)
  case atStart => exact ⟨0, by omega, rfl, below3 _ _ _ _, by rw [mixF_zero]; exact al3_0 _ _ _ _, al3_1 _ _ _ _, al3_2 _ _ _ _⟩
  case round =>
    obtain ⟨j, hj, rfl, hB, h0, h1, h2⟩ := hrel
    by_cases hlt : j < 9
    · have f0 : IntKind.i64.wrap ((j : Int) + 1) = (j : Int) + 1 := IntWalk.i64_in _ (by omega)
      have hm := mixF_len hlen hf.len (show j ≤ 9 by omega)
      have c0 := h0.cell (i := j) (by rw [hm]; exact hlt)
      have c1 := h1.cell (i := j) (by rw [hg.len]; exact hlt)
      rw [mixF_get hlen (Nat.le_refl _) (by omega)] at c0
      have z0 := h0.free j
      have hx := hf.lt j
      have hy := hg.lt j
      have hv := adF_get p k f g hlt
      have P := Put.set (i := j) h0 (ad1 p k (f[j]?.getD 0) (g[j]?.getD 0))
      rw [← hv, mixF_set hlen hf.len hlt, hv] at P
      generalize f[j]?.getD 0 = x at *
      generalize g[j]?.getD 0 = y at *
      have ha := ad1_lt k x y hp hp5
      have hc := Lib.hid (ad1_cast k x y hp)
      clear hv hm
      have m1 : -256000 ≤ k * (y : Int) ∧ k * (y : Int) ≤ 256000 := by
        have a1 : k * (y : Int) ≤ 1000 * (y : Int) := Int.mul_le_mul_of_nonneg_right hk' (by omega)
        have a2 : -1000 * (y : Int) ≤ k * (y : Int) := Int.mul_le_mul_of_nonneg_right hk (by omega)
        omega
      have e1 : IntKind.i64.wrap (k * (y : Int)) = k * (y : Int) := IntWalk.i64_in _ (by omega)
      have e2 : IntKind.i64.wrap ((x : Int) + k * (y : Int)) = (x : Int) + k * (y : Int) := IntWalk.i64_in _ (by omega)
      go_wp2_with fail
      go_region_with (first | (go_at_call 43; refine (l01Mod_c p _ _ hp hp5).mono ?_; rintro e w' ⟨rfl, rfl⟩))
      all_goals
        go_wp2_with fail
        go_roundw
        case rel =>
          refine ⟨j + 1, by omega, by go_num, ?_⟩
          rw [← hc.out, show (((ad1 p k x y : Nat) : Int) % 256) = ((ad1 p k x y : Nat) : Int) by omega]
          exact ⟨(P.below hB (Nat.le_refl _)).drew, P.at_, P.other h1 (by omega), P.other h2 (by omega)⟩
        case measure => simp [intOf]; omega
    · obtain rfl : j = 9 := by omega
      rw [mixF_all hlen hf.len] at h0
      go_wp2_with (first | (refine wpList_load_all rfl 43 _ rfl w.heap.size rfl _ _ _ h0 Try.underlying43 rfl 9 (by kernel_rfl) ((u8s_size _).trans hlen) ?_) | (refine wpList_store_all rfl 43 _ _ rfl rfl (w.heap.size + 1 + 1) rfl _ rfl _ _ h2 9 (by kernel_rfl) ((u8s_size _).trans hlen) (by simp [u8s]) (u8s_one _) ?_; intro w3 p3))
      refine bodyPost_ret (results_at rfl _ _ (w.heap.size + 1 + 1) _ _ _ rfl p3.at_ Try.underlying43 rfl 9 (by kernel_rfl) ((u8s_size _).trans hlen)) rfl ?_
      exact ⟨rfl, p3.below hB (by omega)⟩
def scF (p k : Int) (f : List Nat) : List Nat := adF p k (List.replicate 9 0) f
set_option maxHeartbeats 400000 in
theorem l01Scale_c (p k : Int) (f : List Nat) (hf : Bytes 9 f) (w : World) (hp : 0 < p) (hp5 : p ≤ 5) (hk : -1000 ≤ k) (hk' : k ≤ 1000) :
    Calls Try.prog 25 #[.int .i64 p, .agg (u8s f), .int .i64 k] w fun e w' => e = .returned (.agg (u8s (scF p k f))) ∧ Below w.heap.size w w' := by
  have hlen : (scF p k f).length = 9 := adF_len _ _ _ _
  go_enter Try.func25, Try.ntmps25
  go_wp2_with (first | (refine wpList_abs2 ?_; intro W hsz hB h0 h1) | (refine wpList_load_all rfl 43 _ rfl w.heap.size rfl _ _ _ h0 Try.underlying43 rfl 9 (by kernel_rfl) ((u8s_size _).trans hf.len) ?_))
  refine (l01Add_c p k (List.replicate 9 0) f (Bytes.zeros 9) hf _ hp hp5 hk hk').mono ?_
  rintro e w1 ⟨rfl, b1⟩
  replace h1 := h1.after b1
  replace hB := below_after hB b1
  go_wp2_with (first | (refine wpList_store_all rfl 43 _ _ rfl rfl (w.heap.size + 1) rfl _ rfl _ _ h1 9 (by kernel_rfl) ((u8s_size _).trans hlen) (by simp) (u8s_one _) ?_; intro w3 p3))
  refine bodyPost_ret (results_at rfl _ _ (w.heap.size + 1) _ _ _ rfl p3.at_ Try.underlying43 rfl 9 (by kernel_rfl) ((u8s_size _).trans hlen)) rfl ?_
  exact ⟨rfl, p3.below hB (by omega)⟩
end Go.Proofs.Ytmbjpnkedepijaa
