/-
  A form plus a multiple of another: the plain function; spec.l01Mod, l01Add, l01Scale.
-/
import Derived.Test.YtebmkmkhfhmfbaaLK1
import Derived.Test.YtebmkmkhfhmfbaaHeld
import Derived.IntWalk
import Derived.Deep.RegionWith
namespace Go.Proofs.Ytebmkmkhfhmfbaa
open Go.RowKit
set_option maxRecDepth 100000
def ad1 (p k : Int) (x y : Nat) : Nat := (((x : Int) + k * (y : Int)) % p).toNat
def adF (p k : Int) (f g : List Nat) : List Nat := (List.range 9).map fun i => ad1 p k (f[i]?.getD 0) (g[i]?.getD 0)
theorem ad1_lt {p : Int} (k : Int) (x y : Nat) (hp : 0 < p) (hp5 : p ≤ 5) : ad1 p k x y < 5 := by
  have h1 := Int.emod_lt_of_pos ((x : Int) + k * (y : Int)) hp
  have h2 := Int.emod_nonneg ((x : Int) + k * (y : Int)) (show p ≠ 0 by omega)
  unfold ad1
  omega
theorem ad1_cast {p : Int} (k : Int) (x y : Nat) (hp : 0 < p) : ((ad1 p k x y : Nat) : Int) = ((x : Int) + k * (y : Int)) % p := by
  have h2 := Int.emod_nonneg ((x : Int) + k * (y : Int)) (show p ≠ 0 by omega)
  unfold ad1
  omega
theorem adF_len (p k : Int) (f g : List Nat) : (adF p k f g).length = 9 := by simp [adF]
theorem adF_get (p k : Int) (f g : List Nat) {i : Nat} (hi : i < 9) : (adF p k f g)[i]?.getD 0 = ad1 p k (f[i]?.getD 0) (g[i]?.getD 0) := by simp [adF, hi]
theorem adF_bytes {p : Int} (k : Int) (f g : List Nat) (hp : 0 < p) (hp5 : p ≤ 5) : Bytes 9 (adF p k f g) := by
  refine ⟨adF_len _ _ _ _, fun n hn => ?_⟩
  simp only [adF, List.mem_map, List.mem_range] at hn
  obtain ⟨i, _, rfl⟩ := hn
  have := ad1_lt k (f[i]?.getD 0) (g[i]?.getD 0) hp hp5
  omega
/-- The first 'k' places of 'r', those of 'f' behind. -/
def mixF (r f : List Nat) (k : Nat) : List Nat := r.take k ++ f.drop k
theorem mixF_zero (r f : List Nat) : mixF r f 0 = f := by simp [mixF]
theorem mixF_all {r f : List Nat} (hr : r.length = 9) (hf : f.length = 9) : mixF r f 9 = r := by simp [mixF, ← hr, List.drop_of_length_le (show f.length ≤ r.length by omega)]
theorem mixF_len {r f : List Nat} {k : Nat} (hr : r.length = 9) (hf : f.length = 9) (hk : k ≤ 9) : (mixF r f k).length = 9 := by simp [mixF, hr, hf]; omega
theorem mixF_get {r f : List Nat} {k i : Nat} (hr : r.length = 9) (hk : k ≤ i) (hk9 : k ≤ 9) : (mixF r f k)[i]?.getD 0 = f[i]?.getD 0 := by
  unfold mixF
  rw [List.getElem?_append_right (by simp [hr]; omega)]
  have : (r.take k).length = k := by simp [hr]; omega
  rw [this, List.getElem?_drop, show k + (i - k) = i by omega]
theorem mixF_set {r f : List Nat} {k : Nat} (hr : r.length = 9) (hf : f.length = 9) (hk : k < 9) : (mixF r f k).set k (r[k]?.getD 0) = mixF r f (k + 1) := by
  have hl : (r.take k).length = k := by simp [hr]; omega
  unfold mixF
  rw [List.set_append_right _ _ (by omega), hl, Nat.sub_self, List.drop_eq_getElem_cons (by omega), List.set_cons_zero, List.take_succ_eq_append_getElem (by omega), List.append_assoc]
  simp [show k < r.length by omega]
theorem tmod_bounds (x : Int) {p : Int} (hp : 0 < p) : -p < x.tmod p ∧ x.tmod p < p ∧ (x.tmod p = x % p ∨ x.tmod p = x % p - p) := by
  have ht := Int.tmod_eq_emod (a := x) (b := p)
  have h1 := Int.emod_nonneg x (show p ≠ 0 by omega)
  have h2 := Int.emod_lt_of_pos x hp
  have hn : ((p.natAbs : Nat) : Int) = p := by omega
  by_cases h : 0 ≤ x ∨ p ∣ x
  · rw [if_pos h] at ht
    omega
  · rw [if_neg h, hn] at ht
    have h3 : x % p ≠ 0 := fun e => h (.inr (Int.dvd_of_emod_eq_zero e))
    omega
theorem mod_fix {p x : Int} (hp : 0 < p) : (x.tmod p + p) % p = x % p := by
  rcases (tmod_bounds x hp).2.2 with h | h
  · rw [h, Int.add_emod_right, Int.emod_emod]
  · rw [h, Int.sub_add_cancel, Int.emod_emod]
theorem ret_i64 {a b : Int} (h : a = b) : Ending.returned (.int .i64 a) = .returned (.int .i64 b) := by rw [h]
set_option maxHeartbeats 400000 in
theorem l01Mod_c (p x : Int) (w : World) (hp : 0 < p) (hp5 : p ≤ 5) :
    Calls Try.prog 46 #[.int .i64 p, .int .i64 x] w fun e w' => e = .returned (.int .i64 (x % p)) ∧ w = w' := by
  obtain ⟨h2, h1, _⟩ := tmod_bounds x hp
  have H := Lib.hid (mod_fix (x := x) hp)
  have e0 : (p == 0) = false := by simp; omega
  go_enter Try.func46, Try.ntmps46
  go_wp2_with fail
  go_ret
  exact ⟨ret_i64 H.out, rfl⟩
def AddRel (w : World) (p k : Int) (f g : List Nat) (j : Nat) (wr : World) : Prop :=
  Below w.heap.size w wr ∧ At wr w.heap.size (.cells (u8s (mixF (adF p k f g) f j)) 45 (0, 0)) ∧ At wr (w.heap.size + 1) (.cells (u8s g) 45 (0, 0)) ∧ At wr (w.heap.size + 1 + 1) (.cells (u8s (List.replicate 9 0)) 45 (0, 0))
def scF (p k : Int) (f : List Nat) : List Nat := adF p k (List.replicate 9 0) f
end Go.Proofs.Ytebmkmkhfhmfbaa
