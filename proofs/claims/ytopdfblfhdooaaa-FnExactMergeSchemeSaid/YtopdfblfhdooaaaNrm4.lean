/-
  impl.addedForm, multipliedBy, subtractedForm, firstNumber, inverseOf.
-/
import Derived.Test.YtopdfblfhdooaaaNrm0
namespace Go.Proofs.Ytopdfblfhdooaaa
open Go.RowKit
set_option maxRecDepth 100000
def AddRelI (w : World) (p k : Int) (f g : List Nat) (j : Nat) (wr : World) : Prop :=
  Below w.heap.size w wr ∧ At wr w.heap.size (.cells (u8s (mixF (adF p k f g) f j)) 51 (0, 0)) ∧ At wr (w.heap.size + 1 + 1) (.cells (u8s (List.replicate 9 0)) 51 (0, 0))
set_option maxHeartbeats 1600000 in
theorem addedForm_c (p k : Int) (f g : List Nat) (hf : Bytes 9 f) (hg : Bytes 9 g) (w : World) (hp : 0 < p) (hp5 : p ≤ 5) (hk : 0 ≤ k) (hk' : k ≤ 1000) :
    Calls Try.prog 90 #[.int .i64 p, .agg (u8s f), .int .i64 k, .agg (u8s g)] w fun e w' => e = .returned (.agg (u8s (adF p k f g))) ∧ Below w.heap.size w w' := by
  have hlen := adF_len p k f g
  go_enter Try.func90, Try.ntmps90
  go_wp2_with (refine wpList_load_all rfl 51 _ rfl (w.heap.size + 1) rfl _ _ _ (al3_1 _ _ _ _) Try.underlying51 rfl 9 (by kernel_rfl) ((u8s_size _).trans hg.len) ?_)
  go_loopw [12] (fun i wr => ∃ j : Nat, j ≤ 9 ∧ i = .int .i64 j ∧ AddRelI w p k f g j wr) (fun i _ => 9 - (intOf i).toNat)
  case atStart => exact ⟨0, by omega, rfl, below3 _ _ _ _, by rw [mixF_zero]; exact al3_0 _ _ _ _, al3_2 _ _ _ _⟩
  case round =>
    obtain ⟨j, hj, rfl, hB, h0, h2⟩ := hrel
    by_cases hlt : j < 9
    · have f0 : IntKind.i64.wrap ((j : Int) + 1) = (j : Int) + 1 := IntWalk.i64_in _ (by omega)
      have hm := mixF_len hlen hf.len (show j ≤ 9 by omega)
      have c0 := h0.cell (i := j) (by rw [hm]; exact hlt)
      rw [mixF_get hlen (Nat.le_refl _) (by omega)] at c0
      have z0 := h0.free j
      have hx := hf.lt j
      have hy := hg.lt j
      have hv := adF_get p k f g hlt
      have P := Put.set (i := j) h0 (ad1 p k (f[j]?.getD 0) (g[j]?.getD 0))
      rw [← hv, mixF_set hlen hf.len hlt, hv] at P
      have HI := fun (o : Oper) (a : Act) (w : World) (x i : Operand) (ho : o.op = .index 51 x i) (hx : a.eval x = .agg (u8s g)) (hi : a.eval i = .int .i64 j) => exec_index_u8s (P := Try.prog) (o := o) (a := a) (w := w) 51 5 x i ho 9 j g hx hi Try.underlying51 Try.underlying5 (by kernel_rfl) hg.len hlt
      generalize f[j]?.getD 0 = x at *
      generalize g[j]?.getD 0 = y at *
      have ha := ad1_lt k x y hp hp5
      have hc := Lib.hid (ad1_cast k x y hp)
      have HII := Lib.hid HI
      clear hv hm HI
      have m0 : 0 ≤ k * (y : Int) := Int.mul_nonneg hk (by omega)
      have m1 : k * (y : Int) ≤ 256000 := by
        have a1 : k * (y : Int) ≤ 1000 * (y : Int) := Int.mul_le_mul_of_nonneg_right hk' (by omega)
        omega
      have e1 : IntKind.i64.wrap (k * (y : Int)) = k * (y : Int) := IntWalk.i64_in _ (by omega)
      have e2 : IntKind.i64.wrap ((x : Int) + k * (y : Int)) = (x : Int) + k * (y : Int) := IntWalk.i64_in _ (by omega)
      have e3 : (p == 0) = false := by simp; omega
      go_wp2_with (refine wpList_of_exec rfl (HII.out _ _ _ _ _ rfl rfl rfl) ?_)
      go_roundw
      case rel =>
        refine ⟨j + 1, by omega, by go_num, ?_⟩
        have e5 : ((x : Int) + k * (y : Int)) % p % 256 = ((ad1 p k x y : Nat) : Int) := by rw [← hc.out]; omega
        rw [e5]
        exact ⟨P.below hB (Nat.le_refl _), P.at_, P.other h2 (by omega)⟩
      case measure => simp [intOf]; omega
    · obtain rfl : j = 9 := by omega
      rw [mixF_all hlen hf.len] at h0
      go_wp2_with (first | (refine wpList_load_all rfl 51 _ rfl w.heap.size rfl _ _ _ h0 Try.underlying51 rfl 9 (by kernel_rfl) ((u8s_size _).trans hlen) ?_) | (refine wpList_store_all rfl 51 _ _ rfl rfl (w.heap.size + 1 + 1) rfl _ rfl _ _ h2 9 (by kernel_rfl) ((u8s_size _).trans hlen) (by simp [u8s]) (u8s_one _) ?_; intro w3 p3))
      refine bodyPost_ret (results_at rfl _ _ (w.heap.size + 1 + 1) _ _ _ rfl p3.at_ Try.underlying51 rfl 9 (by kernel_rfl) ((u8s_size _).trans hlen)) rfl ?_
      exact ⟨rfl, p3.below hB (by omega)⟩
theorem lead_at {f : List Nat} : ∀ n k, leadAt f k n ≠ 0 → ∃ i, k ≤ i ∧ i < k + n ∧ (∀ j, k ≤ j → j < i → f[j]?.getD 0 = 0) ∧ f[i]?.getD 0 = leadAt f k n
  | 0, k, h => by simp [leadAt] at h
  | n + 1, k, h => by
    simp only [leadAt] at h ⊢
    split at h
    · rename_i hz
      obtain ⟨i, h1, h2, h3, h4⟩ := lead_at n (k + 1) h
      refine ⟨i, by omega, by omega, fun j hj hji => ?_, by rw [if_pos hz]; exact h4⟩
      by_cases e : j = k
      · subst e; exact hz
      · exact h3 j (by omega) hji
    · rename_i hz
      exact ⟨k, Nat.le_refl _, by omega, fun j h1 h2 => by omega, by rw [if_neg hz]⟩
def powm (p a : Int) : Nat → Int
  | 0 => 1
  | t + 1 => powm p a t * a % p
theorem powm_in {p a : Int} (hp : 1 < p) : ∀ t, 0 ≤ powm p a t ∧ powm p a t < p
  | 0 => ⟨by simp [powm], by simp [powm]; omega⟩
  | t + 1 => ⟨Int.emod_nonneg _ (by omega), Int.emod_lt_of_pos _ (by omega)⟩
theorem powm_inv {p a : Int} (hp : primeB p = true) (ha : 1 ≤ a) (hap : a < p) : powm p a (p - 2).toNat = inv p a := by
  rcases inv_cases hp ha hap with ⟨rfl, rfl, h3⟩ | ⟨rfl, rfl, h3⟩ | ⟨rfl, rfl, h3⟩ | ⟨rfl, rfl, h3⟩ | ⟨rfl, rfl, h3⟩ | ⟨rfl, rfl, h3⟩ | ⟨rfl, rfl, h3⟩ <;> decide
end Go.Proofs.Ytopdfblfhdooaaa
