/-
  impl.addedForm, multipliedBy, subtractedForm, firstNumber, inverseOf.
-/
import Derived.Test.YtmbjpnkedepijaaNrm0
namespace Go.Proofs.Ytmbjpnkedepijaa
open Go.RowKit
set_option maxRecDepth 100000
def AddRelI (w : World) (p k : Int) (f g : List Nat) (j : Nat) (wr : World) : Prop :=
  Below w.heap.size w wr ∧ At wr w.heap.size (.cells (u8s (mixF (adF p k f g) f j)) 43 (0, 0)) ∧ At wr (w.heap.size + 1 + 1) (.cells (u8s (List.replicate 9 0)) 43 (0, 0))
set_option maxHeartbeats 1600000 in
theorem addedForm_c (p k : Int) (f g : List Nat) (hf : Bytes 9 f) (hg : Bytes 9 g) (w : World) (hp : 0 < p) (hp5 : p ≤ 5) (hk : 0 ≤ k) (hk' : k ≤ 1000) :
    Calls Try.prog 80 #[.int .i64 p, .agg (u8s f), .int .i64 k, .agg (u8s g)] w fun e w' => e = .returned (.agg (u8s (adF p k f g))) ∧ Below w.heap.size w w' := by
  have hlen := adF_len p k f g
  go_enter Try.func80, Try.ntmps80
  go_wp2_with (refine wpList_load_all rfl 43 _ rfl (w.heap.size + 1) rfl _ _ _ (al3_1 _ _ _ _) Try.underlying43 rfl 9 (by kernel_rfl) ((u8s_size _).trans hg.len) ?_)
  go_loopw [12] (fun i wr => ∃ j : Nat, j ≤ 9 ∧ i = .int .i64 j ∧ AddRelI w p k f g j wr) (fun i _ => 9 - (intOf i).toNat)
  case atStart => exact ⟨0, by omega, rfl, below3 _ _ _ _, by rw [mixF_zero]; exact al3_0 _ _ _ _, al3_2 _ _ _ _⟩
  case round =>
    obtain ⟨j, hj, rfl, hB, h0, h2⟩ := hrel
    by_cases hlt : j < 9
    · have f0 : IntKind.i64.wrap ((j : Int) + 1) = (j : Int) + 1 := IntWalk.i64_in _ (by omega)
      have hm := mixF_len hlen hf.len (show j ≤ 9 by omega)
      have c0 := h0.cell (i := j) (by rw [hm]; exact hlt)
      rw [mixF_get hlen (Nat.le_refl _) (by omega)] at c0
      have z0 := h0.free j
      have hx := hf.lt j
      have hy := hg.lt j
      have hv := adF_get p k f g hlt
      have P := Put.set (i := j) h0 (ad1 p k (f[j]?.getD 0) (g[j]?.getD 0))
      rw [← hv, mixF_set hlen hf.len hlt, hv] at P
      have HI := fun (o : Oper) (a : Act) (w : World) (x i : Operand) (ho : o.op = .index 43 x i) (hx : a.eval x = .agg (u8s g)) (hi : a.eval i = .int .i64 j) => exec_index_u8s (P := Try.prog) (o := o) (a := a) (w := w) 43 5 x i ho 9 j g hx hi Try.underlying43 Try.underlying5 (by kernel_rfl) hg.len hlt
      generalize f[j]?.getD 0 = x at *
      generalize g[j]?.getD 0 = y at *
      have ha := ad1_lt k x y hp hp5
      have hc := Lib.hid (ad1_cast k x y hp)
      have HII := Lib.hid HI
      clear hv hm HI
      have m0 : 0 ≤ k * (y : Int) := Int.mul_nonneg hk (by omega)
      have m1 : k * (y : Int) ≤ 256000 := by
        have a1 : k * (y : Int) ≤ 1000 * (y : Int) := Int.mul_le_mul_of_nonneg_right hk' (by omega)
        omega
      have e1 : IntKind.i64.wrap (k * (y : Int)) = k * (y : Int) := IntWalk.i64_in _ (by omega)
      have e2 : IntKind.i64.wrap ((x : Int) + k * (y : Int)) = (x : Int) + k * (y : Int) := IntWalk.i64_in _ (by omega)
      have e3 : (p == 0) = false := by simp; omega
      go_wp2_with (refine wpList_of_exec rfl (HII.out _ _ _ _ _ rfl rfl rfl) ?_)
      go_roundw
      case rel =>
        refine ⟨j + 1, by omega, by go_num, ?_⟩
        have e5 : ((x : Int) + k * (y : Int)) % p % 256 = ((ad1 p k x y : Nat) : Int) := by rw [← hc.out]; omega
        rw [e5]
        exact ⟨P.below hB (Nat.le_refl _), P.at_, P.other h2 (by omega)⟩
      case measure => simp [intOf]; omega
    · obtain rfl : j = 9 := by omega
      rw [mixF_all hlen hf.len] at h0
      go_wp2_with (first | (refine wpList_load_all rfl 43 _ rfl w.heap.size rfl _ _ _ h0 Try.underlying43 rfl 9 (by kernel_rfl) ((u8s_size _).trans hlen) ?_) | (refine wpList_store_all rfl 43 _ _ rfl rfl (w.heap.size + 1 + 1) rfl _ rfl _ _ h2 9 (by kernel_rfl) ((u8s_size _).trans hlen) (by simp [u8s]) (u8s_one _) ?_; intro w3 p3))
      refine bodyPost_ret (results_at rfl _ _ (w.heap.size + 1 + 1) _ _ _ rfl p3.at_ Try.underlying43 rfl 9 (by kernel_rfl) ((u8s_size _).trans hlen)) rfl ?_
      exact ⟨rfl, p3.below hB (by omega)⟩
set_option maxHeartbeats 400000 in
theorem multipliedBy_c (p k : Int) (f : List Nat) (hf : Bytes 9 f) (w : World) (hp : 0 < p) (hp5 : p ≤ 5) (hk : 0 ≤ k) (hk' : k ≤ 1000) :
    Calls Try.prog 62 #[.int .i64 p, .int .i64 k, .agg (u8s f)] w fun e w' => e = .returned (.agg (u8s (scF p k f))) ∧ Below w.heap.size w w' := by
  have hlen : (scF p k f).length = 9 := adF_len _ _ _ _
  go_enter Try.func62, Try.ntmps62
  go_wp2_with (first | (refine wpList_abs2 ?_; intro W hsz hB h0 h1) | (refine wpList_load_all rfl 43 _ rfl w.heap.size rfl _ _ _ h0 Try.underlying43 rfl 9 (by kernel_rfl) ((u8s_size _).trans hf.len) ?_))
  refine (addedForm_c p k (List.replicate 9 0) f (Bytes.zeros 9) hf _ hp hp5 hk hk').mono ?_
  rintro e w1 ⟨rfl, b1⟩
  replace h1 := h1.after b1
  replace hB := below_after hB b1
  go_wp2_with (first | (refine wpList_store_all rfl 43 _ _ rfl rfl (w.heap.size + 1) rfl _ rfl _ _ h1 9 (by kernel_rfl) ((u8s_size _).trans hlen) (by simp) (u8s_one _) ?_; intro w3 p3))
  refine bodyPost_ret (results_at rfl _ _ (w.heap.size + 1) _ _ _ rfl p3.at_ Try.underlying43 rfl 9 (by kernel_rfl) ((u8s_size _).trans hlen)) rfl ?_
  exact ⟨rfl, p3.below hB (by omega)⟩
theorem firstNumber1_c (x : Nat) (hx : x < 256) (b : Bool) (hb : (((x : Nat) : Int) != 0) = b) (w : World) :
    Calls Try.prog 79 #[.int .u8 x] w fun e w' => e = .returned (.bool b) ∧ w = w' := by
  go_enter Try.func79, Try.ntmps79
  go_wp2_with fail
  go_ret
  exact ⟨rfl, rfl⟩
theorem lead_at {f : List Nat} : ∀ n k, leadAt f k n ≠ 0 → ∃ i, k ≤ i ∧ i < k + n ∧ (∀ j, k ≤ j → j < i → f[j]?.getD 0 = 0) ∧ f[i]?.getD 0 = leadAt f k n
  | 0, k, h => by simp [leadAt] at h
  | n + 1, k, h => by
    simp only [leadAt] at h ⊢
    split at h
    · rename_i hz
      obtain ⟨i, h1, h2, h3, h4⟩ := lead_at n (k + 1) h
      refine ⟨i, by omega, by omega, fun j hj hji => ?_, by rw [if_pos hz]; exact h4⟩
      by_cases e : j = k
      · subst e; exact hz
      · exact h3 j (by omega) hji
    · rename_i hz
      exact ⟨k, Nat.le_refl _, by omega, fun j h1 h2 => by omega, by rw [if_neg hz]⟩
set_option maxHeartbeats 800000 in
theorem indexByte_c (g i : Nat) (f : List Nat) (t : TypeId) (w : World) (hf : Bytes 9 f) (h0 : At w g (.cells (u8s f) t (0, 0))) (hi : i < 9) (hz : ∀ j, j < i → f[j]?.getD 0 = 0) (hn : f[i]?.getD 0 ≠ 0) :
    Calls Try.prog 78 #[.slice (some ⟨g, 0, none⟩) 9 9, .func (.func 79) #[] #[]] w fun e w' => e = .returned (.int .i64 i) ∧ w = w' := by
  have HZ := Lib.hid hz
  have HN := Lib.hid hn
  clear hz hn
  go_enter Try.func78, Try.ntmps78
  go_wp2_with fail
  go_loop [8] (fun j => ∃ k : Nat, k ≤ i ∧ j = .int .i64 k) (fun j => 9 - (intOf j).toNat)
  case atStart => exact ⟨0, by omega, rfl⟩
  case round =>
    obtain ⟨k, hk, rfl⟩ := hrel
    have hlt : k < 9 := by omega
    have f0 : IntKind.i64.wrap ((k : Int) + 1) = (k : Int) + 1 := IntWalk.i64_in _ (by omega)
    have c0 := h0.cell (i := k) (by rw [hf.len]; exact hlt)
    have hx := hf.lt k
    by_cases he : k = i
    · subst he
      have hb : ((((f[k]?.getD 0) : Nat) : Int) != 0) = true := by have := HN.out; simp; omega
      have HC := Lib.hid (firstNumber1_c (f[k]?.getD 0) hx true hb)
      generalize f[k]?.getD 0 = x at *
      clear hb
      go_wp2_with fail
      refine (HC.out _).mono ?_
      rintro e w' ⟨rfl, rfl⟩
      go_wp2_with fail
      go_ret
      exact ⟨rfl, rfl⟩
    · have hb : ((((f[k]?.getD 0) : Nat) : Int) != 0) = false := by have := HZ.out k (by omega); simp; omega
      have HC := Lib.hid (firstNumber1_c (f[k]?.getD 0) hx false hb)
      generalize f[k]?.getD 0 = x at *
      clear hb
      go_wp2_with fail
      refine (HC.out _).mono ?_
      rintro e w' ⟨rfl, rfl⟩
      go_wp2_with fail
      exact ⟨⟨k + 1, by omega, by go_num⟩, by simp [intOf]; omega⟩
set_option maxHeartbeats 800000 in
theorem firstNumber_c (f : List Nat) (hf : Bytes 9 f) (hl : 1 ≤ (lead f : Int)) (w : World) :
    Calls Try.prog 61 #[.agg (u8s f)] w fun e w' => e = .returned (.int .i64 ((lead f : Nat) : Int)) ∧ Below w.heap.size w w' := by
  obtain ⟨i, _, hi, hz, hv⟩ := lead_at (f := f) 9 0 (by show lead f ≠ 0; omega)
  have hi9 : i < 9 := by omega
  have hlt := hf.lt i
  have hn : f[i]?.getD 0 ≠ 0 := by rw [hv]; show lead f ≠ 0; omega
  have h0 : At (w.alloc (.cells (u8s f) 43 (0, 0))) w.heap.size (.cells (u8s f) 43 (0, 0)) := al1_0 _ _
  have c0 := h0.cell (i := i) (by rw [hf.len]; exact hi9)
  have HI := Lib.hid (indexByte_c w.heap.size i f 43 _ hf h0 hi9 (fun j hj => hz j (by omega) hj) hn)
  have HV : Hid (((f[i]?.getD 0 : Nat) : Int) = ((lead f : Nat) : Int)) := Lib.hid (by rw [hv]; rfl)
  generalize f[i]?.getD 0 = x at *
  clear hz hv hn hl h0
  go_enter Try.func61, Try.ntmps61
  go_wp2_with fail
  refine HI.out.mono ?_
  rintro e w' ⟨rfl, rfl⟩
  go_wp2_with fail
  go_ret
  exact ⟨ret_i64 HV.out, below1 _ _⟩
def powm (p a : Int) : Nat → Int
  | 0 => 1
  | t + 1 => powm p a t * a % p
theorem powm_in {p a : Int} (hp : 1 < p) : ∀ t, 0 ≤ powm p a t ∧ powm p a t < p
  | 0 => ⟨by simp [powm], by simp [powm]; omega⟩
  | t + 1 => ⟨Int.emod_nonneg _ (by omega), Int.emod_lt_of_pos _ (by omega)⟩
theorem powm_inv {p a : Int} (hp : primeB p = true) (ha : 1 ≤ a) (hap : a < p) : powm p a (p - 2).toNat = inv p a := by
  rcases inv_cases hp ha hap with ⟨rfl, rfl, h3⟩ | ⟨rfl, rfl, h3⟩ | ⟨rfl, rfl, h3⟩ | ⟨rfl, rfl, h3⟩ | ⟨rfl, rfl, h3⟩ | ⟨rfl, rfl, h3⟩ | ⟨rfl, rfl, h3⟩ <;> decide
set_option maxHeartbeats 800000 in
theorem inverseOf_c (p a : Int) (w : World) (hp : primeB p = true) (ha : 1 ≤ a) (hap : a < p) :
    Calls Try.prog 63 #[.int .i64 p, .int .i64 a] w fun e w' => e = .returned (.int .i64 (inv p a)) ∧ w = w' := by
  have hpp := primeB_5 hp
  have hp2 : 2 ≤ p := by omega
  rw [← powm_inv hp ha hap]
  have e9 : IntKind.i64.wrap (p - 2) = p - 2 := IntWalk.i64_in _ (by omega)
  have e3 : (p == 0) = false := by simp; omega
  go_enter Try.func63, Try.ntmps63
  go_wp2_with fail
  go_loop [5, 8] (fun v i => ∃ t : Nat, (t : Int) ≤ p - 2 ∧ i = .int .i64 t ∧ v = .int .i64 (powm p a t)) (fun _ i => 10 - (intOf i).toNat)
  case atStart => exact ⟨0, by omega, rfl, rfl⟩
  case round =>
    obtain ⟨t, ht, rfl, rfl⟩ := hrel
    have f0 : IntKind.i64.wrap ((t : Int) + 1) = (t : Int) + 1 := IntWalk.i64_in _ (by omega)
    have hv := powm_in (p := p) (a := a) (by omega) t
    by_cases hlt : (t : Int) < p - 2
    · have HS : Hid (powm p a (t + 1) = powm p a t * a % p) := Lib.hid rfl
      generalize powm p a t = v at *
      have m0 : 0 ≤ v * a := Int.mul_nonneg (by omega) (by omega)
      have m1 : v * a ≤ 25 := by
        have h1 : v * a ≤ 5 * a := Int.mul_le_mul_of_nonneg_right (by omega) (by omega)
        omega
      have e1 : IntKind.i64.wrap (v * a) = v * a := IntWalk.i64_in _ (by omega)
      go_wp2_with fail
      exact ⟨⟨t + 1, by omega, by go_num, by rw [HS.out]⟩, by simp [intOf]; omega⟩
    · have ht' : t = (p - 2).toNat := by omega
      have HT := Lib.hid ht'
      clear ht'
      go_wp2_with fail
      go_ret
      exact ⟨ret_i64 (by rw [HT.out]), rfl⟩
end Go.Proofs.Ytmbjpnkedepijaa
