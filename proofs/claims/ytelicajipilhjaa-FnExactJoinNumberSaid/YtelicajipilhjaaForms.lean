/-
  laws.toForm, laws.toProduct: the copies are equal; nothing that was there is written.
-/
import Derived.Test.YtelicajipilhjaaBase
import Derived.Test.YtelicajipilhjaaChecked
import Derived.Outline
namespace Go.Proofs.Ytelicajipilhjaa
open Go.RowKit
def ToFormRel (w : World) (f : List Nat) (i : Value) (wr : World) : Prop :=
  ∃ k : Nat, k ≤ 9 ∧ i = .int .i64 k ∧ Sz wr (w.heap.size + 1 + 1 + 1) ∧ Below w.heap.size w wr ∧ At wr w.heap.size (.cells (u8s f) 46 (0, 0)) ∧
    At wr (w.heap.size + 1) (.cells (u8s (List.replicate 9 0)) 47 (0, 0)) ∧ At wr (w.heap.size + 1 + 1) (.cells (u8s (f.take k ++ List.replicate (9 - k) 0)) 47 (0, 0))
set_option maxHeartbeats 400000 in
theorem toForm_c (f : List Nat) (hf : Bytes 9 f) (w : World) :
    Calls Try.prog 62 #[.agg (u8s f)] w fun e w' => e = .returned (.agg (u8s f)) ∧ Below w.heap.size w w' := by
  go_enter Try.func62, Try.ntmps62
  go_wp2_with fail
  go_loopw [4] (fun i wr => ToFormRel w f i wr) (fun i _ => 9 - (intOf i).toNat)
  case atStart => exact ⟨0, by omega, rfl, size_al3 _ _ _ _, below3 _ _ _ _, al3_0 _ _ _ _, al3_1 _ _ _ _, al3_2 _ _ _ _⟩
  case round =>
    obtain ⟨k, hk, rfl, hsz, hB, h0, h1, h2⟩ := hrel
    by_cases hlt : k < 9
    · have c0 := h0.cell (i := k) (by rw [hf.len]; exact hlt)
      have c2 := h2.cell (i := k) (by simp [hf.len]; omega)
      have z2 := h2.free k
      go_wp2
      go_roundw
      case rel =>
        have p := Put.set (i := k) h2 (f[k]?.getD 0)
        rw [fill_step hf.len hlt] at p
        exact ⟨k + 1, by omega, by go_num, p.size hsz, p.below hB (by omega), p.other h0 (by omega), p.other h1 (by omega), p.at_⟩
      case measure => simp [intOf]; omega
    · obtain rfl : k = 9 := by omega
      rw [fill_end hf.len] at h2
      go_wp2_with (first | (refine wpList_load_all rfl 47 _ rfl (w.heap.size + 1 + 1) rfl _ _ _ h2 Try.underlying47 rfl 9 (by kernel_rfl) ((u8s_size _).trans hf.len) ?_) | (refine wpList_store_u8s rfl 47 _ _ rfl rfl (w.heap.size + 1) 0 rfl _ rfl _ _ h1 9 (by kernel_rfl) hf.len (by simp) ?_; intro w2 p2))
      rw [over_all (by simp [hf.len])] at p2
      refine bodyPost_ret (v := .agg (u8s f)) (results_at rfl _ _ (w.heap.size + 1) _ _ _ rfl p2.at_ Try.underlying47 rfl 9 (by kernel_rfl) ((u8s_size _).trans hf.len)) rfl ?_
      exact ⟨rfl, p2.below hB (by omega)⟩
set_option maxHeartbeats 400000 in
theorem toProduct_c (q : List Nat) (hq : Bytes 27 q) (w : World) :
    Calls Try.prog 43 #[.agg (u8s q)] w fun e w' => e = .returned (.agg (u8s q)) ∧ Below w.heap.size w w' := by
  have s0 : Bytes 9 (segm q 0 9) := segm_bytes hq (by omega)
  have s1 : Bytes 9 (segm q 9 9) := segm_bytes hq (by omega)
  have s2 : Bytes 9 (segm q 18 9) := segm_bytes hq (by omega)
  have z27 : 27 ≤ q.length := by rw [hq.len]; exact Nat.le_refl _
  go_enter Try.func43, Try.ntmps43
  go_wp2_with (first | (refine wpList_abs3 ?_; intro W hsz hB h0 h1 h2; replace h1 : At W (w.heap.size + 1) (.cells (u8s (List.replicate 27 0)) 49 (0, 0)) := h1; replace h2 : At W (w.heap.size + 1 + 1) (.cells (u8s (List.replicate 27 0)) 49 (0, 0)) := h2) | (refine wpList_load_u8s rfl 46 _ rfl w.heap.size 0 rfl _ q _ 9 h0 Try.underlying46 rfl (by kernel_rfl) (by omega) ?_))
  refine (toForm_c _ s0 _).mono ?_
  rintro e w1 ⟨rfl, b1⟩
  replace h0 := h0.after b1
  replace h1 := h1.after b1
  replace h2 := h2.after b1
  replace hB := below_after hB b1
  go_wp2_with (first | (refine wpList_store_u8s rfl 47 _ _ rfl rfl (w.heap.size + 1 + 1) 0 rfl _ rfl _ _ h2 9 (by kernel_rfl) s0.len (by simp) ?_; intro w2 p2; replace h0 := p2.other h0 (by omega); replace h1 := p2.other h1 (by omega)) | (refine wpList_load_u8s rfl 46 _ rfl w.heap.size 9 rfl _ q _ 9 h0 Try.underlying46 rfl (by kernel_rfl) (by omega) ?_))
  replace h2 := p2.at_
  replace hB := p2.below hB (by omega)
  have l0 : (over (List.replicate 27 0) 0 (segm q 0 9)).length = 27 := by rw [over_length (by rw [s0.len]; simp)]; simp
  refine (toForm_c _ s1 _).mono ?_
  rintro e w3 ⟨rfl, b3⟩
  replace h0 := h0.after b3
  replace h1 := h1.after b3
  replace h2 := h2.after b3
  replace hB := below_after hB b3
  go_wp2_with (first | (refine wpList_store_u8s rfl 47 _ _ rfl rfl (w.heap.size + 1 + 1) 9 rfl _ rfl _ _ h2 9 (by kernel_rfl) s1.len (by omega) ?_; intro w4 p4; replace h0 := p4.other h0 (by omega); replace h1 := p4.other h1 (by omega)) | (refine wpList_load_u8s rfl 46 _ rfl w.heap.size 18 rfl _ q _ 9 h0 Try.underlying46 rfl (by kernel_rfl) (by omega) ?_))
  replace h2 := p4.at_
  replace hB := p4.below hB (by omega)
  have l1 : (over (over (List.replicate 27 0) 0 (segm q 0 9)) 9 (segm q 9 9)).length = 27 := by rw [over_length (by rw [s1.len, l0]; omega), l0]
  refine (toForm_c _ s2 _).mono ?_
  rintro e w5 ⟨rfl, b5⟩
  replace h0 := h0.after b5
  replace h1 := h1.after b5
  replace h2 := h2.after b5
  replace hB := below_after hB b5
  have hq3 := over3 q hq.len
  have l2 : (over (over (over (List.replicate 27 0) 0 (segm q 0 9)) 9 (segm q 9 9)) 18 (segm q 18 9)).length = 27 := by rw [hq3, hq.len]
  have Hq3 := Lib.hid hq3
  clear hq3
  go_wp2_with (first | (refine wpList_store_u8s rfl 47 _ _ rfl rfl (w.heap.size + 1 + 1) 18 rfl _ rfl _ _ h2 9 (by kernel_rfl) s2.len (by omega) ?_; intro w6 p6; replace h0 := p6.other h0 (by omega); replace h1 := p6.other h1 (by omega)) | (refine wpList_load_all rfl 49 _ rfl (w.heap.size + 1 + 1) rfl _ _ _ p6.at_ Try.underlying49 rfl 27 (by kernel_rfl) ((u8s_size _).trans l2) ?_) | (refine wpList_store_u8s rfl 49 _ _ rfl rfl (w.heap.size + 1) 0 rfl _ rfl _ _ h1 27 (by kernel_rfl) l2 (by simp) ?_; intro w7 p7))
  rw [over_all (by rw [l2]; simp), Hq3.out] at p7
  refine bodyPost_ret (v := .agg (u8s q)) (results_at rfl _ _ (w.heap.size + 1) _ _ _ rfl p7.at_ Try.underlying49 rfl 27 (by kernel_rfl) ((u8s_size _).trans hq.len)) rfl ?_
  exact ⟨rfl, p7.below (p6.below hB (by omega)) (by omega)⟩
end Go.Proofs.Ytelicajipilhjaa
