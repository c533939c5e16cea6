/-
  spec.l03Factor, l03With; a factor of a product, a product with another factor.
-/
import Derived.Test.YtemkhlokpinecaaTold
namespace Go.Proofs.Ytemkhlokpinecaa
open Go.RowKit
set_option maxRecDepth 100000
theorem adF_shift (p k : Int) (f g : List Nat) : adF p (k + p) f g = adF p k f g := by
  unfold adF
  refine List.map_congr_left fun i _ => ?_
  unfold ad1
  rw [Int.add_mul, ← Int.add_assoc, Int.add_mul_emod_self_left]
/-- The factor number 'f' of a product. -/
def facQ (q : List Nat) (f : Nat) : List Nat := segm q (f * 9) 9
/-- The product with another factor. -/
def withQ (q : List Nat) (f : Nat) (r : List Nat) : List Nat := over q (f * 9) r
theorem facQ_bytes {q : List Nat} {f : Nat} (hq : Bytes 27 q) (hf : f < 3) : Bytes 9 (facQ q f) := segm_bytes hq (by omega)
theorem withQ_bytes {q r : List Nat} {f : Nat} (hq : Bytes 27 q) (hr : Bytes 9 r) (hf : f < 3) : Bytes 27 (withQ q f r) := by
  obtain ⟨A, B, C, rfl, hA, hB, hC⟩ := parts3 hq
  unfold withQ
  rcases (show f = 0 ∨ f = 1 ∨ f = 2 by omega) with rfl | rfl | rfl
  · rw [over_a hA.len hr.len]; exact bytes3 hr hB hC
  · rw [over_b hA.len hB.len hr.len]; exact bytes3 hA hr hC
  · rw [over_c hA.len hB.len hC.len hr.len]; exact bytes3 hA hB hr
set_option maxHeartbeats 800000 in
theorem l03Factor_c (q : List Nat) (f : Nat) (hq : Bytes 27 q) (hf : f < 3) (w : World) :
    Calls Try.prog 68 #[.agg (u8s q), .int .i64 f] w fun e w' => e = .returned (.agg (u8s (facQ q f))) ∧ Below w.heap.size w w' := by
  have q27 : 27 ≤ q.length := by rw [hq.len]; exact Nat.le_refl _
  have hb := (facQ_bytes hq hf).len
  unfold facQ at hb ⊢
  rcases (show f = 0 ∨ f = 1 ∨ f = 2 by omega) with rfl | rfl | rfl
  · go_enter Try.func68, Try.ntmps68
    go_wp2_with (first | (refine wpList_load_u8s rfl 51 _ rfl w.heap.size 0 rfl _ q _ 9 (al2_0 _ _ _) Try.underlying51 rfl (by kernel_rfl) (by omega) ?_) | (refine wpList_store_all rfl 51 _ _ rfl rfl (w.heap.size + 1) rfl _ rfl _ _ (al2_1 _ _ _) 9 (by kernel_rfl) ((u8s_size _).trans hb) (by simp) (u8s_one _) ?_; intro w3 p3))
    refine bodyPost_ret (results_at rfl _ _ (w.heap.size + 1) _ _ _ rfl p3.at_ Try.underlying51 rfl 9 (by kernel_rfl) ((u8s_size _).trans hb)) rfl ?_
    exact ⟨rfl, p3.below (below2 _ _ _) (by omega)⟩
  · go_enter Try.func68, Try.ntmps68
    go_wp2_with (first | (refine wpList_load_u8s rfl 51 _ rfl w.heap.size 9 rfl _ q _ 9 (al2_0 _ _ _) Try.underlying51 rfl (by kernel_rfl) (by omega) ?_) | (refine wpList_store_all rfl 51 _ _ rfl rfl (w.heap.size + 1) rfl _ rfl _ _ (al2_1 _ _ _) 9 (by kernel_rfl) ((u8s_size _).trans hb) (by simp) (u8s_one _) ?_; intro w3 p3))
    refine bodyPost_ret (results_at rfl _ _ (w.heap.size + 1) _ _ _ rfl p3.at_ Try.underlying51 rfl 9 (by kernel_rfl) ((u8s_size _).trans hb)) rfl ?_
    exact ⟨rfl, p3.below (below2 _ _ _) (by omega)⟩
  · go_enter Try.func68, Try.ntmps68
    go_wp2_with (first | (refine wpList_load_u8s rfl 51 _ rfl w.heap.size 18 rfl _ q _ 9 (al2_0 _ _ _) Try.underlying51 rfl (by kernel_rfl) (by omega) ?_) | (refine wpList_store_all rfl 51 _ _ rfl rfl (w.heap.size + 1) rfl _ rfl _ _ (al2_1 _ _ _) 9 (by kernel_rfl) ((u8s_size _).trans hb) (by simp) (u8s_one _) ?_; intro w3 p3))
    refine bodyPost_ret (results_at rfl _ _ (w.heap.size + 1) _ _ _ rfl p3.at_ Try.underlying51 rfl 9 (by kernel_rfl) ((u8s_size _).trans hb)) rfl ?_
    exact ⟨rfl, p3.below (below2 _ _ _) (by omega)⟩
end Go.Proofs.Ytemkhlokpinecaa
