/-
  impl.subtractedForm.
-/
import Derived.Test.YtbgoopmmdbhogaaNrm4
import Derived.Test.YtbgoopmmdbhogaaMv1
namespace Go.Proofs.Ytbgoopmmdbhogaa
open Go.RowKit
set_option maxRecDepth 100000
theorem subtractedForm_c (p : Int) (f g : List Nat) (hf : Bytes 9 f) (hg : Bytes 9 g) (w : World) (hp : 1 < p) (hp5 : p ≤ 5) :
    Calls Try.prog 37 #[.int .i64 p, .agg (u8s f), .agg (u8s g)] w fun e w' => e = .returned (.agg (u8s (adF p (-1) f g))) ∧ Below w.heap.size w w' := by
  have hs := adF_shift p (-1) f g
  rw [show -1 + p = p - 1 by omega] at hs
  have HA := Lib.hid (fun w => addedForm_c p (p - 1) f g hf hg w (by omega) hp5 (by omega) (by omega))
  rw [hs] at HA
  have hlen : (adF p (-1) f g).length = 9 := adF_len _ _ _ _
  have e1 : IntKind.i64.wrap (p - 1) = p - 1 := IntWalk.i64_in _ (by omega)
  clear hs
  go_enter Try.func37, Try.ntmps37
  go_wp2_with (first | (refine wpList_abs3 ?_; intro W hsz hB h0 h1 h2) | (refine wpList_load_all rfl 39 _ rfl w.heap.size rfl _ _ _ h0 Try.underlying39 rfl 9 (by kernel_rfl) ((u8s_size _).trans hf.len) ?_) | (refine wpList_load_all rfl 39 _ rfl (w.heap.size + 1) rfl _ _ _ h1 Try.underlying39 rfl 9 (by kernel_rfl) ((u8s_size _).trans hg.len) ?_))
  refine (HA.out _).mono ?_
  rintro e w1 ⟨rfl, b1⟩
  replace h2 := h2.after b1
  replace hB := below_after hB b1
  go_wp2_with (first | (refine wpList_store_all rfl 39 _ _ rfl rfl (w.heap.size + 1 + 1) rfl _ rfl _ _ h2 9 (by kernel_rfl) ((u8s_size _).trans hlen) (by simp) (u8s_one _) ?_; intro w3 p3))
  refine bodyPost_ret (results_at rfl _ _ (w.heap.size + 1 + 1) _ _ _ rfl p3.at_ Try.underlying39 rfl 9 (by kernel_rfl) ((u8s_size _).trans hlen)) rfl ?_
  exact ⟨rfl, p3.below hB (by omega)⟩
end Go.Proofs.Ytbgoopmmdbhogaa
