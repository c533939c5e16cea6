/-
  impl.boxOfScheme. (Made by mkbos.py.)
-/
import Derived.Test.YtcmpeoijedddjaaImplIs
import Derived.Test.YtcmpeoijedddjaaLK1
namespace Go.Proofs.Ytcmpeoijedddjaa
open Go.RowKit
set_option maxRecDepth 100000
set_option maxHeartbeats 3200000 in
theorem boxOfScheme_c (p n m k : Int) (A : Option Addr) (l c : Nat) (w : World) (hn : sizeB n = true) (hm : sizeB m = true) (hk : sizeB k = true) :
    Calls Try.prog 48 #[.agg #[.int .i64 p, .int .i64 n, .int .i64 m, .int .i64 k, .slice A l c]] w fun e w' => e = .returned (.agg #[.int .i64 (n * m), .int .i64 (m * k), .int .i64 (n * k)]) ∧ Below w.heap.size w w' := by
  have HP0 := Lib.hid (fun w => places_c n m w hn hm)
  have HP1 := Lib.hid (fun w => places_c m k w hm hk)
  have HP2 := Lib.hid (fun w => places_c n k w hn hk)
  have HShp := Lib.hid (fun w => shapesOf_c p n m k (.slice A l c) w)
  clear hn hm hk
  go_enter Try.func48, Try.ntmps48
  go_wp2_with (first | (refine wpList_abs2 ?_; intro W hsz hB h0 h1; have z0 : W.heap.size = w.heap.size + 1 + 1 := hsz; clear hsz) | (refine wpList_abs1 ?_; intro W2 hsz2 hB2 h4; have z2 : W2.heap.size = W.heap.size + 1 := hsz2; replace h0 := h0.after hB2; replace h1 := h1.after hB2; replace hB := below_after hB hB2; clear hsz2 hB2) | (refine wpList_load_all rfl 40 _ rfl w.heap.size rfl _ _ _ h0 Try.underlying40 rfl 5 (by kernel_rfl) rfl ?_))
  rw [z0] at h4
  obtain ⟨b4, hb4⟩ : ∃ b4, b4 = w.heap.size + 1 + 1 := ⟨_, rfl⟩
  rw [← hb4] at h4 ⊢
  have z1 : w.heap.size + 1 + 1 ≤ b4 := by omega
  clear hb4 z2 z0 h0
  refine (HShp.out _).mono ?_
  rintro e w2 ⟨rfl, b2⟩
  replace hB := below_after hB b2
  replace h1 := h1.after b2
  replace h4 := h4.after b2
  clear b2
  go_wp2_with fail
  go_loopw [8] (fun i wr => ∃ a : Nat, a ≤ 3 ∧ i = .int .i64 a ∧ w.heap.size + 1 + 1 ≤ b4 ∧ b4 < wr.heap.size ∧ Below w.heap.size w wr ∧ At wr (w.heap.size + 1) (.cells #[.int .i64 0, .int .i64 0, .int .i64 0] 52 (0, 0)) ∧ ((a = 0 ∧ At wr b4 (.cells #[.int .i64 0, .int .i64 0, .int .i64 0] 52 (0, 0))) ∨ (a = 1 ∧ At wr b4 (.cells #[.int .i64 (n * m), .int .i64 0, .int .i64 0] 52 (0, 0))) ∨ (a = 2 ∧ At wr b4 (.cells #[.int .i64 (n * m), .int .i64 (m * k), .int .i64 0] 52 (0, 0))) ∨ (a = 3 ∧ At wr b4 (.cells #[.int .i64 (n * m), .int .i64 (m * k), .int .i64 (n * k)] 52 (0, 0))))) (fun i _ => 3 - (intOf i).toNat)
  case atStart => exact ⟨0, by omega, rfl, z1, At.lt h4, hB, h1, .inl ⟨rfl, h4⟩⟩
  case round =>
    clear hB h1 h4 z1
    obtain ⟨a, ha, rfl, z3, z4, hB, h1, ⟨rfl, h4⟩ | ⟨rfl, h4⟩ | ⟨rfl, h4⟩ | ⟨rfl, h4⟩⟩ := hrel
    · have z8 := h4.lt
      go_wp2_with (first | (refine wpList_of_exec rfl (exec_index_part 95 94 _ _ rfl 3 0 2 _ #[.int .i64 n, .int .i64 m] _ rfl rfl Try.underlying95 Try.underlying94 rfl (by kernel_rfl) (by omega) rfl) ?_) | (refine wpList_abs1 ?_; intro W2 hsz2 hB2 h6; have z7 : W2.heap.size = wr.heap.size + 1 := hsz2; replace h1 := h1.after hB2; replace h4 := h4.after hB2; replace hB := below_after hB hB2; clear hsz2 hB2) | (refine wpList_store_all rfl 94 _ _ rfl rfl wr.heap.size rfl _ rfl _ _ h6 2 (by kernel_rfl) rfl rfl (by simp [Value.oneCell']) ?_; intro W3 p3; replace h1 := p3.other h1 (by omega); replace h4 := p3.other h4 (by omega); replace hB := p3.below hB (by omega); replace h6 := p3.at_; clear p3) | (refine wpList_load_all rfl 94 _ rfl wr.heap.size rfl _ _ _ h6 Try.underlying94 rfl 2 (by kernel_rfl) rfl ?_))
      refine (HP0.out _).mono ?_
      rintro e w5 ⟨rfl, b5⟩
      replace h1 := h1.after b5
      replace h4 := h4.after b5
      replace hB := below_after hB b5
      clear b5 h6
      have x0 : w5.cell? ⟨b4, 0, none⟩ = some (.int .i64 0) := h4.at_ 0
      have z9 := h4.free 0
      have z10 := h4.lt
      have p9 := Put.cell (i := 0) h4 (.int .i64 (n * m))
      go_wp2_with fail
      go_roundw
      case rel => exact ⟨1, by omega, rfl, z3, (p9.at_ : At _ _ _).lt, p9.below hB (by omega), p9.other h1 (by omega), .inr (.inl ⟨rfl, p9.at_⟩)⟩
      case measure => simp [intOf]
    · have z8 := h4.lt
      go_wp2_with (first | (refine wpList_of_exec rfl (exec_index_part 95 94 _ _ rfl 3 1 2 _ #[.int .i64 m, .int .i64 k] _ rfl rfl Try.underlying95 Try.underlying94 rfl (by kernel_rfl) (by omega) rfl) ?_) | (refine wpList_abs1 ?_; intro W2 hsz2 hB2 h6; have z7 : W2.heap.size = wr.heap.size + 1 := hsz2; replace h1 := h1.after hB2; replace h4 := h4.after hB2; replace hB := below_after hB hB2; clear hsz2 hB2) | (refine wpList_store_all rfl 94 _ _ rfl rfl wr.heap.size rfl _ rfl _ _ h6 2 (by kernel_rfl) rfl rfl (by simp [Value.oneCell']) ?_; intro W3 p3; replace h1 := p3.other h1 (by omega); replace h4 := p3.other h4 (by omega); replace hB := p3.below hB (by omega); replace h6 := p3.at_; clear p3) | (refine wpList_load_all rfl 94 _ rfl wr.heap.size rfl _ _ _ h6 Try.underlying94 rfl 2 (by kernel_rfl) rfl ?_))
      refine (HP1.out _).mono ?_
      rintro e w5 ⟨rfl, b5⟩
      replace h1 := h1.after b5
      replace h4 := h4.after b5
      replace hB := below_after hB b5
      clear b5 h6
      have x0 : w5.cell? ⟨b4, 1, none⟩ = some (.int .i64 0) := h4.at_ 1
      have z9 := h4.free 1
      have z10 := h4.lt
      have p9 := Put.cell (i := 1) h4 (.int .i64 (m * k))
      go_wp2_with fail
      go_roundw
      case rel => exact ⟨2, by omega, rfl, z3, (p9.at_ : At _ _ _).lt, p9.below hB (by omega), p9.other h1 (by omega), .inr (.inr (.inl ⟨rfl, p9.at_⟩))⟩
      case measure => simp [intOf]
    · have z8 := h4.lt
      go_wp2_with (first | (refine wpList_of_exec rfl (exec_index_part 95 94 _ _ rfl 3 2 2 _ #[.int .i64 n, .int .i64 k] _ rfl rfl Try.underlying95 Try.underlying94 rfl (by kernel_rfl) (by omega) rfl) ?_) | (refine wpList_abs1 ?_; intro W2 hsz2 hB2 h6; have z7 : W2.heap.size = wr.heap.size + 1 := hsz2; replace h1 := h1.after hB2; replace h4 := h4.after hB2; replace hB := below_after hB hB2; clear hsz2 hB2) | (refine wpList_store_all rfl 94 _ _ rfl rfl wr.heap.size rfl _ rfl _ _ h6 2 (by kernel_rfl) rfl rfl (by simp [Value.oneCell']) ?_; intro W3 p3; replace h1 := p3.other h1 (by omega); replace h4 := p3.other h4 (by omega); replace hB := p3.below hB (by omega); replace h6 := p3.at_; clear p3) | (refine wpList_load_all rfl 94 _ rfl wr.heap.size rfl _ _ _ h6 Try.underlying94 rfl 2 (by kernel_rfl) rfl ?_))
      refine (HP2.out _).mono ?_
      rintro e w5 ⟨rfl, b5⟩
      replace h1 := h1.after b5
      replace h4 := h4.after b5
      replace hB := below_after hB b5
      clear b5 h6
      have x0 : w5.cell? ⟨b4, 2, none⟩ = some (.int .i64 0) := h4.at_ 2
      have z9 := h4.free 2
      have z10 := h4.lt
      have p9 := Put.cell (i := 2) h4 (.int .i64 (n * k))
      go_wp2_with fail
      go_roundw
      case rel => exact ⟨3, by omega, rfl, z3, (p9.at_ : At _ _ _).lt, p9.below hB (by omega), p9.other h1 (by omega), .inr (.inr (.inr ⟨rfl, p9.at_⟩))⟩
      case measure => simp [intOf]
    · go_wp2_with (first | (refine wpList_load_all rfl 52 _ rfl b4 rfl _ _ _ h4 Try.underlying52 rfl 3 (by kernel_rfl) rfl ?_) | (refine wpList_store_all rfl 52 _ _ rfl rfl (w.heap.size + 1) rfl _ rfl _ _ h1 3 (by kernel_rfl) rfl rfl (by simp [Value.oneCell']) ?_; intro W3 p3))
      refine bodyPost_ret (results_at rfl _ _ (w.heap.size + 1) _ _ _ rfl p3.at_ Try.underlying52 rfl 3 (by kernel_rfl) rfl) rfl ?_
      exact ⟨rfl, p3.below hB (by omega)⟩
end Go.Proofs.Ytcmpeoijedddjaa
