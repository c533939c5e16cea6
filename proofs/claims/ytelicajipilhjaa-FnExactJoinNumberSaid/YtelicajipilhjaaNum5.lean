/-
  impl.JoinNumber. (Made by mknum5.py.)
-/
import Derived.Test.YtelicajipilhjaaNum4
import Derived.Test.YtelicajipilhjaaImplIs
namespace Go.Proofs.Ytelicajipilhjaa
open Go.RowKit
set_option maxRecDepth 100000
attribute [local irreducible] wpList
theorem exec_build_szN {o : Oper} {a : Act} {w : World} (x y z : Operand) (ho : o.op = .build 53 #[(0, x), (1, y), (2, z)]) (n m k : Int) (hx : a.eval x = .int .i64 n) (hy : a.eval y = .int .i64 m) (hz : a.eval z = .int .i64 k) :
    (execOp a.eval o).run Try.prog w = .ok (.value (.agg #[.int .i64 n, .int .i64 m, .int .i64 k])) w := by
  have hb : Try.prog.built 53 [(0, .int .i64 n), (1, .int .i64 m), (2, .int .i64 k)] = some #[.int .i64 n, .int .i64 m, .int .i64 k] := by kernel_rfl
  unfold execOp
  have := run_build (P := Try.prog) w 53 #[(0, .int .i64 n), (1, .int .i64 m), (2, .int .i64 k)] _ hb
  simp [ho, hx, hy, hz, this]
theorem al_impl_sizes {o : Oper} {a : Act} {w : World} (ho : o.op = .alloc 53) : (execOp a.eval o).run Try.prog w = .ok (.value (.pointer (some ⟨w.heap.size, 0, none⟩))) (w.alloc (.cells #[.int .i64 0, .int .i64 0, .int .i64 0] 53 (0, 0))) := by
  unfold execOp
  rw [ho]
  kernel_rfl
set_option maxHeartbeats 4000000 in
theorem implJoinNumber_no (n m k : Int) (w : World) (hs : (sizeB n && sizeB m && sizeB k) = false) :
    Calls Try.prog 22 #[.int .i64 n, .int .i64 m, .int .i64 k] w (fun e w' => e = .returned (.tuple #[.int .i64 (jnA n m k), .int .i64 (jnCode n m k)]) ∧ Below w.heap.size w w') := by
  have hB := Below.refl w.heap.size w
  have Hr : Hid (jnA n m k = 0 ∧ jnCode n m k = 2) := Lib.hid (by simp [jnA, jnCode, hs])
  have Hs := Lib.hid hs
  clear hs
  go_enter Try.func22, Try.ntmps22
  go_upto_region 0 with (fail)
  refine wp_region_lit ?_
  refine ls_ex (some 6) (.int .i64 0) rfl rfl (exec_assign _ rfl (.int .i64 0) rfl) ?_
  go_frame
  refine ls_ex (some 7) (.int .i64 0) rfl rfl (exec_assign _ rfl (.int .i64 0) rfl) ?_
  go_frame
  refine wpList_nil ?_
  go_upto_region 1 with (fail)
  refine wp_region_lit ?_
  refine ls_ex (some 9) (.int .i64 n) rfl rfl (exec_move _ rfl (.int .i64 n) rfl) ?_
  go_frame
  refine ls_ex (some 10) (.int .i64 m) rfl rfl (exec_move _ rfl (.int .i64 m) rfl) ?_
  go_frame
  refine ls_ex (some 11) (.int .i64 k) rfl rfl (exec_move _ rfl (.int .i64 k) rfl) ?_
  go_frame
  refine ls_ex (some 12) (.agg #[.int .i64 n, .int .i64 m, .int .i64 k]) rfl rfl (exec_build_szN _ _ _ rfl _ _ _ rfl rfl rfl) ?_
  go_frame
  refine ls_op rfl (fun K' hK' => ?_)
  have lz1 := hB.size
  refine wp_new (some 8) rfl (al_impl_sizes rfl) (fun Wz2 nnz3 => ?_)
  have bz4 := nnz3.below (Below.refl _ _) (Nat.le_refl _)
  replace hB := below_after hB bz4
  have hz5 : At Wz2 w.heap.size (.cells #[.int .i64 0, .int .i64 0, .int .i64 0] 53 (0, 0)) := nnz3.at_
  refine hK' _ _ ?_
  clear hK' K' nnz3 bz4
  go_frame
  refine ls_op rfl (fun K' hK' => ?_)
  refine wp_store_all 53 _ _ rfl rfl w.heap.size rfl #[.int .i64 n, .int .i64 m, .int .i64 k] rfl _ _ hz5 3 (by kernel_rfl) rfl rfl (by intro x hx; simp at hx; rcases hx with rfl | rfl | rfl <;> rfl) (fun Wz6 pz7 => ?_)
  replace hB := pz7.below hB (by omega)
  replace hz5 : At Wz6 w.heap.size (.cells #[.int .i64 n, .int .i64 m, .int .i64 k] 53 (0, 0)) := pz7.at_
  refine hK' _ _ ?_
  clear hK' K' pz7
  refine wpList_nil ?_
  go_upto_region 2 with (fail)
  refine wp_region_lit ?_
  refine ls_ex (some 13) (.agg #[.int .i64 n, .int .i64 m, .int .i64 k]) rfl rfl (exec_load_all 53 _ rfl w.heap.size rfl _ _ _ hz5 Try.underlying53 rfl 3 (by kernel_rfl) rfl) ?_
  go_frame
  refine ls_op rfl (fun K' hK' => ?_)
  have lz10 := hB.size
  have lz11 := hz5.lt
  refine wp_call1 (some 14) rfl 40 _ _ rfl (fun args w => by kernel_rfl) _ rfl _ (areAllowed_c n m k _) (fun e Wz8 h => ?_)
  obtain ⟨rfl, bz9⟩ := h
  replace hB := below_after hB bz9
  replace hz5 := hz5.after bz9
  rw [Hs.out]
  clear bz9
  refine ⟨_, rfl, ?_⟩
  refine hK' _ _ ?_
  clear hK' K'
  go_frame
  refine ls_ex (some 15) (.bool true) rfl rfl (exec_not _ _ rfl false rfl) ?_
  go_frame
  refine wpList_nil ?_
  go_upto_region 3 with (fail)
  refine wp_region_lit ?_
  refine ls_ex (some 6) (.int .i64 0) rfl rfl (exec_assign _ rfl (.int .i64 0) rfl) ?_
  go_frame
  refine ls_ex (some 7) (.int .i64 2) rfl rfl (exec_assign _ rfl (.int .i64 2) rfl) ?_
  go_frame
  refine wpList_nil ?_
  go_wp2_with fail
  go_ret2
  exact ⟨by rw [Hr.out.1, Hr.out.2]; rfl, hB⟩
set_option maxHeartbeats 4000000 in
theorem implJoinNumber_yes (n m k : Int) (w : World) (hs : (sizeB n && sizeB m && sizeB k) = true) :
    Calls Try.prog 22 #[.int .i64 n, .int .i64 m, .int .i64 k] w (fun e w' => e = .returned (.tuple #[.int .i64 (jnA n m k), .int .i64 (jnCode n m k)]) ∧ Below w.heap.size w w') := by
  have hB := Below.refl w.heap.size w
  have Hr : Hid (jnA n m k = (jn n.toNat m.toNat k.toNat : Nat) ∧ jnCode n m k = 0) := Lib.hid (by simp [jnA, jnCode, hs])
  have Hs := Lib.hid hs
  simp only [Bool.and_eq_true] at hs
  obtain ⟨N, rfl, hN⟩ := sizeB_nat' hs.1.1
  obtain ⟨M, rfl, hM⟩ := sizeB_nat' hs.1.2
  obtain ⟨K, rfl, hK⟩ := sizeB_nat' hs.2
  simp only [Int.toNat_natCast] at Hr
  have HN := Lib.hid (joinNumber_c (N + M + K) N M K (Nat.le_refl _) hN hM hK)
  clear hs hN hM hK
  go_enter Try.func22, Try.ntmps22
  go_upto_region 0 with (fail)
  refine wp_region_lit ?_
  refine ls_ex (some 6) (.int .i64 0) rfl rfl (exec_assign _ rfl (.int .i64 0) rfl) ?_
  go_frame
  refine ls_ex (some 7) (.int .i64 0) rfl rfl (exec_assign _ rfl (.int .i64 0) rfl) ?_
  go_frame
  refine wpList_nil ?_
  go_upto_region 1 with (fail)
  refine wp_region_lit ?_
  refine ls_ex (some 9) (.int .i64 N) rfl rfl (exec_move _ rfl (.int .i64 N) rfl) ?_
  go_frame
  refine ls_ex (some 10) (.int .i64 M) rfl rfl (exec_move _ rfl (.int .i64 M) rfl) ?_
  go_frame
  refine ls_ex (some 11) (.int .i64 K) rfl rfl (exec_move _ rfl (.int .i64 K) rfl) ?_
  go_frame
  refine ls_ex (some 12) (.agg #[.int .i64 N, .int .i64 M, .int .i64 K]) rfl rfl (exec_build_szN _ _ _ rfl _ _ _ rfl rfl rfl) ?_
  go_frame
  refine ls_op rfl (fun K' hK' => ?_)
  have lz1 := hB.size
  refine wp_new (some 8) rfl (al_impl_sizes rfl) (fun Wz2 nnz3 => ?_)
  have bz4 := nnz3.below (Below.refl _ _) (Nat.le_refl _)
  replace hB := below_after hB bz4
  have hz5 : At Wz2 w.heap.size (.cells #[.int .i64 0, .int .i64 0, .int .i64 0] 53 (0, 0)) := nnz3.at_
  refine hK' _ _ ?_
  clear hK' K' nnz3 bz4
  go_frame
  refine ls_op rfl (fun K' hK' => ?_)
  refine wp_store_all 53 _ _ rfl rfl w.heap.size rfl #[.int .i64 N, .int .i64 M, .int .i64 K] rfl _ _ hz5 3 (by kernel_rfl) rfl rfl (by intro x hx; simp at hx; rcases hx with rfl | rfl | rfl <;> rfl) (fun Wz6 pz7 => ?_)
  replace hB := pz7.below hB (by omega)
  replace hz5 : At Wz6 w.heap.size (.cells #[.int .i64 N, .int .i64 M, .int .i64 K] 53 (0, 0)) := pz7.at_
  refine hK' _ _ ?_
  clear hK' K' pz7
  refine wpList_nil ?_
  go_upto_region 2 with (fail)
  refine wp_region_lit ?_
  refine ls_ex (some 13) (.agg #[.int .i64 N, .int .i64 M, .int .i64 K]) rfl rfl (exec_load_all 53 _ rfl w.heap.size rfl _ _ _ hz5 Try.underlying53 rfl 3 (by kernel_rfl) rfl) ?_
  go_frame
  refine ls_op rfl (fun K' hK' => ?_)
  have lz10 := hB.size
  have lz11 := hz5.lt
  refine wp_call1 (some 14) rfl 40 _ _ rfl (fun args w => by kernel_rfl) _ rfl _ (areAllowed_c N M K _) (fun e Wz8 h => ?_)
  obtain ⟨rfl, bz9⟩ := h
  replace hB := below_after hB bz9
  replace hz5 := hz5.after bz9
  rw [Hs.out]
  clear bz9
  refine ⟨_, rfl, ?_⟩
  refine hK' _ _ ?_
  clear hK' K'
  go_frame
  refine ls_ex (some 15) (.bool false) rfl rfl (exec_not _ _ rfl true rfl) ?_
  go_frame
  refine wpList_nil ?_
  go_upto_region 4 with (fail)
  refine wp_region_lit ?_
  refine ls_ex (some 16) (.agg #[.int .i64 N, .int .i64 M, .int .i64 K]) rfl rfl (exec_load_all 53 _ rfl w.heap.size rfl _ _ _ hz5 Try.underlying53 rfl 3 (by kernel_rfl) rfl) ?_
  go_frame
  refine ls_op rfl (fun K' hK' => ?_)
  have lz14 := hB.size
  have lz15 := hz5.lt
  refine wp_call1 (some 17) rfl 41 _ _ rfl (fun args w => by kernel_rfl) _ rfl _ (HN.out _) (fun e Wz12 h => ?_)
  obtain ⟨rfl, bz13⟩ := h
  replace hB := below_after hB bz13
  replace hz5 := hz5.after bz13
  clear bz13
  refine ⟨_, rfl, ?_⟩
  refine hK' _ _ ?_
  clear hK' K'
  go_frame
  refine ls_ex (some 6) (.int .i64 (jn N M K : Nat)) rfl rfl (exec_assign _ rfl (.int .i64 (jn N M K : Nat)) rfl) ?_
  go_frame
  refine ls_ex (some 7) (.int .i64 0) rfl rfl (exec_assign _ rfl (.int .i64 0) rfl) ?_
  go_frame
  refine wpList_nil ?_
  go_wp2_with fail
  go_ret2
  exact ⟨by rw [Hr.out.1, Hr.out.2]; rfl, hB⟩
theorem implJoinNumber_c (n m k : Int) (w : World) :
    Calls Try.prog 22 #[.int .i64 n, .int .i64 m, .int .i64 k] w (fun e w' => e = .returned (.tuple #[.int .i64 (jnA n m k), .int .i64 (jnCode n m k)]) ∧ Below w.heap.size w w') := by
  rcases Bool.eq_false_or_eq_true (sizeB n && sizeB m && sizeB k) with h | h
  · exact implJoinNumber_yes n m k w h
  · exact implJoinNumber_no n m k w h
end Go.Proofs.Ytelicajipilhjaa
