/-
  impl.TensorOfScheme of a scheme. (Made by mktos4.py.)
-/
import Derived.Test.YtcmpeoijedddjaaTos1
import Derived.Test.YtcmpeoijedddjaaTop
import Derived.Test.YtcmpeoijedddjaaBos
namespace Go.Proofs.Ytcmpeoijedddjaa
open Go.RowKit
set_option maxRecDepth 100000
attribute [local irreducible] wpList
theorem OwnI.ne_ltS {w : World} {lo g : Nat} {v : Value} {xs : List Int} (h : OwnI w lo v xs) (hg : g < lo) : some g ≠ v.ownBlock := fun e => by
  have := (h.lt e.symm).1
  omega
theorem al_impl_Tensor {o : Oper} {a : Act} {w : World} (ho : o.op = .alloc 26) : (execOp a.eval o).run Try.prog w = .ok (.value (.pointer (some ⟨w.heap.size, 0, none⟩))) (w.alloc (.cells #[.int .i64 0, .int .i64 0, .int .i64 0, .int .i64 0, .slice none 0 0] 26 (0, 0))) := by
  unfold execOp
  rw [ho]
  kernel_rfl
set_option maxHeartbeats 4000000 in
theorem implTos_y (P n m k : Nat) (A : Option Addr) (cap : Nat) (qs : List (List Nat)) (w : World) (hr : Rd w A qs) (hlen : qs.length ≤ 1048576) (hs : schemeB P n m k qs = true) :
    Calls Try.prog 19 #[.agg #[.int .i64 P, .int .i64 n, .int .i64 m, .int .i64 k, .slice A qs.length cap]] w (ResT w P (n * m : Nat) (m * k : Nat) (n * k : Nat) (tosL P (n * m) (m * k) (n * k) qs) 0) := by
  have hB := Below.refl w.heap.size w
  have h30 := schemeB_len hs
  obtain ⟨s0, s1, s2, s3⟩ := sizesB_parts (schemeB_sizes hs)
  have hP : 2 ≤ P ∧ P ≤ 5 := by have := prime_le5 s0; omega
  have hn : 1 ≤ n ∧ n ≤ 3 := by simp only [sizeB, Bool.and_eq_true, decide_eq_true_eq] at s1; omega
  have hm : 1 ≤ m ∧ m ≤ 3 := by simp only [sizeB, Bool.and_eq_true, decide_eq_true_eq] at s2; omega
  have hk : 1 ≤ k ∧ k ≤ 3 := by simp only [sizeB, Bool.and_eq_true, decide_eq_true_eq] at s3; omega
  have HZ := Lib.hid (And.intro s1 (And.intro s2 s3))
  obtain ⟨N0, hN0⟩ : ∃ N, N = n * m := ⟨_, rfl⟩
  obtain ⟨N1, hN1⟩ : ∃ N, N = m * k := ⟨_, rfl⟩
  obtain ⟨N2, hN2⟩ : ∃ N, N = n * k := ⟨_, rfl⟩
  have l0 : 1 ≤ N0 ∧ N0 ≤ 9 := by rw [hN0]; exact ⟨Nat.mul_le_mul hn.1 hm.1, Nat.mul_le_mul hn.2 hm.2⟩
  have l1 : 1 ≤ N1 ∧ N1 ≤ 9 := by rw [hN1]; exact ⟨Nat.mul_le_mul hm.1 hk.1, Nat.mul_le_mul hm.2 hk.2⟩
  have l2 : 1 ≤ N2 ∧ N2 ≤ 9 := by rw [hN2]; exact ⟨Nat.mul_le_mul hn.1 hk.1, Nat.mul_le_mul hn.2 hk.2⟩
  have HI0 : Hid ((n : Int) * (m : Int) = (N0 : Int)) := Lib.hid (by rw [hN0]; simp)
  have HI1 : Hid ((m : Int) * (k : Int) = (N1 : Int)) := Lib.hid (by rw [hN1]; simp)
  have HI2 : Hid ((n : Int) * (k : Int) = (N2 : Int)) := Lib.hid (by rw [hN2]; simp)
  rw [← hN0, ← hN1, ← hN2]
  have HTL : Hid (tosL P N0 N1 N2 qs = topL P N0 N1 N2 qs) := Lib.hid rfl
  obtain ⟨NN, hNN⟩ : ∃ N, (topL P N0 N1 N2 qs).length = N := ⟨_, rfl⟩
  have HNN := Lib.hid hNN
  have HS := Lib.hid hs
  clear hs hN0 hN1 hN2 s0 s1 s2 s3 hNN hn hm hk
  go_enter Try.func19, Try.ntmps19
  go_upto_region 0 with (fail)
  refine wp_region_lit ?_
  refine ls_op rfl (fun K' hK' => ?_)
  have lz1 := hB.size
  refine wp_new (some 1) rfl (exec_box 40 _ rfl (#[.int .i64 P, .int .i64 n, .int .i64 m, .int .i64 k, .slice A qs.length cap]) rfl) (fun Wz2 nnz3 => ?_)
  have bz4 := nnz3.below (Below.refl _ _) (Nat.le_refl _)
  replace hB := below_after hB bz4
  have hz5 : At Wz2 w.heap.size (.cells #[.int .i64 P, .int .i64 n, .int .i64 m, .int .i64 k, .slice A qs.length cap] 40 (0, 0)) := nnz3.at_
  refine hK' _ _ ?_
  clear hK' K' nnz3 bz4
  go_frame
  refine ls_op rfl (fun K' hK' => ?_)
  have lz6 := hB.size
  have lz7 := hz5.lt
  refine wp_new (some 2) rfl (al_impl_Tensor rfl) (fun Wz8 nnz9 => ?_)
  have bz10 := nnz9.below (Below.refl _ _) (Nat.le_refl _)
  replace hB := below_after hB bz10
  replace hz5 := hz5.after bz10
  have hz11 : At Wz8 Wz2.heap.size (.cells #[.int .i64 0, .int .i64 0, .int .i64 0, .int .i64 0, .slice none 0 0] 26 (0, 0)) := nnz9.at_
  refine hK' _ _ ?_
  clear hK' K' nnz9 bz10
  go_frame
  refine ls_ex (some 3) (.int .i64 0) rfl rfl (exec_assign _ rfl (.int .i64 0) rfl) ?_
  go_frame
  refine wpList_nil ?_
  go_upto_region 1 with (fail)
  refine wp_region_lit ?_
  refine ls_ex (some 4) (.agg #[.int .i64 P, .int .i64 n, .int .i64 m, .int .i64 k, .slice A qs.length cap]) rfl rfl (exec_load_all 40 _ rfl w.heap.size rfl _ _ _ hz5 Try.underlying40 rfl 5 (by kernel_rfl) rfl) ?_
  go_frame
  refine ls_op rfl (fun K' hK' => ?_)
  have lz14 := hB.size
  have lz15 := hz5.lt
  have lz16 := hz11.lt
  refine wp_call1 (some 5) rfl 46 _ _ rfl (fun args w => by kernel_rfl) _ rfl _ (implIsScheme_c P n m k A cap qs _ (hr.keep hB) hlen) (fun e Wz12 h => ?_)
  obtain ⟨rfl, bz13⟩ := h
  replace hB := below_after hB bz13
  replace hz5 := hz5.after bz13
  replace hz11 := hz11.after bz13
  rw [HS.out]
  clear bz13
  refine ⟨_, rfl, ?_⟩
  refine hK' _ _ ?_
  clear hK' K'
  go_frame
  refine ls_ex (some 6) (.bool false) rfl rfl (exec_not _ _ rfl true rfl) ?_
  go_frame
  refine wpList_nil ?_
  go_upto_region 3 with (fail)
  refine wp_region_y (zs := [7]) (S := fun w' => Below w.heap.size w w' ∧ At w' w.heap.size (.cells #[.int .i64 P, .int .i64 n, .int .i64 m, .int .i64 k, .slice A qs.length cap] 40 (0, 0))) (S2 := fun w' => True) (by kernel_rfl) ?_
  change wpAnyY _ _ _ _ _ _ _ _ _ _ (World.drew _)
  generalize hwdz17 : World.drew _ = wdz17
  replace hB : Below w.heap.size w wdz17 := by rw [← hwdz17]; exact hB.drew
  replace hz5 : At wdz17 w.heap.size (.cells #[.int .i64 P, .int .i64 n, .int .i64 m, .int .i64 k, .slice A qs.length cap] 40 (0, 0)) := by rw [← hwdz17]; exact hz5
  replace hz11 : At wdz17 Wz2.heap.size (.cells #[.int .i64 0, .int .i64 0, .int .i64 0, .int .i64 0, .slice none 0 0] 26 (0, 0)) := by rw [← hwdz17]; exact hz11
  clear hwdz17
  refine y_yield 0 (some 8) (.pointer (some ⟨w.heap.size, 0, none⟩)) rfl (by kernel_rfl) (by kernel_rfl) (by kernel_rfl) (fun _ _ _ h => h) rfl rfl ⟨hB, hz5⟩ (fun w' h' => exec_fieldAddr 40 _ 0 rfl _ (by kernel_rfl)) ?_
  go_frame
  refine y_yield 1 (some 9) (.int .i64 P) rfl (by kernel_rfl) (by kernel_rfl) (by kernel_rfl) (fun _ _ _ h => h) rfl rfl ⟨hB, hz5⟩ (fun w' h' => exec_load_one 2 _ rfl w.heap.size 0 rfl (.int .i64 P) _ Try.underlying2 rfl (h'.2.at_ 0)) ?_
  go_frame
  refine y_yield 2 (some 10) (.agg #[.int .i64 P, .int .i64 n, .int .i64 m, .int .i64 k, .slice A qs.length cap]) rfl (by kernel_rfl) (by kernel_rfl) (by kernel_rfl) (fun _ _ _ h => h) rfl rfl ⟨hB, hz5⟩ (fun w' h' => exec_load_all 40 _ rfl w.heap.size rfl _ _ _ h'.2 Try.underlying40 rfl 5 (by kernel_rfl) rfl) ?_
  go_frame
  refine y_yield 4 (some 12) (.pointer (some ⟨w.heap.size, 4, none⟩)) rfl (by kernel_rfl) (by kernel_rfl) (by kernel_rfl) (fun _ _ _ h => h) rfl rfl ⟨hB, hz5⟩ (fun w' h' => exec_fieldAddr 40 _ 4 rfl _ (by kernel_rfl)) ?_
  go_frame
  refine y_yield 5 (some 13) (.slice A qs.length cap) rfl (by kernel_rfl) (by kernel_rfl) (by kernel_rfl) (fun _ _ _ h => h) rfl rfl ⟨hB, hz5⟩ (fun w' h' => exec_load_one 38 _ rfl w.heap.size 4 rfl (.slice A qs.length cap) _ Try.underlying38 rfl (h'.2.at_ 4)) ?_
  go_frame
  refine y_oper 3 (by kernel_rfl) rfl rfl (fun K' hK' => ?_)
  have lz20 := hB.size
  have lz21 := hz5.lt
  have lz22 := hz11.lt
  refine wp_call1 (some 11) rfl 48 _ _ rfl (fun args w => by kernel_rfl) _ rfl _ (boxOfScheme_c P n m k A qs.length cap _ HZ.out.1 HZ.out.2.1 HZ.out.2.2) (fun e Wz18 h => ?_)
  obtain ⟨rfl, bz19⟩ := h
  replace hB := below_after hB bz19
  replace hz5 := hz5.after bz19
  replace hz11 := hz11.after bz19
  rw [HI0.out, HI1.out, HI2.out]
  clear bz19
  refine ⟨_, rfl, ?_⟩
  refine hK' _ _ ⟨hB, hz5⟩ (fun _ => trivial) ?_
  clear hK' K'
  go_frame
  refine y_oper 6 (by kernel_rfl) rfl rfl (fun K' hK' => ?_)
  have lz25 := hB.size
  have lz26 := hz5.lt
  have lz27 := hz11.lt
  refine wp_call3 (some 14) rfl 47 _ _ _ _ rfl (fun args w => by kernel_rfl) _ _ _ rfl rfl rfl _ (tensorOfProducts_c P N0 N1 N2 A cap qs _ (hr.keep hB) (by omega) hP l0 l1 l2) (fun e Wz23 h => ?_)
  obtain ⟨v7, rfl, ho, bz24⟩ := h
  replace hB := below_after hB bz24
  replace hz5 := hz5.after bz24
  replace hz11 := hz11.after bz24
  obtain ⟨A7, c7, rfl, _⟩ := ho.rd
  rw [HNN.out] at ho ⊢
  clear bz24
  refine ⟨_, rfl, ?_⟩
  refine hK' _ _ ⟨hB, hz5⟩ (fun _ => trivial) ?_
  clear hK' K'
  go_frame
  refine y_oper 7 (by kernel_rfl) rfl rfl (fun K' hK' => ?_)
  refine wp_store_all 26 _ _ rfl rfl Wz2.heap.size rfl #[.int .i64 P, .int .i64 N0, .int .i64 N1, .int .i64 N2, .slice A7 NN c7] rfl _ _ hz11 5 (by kernel_rfl) rfl rfl (one5 _ _ _ _ _ _ _) (fun Wz28 pz29 => ?_)
  replace hB := pz29.below hB (by omega)
  replace hz5 := pz29.other hz5 (by omega)
  replace ho := ho.put pz29 (ho.ne_ltS (by omega))
  replace hz11 : At Wz28 Wz2.heap.size (.cells #[.int .i64 P, .int .i64 N0, .int .i64 N1, .int .i64 N2, .slice A7 NN c7] 26 (0, 0)) := pz29.at_
  refine hK' _ _ ⟨hB, hz5⟩ (fun h => absurd (by decide) h) ?_
  clear hK' K' pz29
  refine y_oper 8 (by kernel_rfl) rfl rfl (fun K' hK' => ?_)
  refine wp_exec (some 3) rfl (.int .i64 0) (exec_assign _ rfl (.int .i64 0) rfl) ?_
  refine hK' _ _ ⟨hB, hz5⟩ (fun _ => trivial) ?_
  clear hK' K'
  go_frame
  refine y_done (by kernel_rfl) ?_ _
  go_wp2_with fail
  refine bodyPost_ret (results_at2 rfl _ _ Wz2.heap.size _ _ _ rfl _ rfl hz11 Try.underlying26 rfl 5 (by kernel_rfl) rfl) rfl ?_
  unfold ResT
  exact ⟨_, rfl, by rw [HTL.out]; exact ho.mono (by omega), hB⟩
end Go.Proofs.Ytcmpeoijedddjaa
