/-
  ReduceScheme of both sides. (Made by mkrdc.py.)
-/
import Derived.Test.YtemkhlokpinecaaRdb
import Derived.Test.YtemkhlokpinecaaNrm6
namespace Go.Proofs.Ytemkhlokpinecaa
open Go.RowKit
set_option maxRecDepth 100000
attribute [local irreducible] wpList
def rCode (p n m k : Int) (qs : List (List Nat)) : Int := if schemeB p n m k qs = true then 0 else 1
def rZ (code x : Int) : Int := if code = 0 then x else 0
def rL (code : Int) (l : List (List Nat)) : List (List Nat) := if code = 0 then l else []
theorem re_res {p n m k : Int} {qs : List (List Nat)} (h : ∀ q ∈ qs, Bytes 27 q) : (∀ r ∈ rL (rCode p n m k qs) (unA (reF p) qs.length (qs.map (normQ p))), Bytes 27 r) ∧ (rL (rCode p n m k qs) (unA (reF p) qs.length (qs.map (normQ p)))).length ≤ 1048576 := by
  unfold rL
  split
  · rename_i hc
    unfold rCode at hc
    split at hc
    · rename_i hx
      have hpp := (sizesB_parts (schemeB_sizes hx)).1
      have h9 := unA_facts (reF_good hpp) qs.length (scheme_gr hpp h hx)
      exact ⟨fun r hr => (h9.2 r hr).b, by have := schemeB_len hx; have := h9.1; rw [List.length_map] at this; omega⟩
    · cases hc
  · exact ⟨(fun r hr => by cases hr), by simp⟩
theorem alRc_impl_Scheme {o : Oper} {a : Act} {w : World} (ho : o.op = .alloc 28) : (execOp a.eval o).run Try.prog w = .ok (.value (.pointer (some ⟨w.heap.size, 0, none⟩))) (w.alloc (.cells #[.int .i64 0, .int .i64 0, .int .i64 0, .int .i64 0, .slice none 0 0] 28 (0, 0))) := by
  unfold execOp
  rw [ho]
  kernel_rfl
set_option maxHeartbeats 4000000 in
theorem specRe_a (p n m k : Int) (g0 c : Nat) (qs : List (List Nat)) (w : World) (hR : Rd w (some ⟨g0, 0, none⟩) qs) (hlen : qs.length ≤ 1048576) (hx : schemeB p n m k qs = false) :
    Calls Try.prog 7 #[.agg #[.int .i64 p, .int .i64 n, .int .i64 m, .int .i64 k, .slice (some ⟨g0, 0, none⟩) qs.length c]] w (ResS w (rZ (rCode p n m k qs) p) (rZ (rCode p n m k qs) n) (rZ (rCode p n m k qs) m) (rZ (rCode p n m k qs) k) (rL (rCode p n m k qs) (unA (reF p) qs.length (qs.map (normQ p)))) (rCode p n m k qs)) := by
  have hB := Below.refl w.heap.size w
  have HC : Hid ((rCode p n m k qs) = 1) := Lib.hid (by unfold rCode; rw [hx]; rfl)
  have HX := Lib.hid hx
  clear hx
  go_enter Try.func7, Try.ntmps7
  go_upto_region 0 with (fail)
  refine wp_region_lit ?_
  refine ls_op rfl (fun K' hK' => ?_)
  have lz1 := hB.size
  refine wp_new (some 1) rfl (exec_box 28 _ rfl (#[.int .i64 p, .int .i64 n, .int .i64 m, .int .i64 k, .slice (some ⟨g0, 0, none⟩) qs.length c]) rfl) (fun Wz2 nnz3 => ?_)
  have bz4 := nnz3.below (Below.refl _ _) (Nat.le_refl _)
  replace hB := below_after hB bz4
  have hz5 : At Wz2 w.heap.size (.cells #[.int .i64 p, .int .i64 n, .int .i64 m, .int .i64 k, .slice (some ⟨g0, 0, none⟩) qs.length c] 28 (0, 0)) := nnz3.at_
  refine hK' _ _ ?_
  clear hK' K' nnz3 bz4
  go_frame
  refine ls_op rfl (fun K' hK' => ?_)
  have lz6 := hB.size
  have lz7 := hz5.lt
  refine wp_new (some 2) rfl (alRc_impl_Scheme rfl) (fun Wz8 nnz9 => ?_)
  have bz10 := nnz9.below (Below.refl _ _) (Nat.le_refl _)
  replace hB := below_after hB bz10
  replace hz5 := hz5.after bz10
  have hz11 : At Wz8 Wz2.heap.size (.cells #[.int .i64 0, .int .i64 0, .int .i64 0, .int .i64 0, .slice none 0 0] 28 (0, 0)) := nnz9.at_
  refine hK' _ _ ?_
  clear hK' K' nnz9 bz10
  go_frame
  refine ls_ex (some 3) (.int .i64 0) rfl rfl (exec_assign _ rfl (.int .i64 0) rfl) ?_
  go_frame
  refine wpList_nil ?_
  go_upto_region 1 with (fail)
  refine wp_region_lit ?_
  refine ls_ex (some 4) (.agg #[.int .i64 p, .int .i64 n, .int .i64 m, .int .i64 k, .slice (some ⟨g0, 0, none⟩) qs.length c]) rfl rfl (exec_load_all 28 _ rfl w.heap.size rfl _ _ _ hz5 Try.underlying28 rfl 5 (by kernel_rfl) rfl) ?_
  go_frame
  refine ls_op rfl (fun K' hK' => ?_)
  have lz14 := hB.size
  have lz15 := hz5.lt
  have lz16 := hz11.lt
  refine wp_call1 (some 5) rfl 23 _ _ rfl (fun args w => by kernel_rfl) _ rfl _ (l01Is_c p n m k (some ⟨g0, 0, none⟩) c qs _ (hR.keep hB) hlen) (fun e Wz12 h => ?_)
  obtain ⟨rfl, bz13⟩ := h
  replace hB := below_after hB bz13
  replace hz5 := hz5.after bz13
  replace hz11 := hz11.after bz13
  rw [HX.out]
  clear bz13
  refine ⟨_, rfl, ?_⟩
  refine hK' _ _ ?_
  clear hK' K'
  go_frame
  refine ls_ex (some 6) (.bool true) rfl rfl (exec_not _ _ rfl false rfl) ?_
  go_frame
  refine wpList_nil ?_
  go_upto_region 2 with (fail)
  refine wp_region_lit ?_
  refine ls_ex (some 7) (.agg #[.int .i64 0, .int .i64 0, .int .i64 0, .int .i64 0, .slice none 0 0]) rfl rfl (exec_build_nil 28 rfl _ (by kernel_rfl)) ?_
  go_frame
  refine ls_op rfl (fun K' hK' => ?_)
  refine wp_store_all 28 _ _ rfl rfl Wz2.heap.size rfl #[.int .i64 0, .int .i64 0, .int .i64 0, .int .i64 0, .slice none 0 0] rfl _ _ hz11 5 (by kernel_rfl) rfl rfl (one5 _ _ _ _ _ _ _) (fun Wz17 pz18 => ?_)
  replace hB := pz18.below hB (by omega)
  replace hz5 := pz18.other hz5 (by omega)
  replace hz11 : At Wz17 Wz2.heap.size (.cells #[.int .i64 0, .int .i64 0, .int .i64 0, .int .i64 0, .slice none 0 0] 28 (0, 0)) := pz18.at_
  refine hK' _ _ ?_
  clear hK' K' pz18
  refine ls_ex (some 3) (.int .i64 1) rfl rfl (exec_assign _ rfl (.int .i64 1) rfl) ?_
  go_frame
  refine wpList_nil ?_
  go_wp2_with fail
  refine bodyPost_ret (results_at2 rfl _ _ Wz2.heap.size _ _ _ rfl _ rfl hz11 Try.underlying28 rfl 5 (by kernel_rfl) rfl) rfl ?_
  unfold ResS rZ rL
  rw [HC.out]
  exact ⟨_, rfl, Own.nil _ _, hB⟩
set_option maxHeartbeats 6400000 in
theorem specRe_y (p n m k : Int) (g0 c : Nat) (qs : List (List Nat)) (w : World) (hR : Rd w (some ⟨g0, 0, none⟩) qs) (hlen : qs.length ≤ 1048576) (hx : schemeB p n m k qs = true) :
    Calls Try.prog 7 #[.agg #[.int .i64 p, .int .i64 n, .int .i64 m, .int .i64 k, .slice (some ⟨g0, 0, none⟩) qs.length c]] w (ResS w (rZ (rCode p n m k qs) p) (rZ (rCode p n m k qs) n) (rZ (rCode p n m k qs) m) (rZ (rCode p n m k qs) k) (rL (rCode p n m k qs) (unA (reF p) qs.length (qs.map (normQ p)))) (rCode p n m k qs)) := by
  have hB := Below.refl w.heap.size w
  have HC : Hid ((rCode p n m k qs) = 0) := Lib.hid (by unfold rCode; rw [hx]; rfl)
  obtain ⟨N8, hN8⟩ : ∃ z9, (unA (reF p) qs.length (qs.map (normQ p))).length = z9 := ⟨_, rfl⟩
  have HN8 := Lib.hid hN8
  have HX := Lib.hid hx
  clear hx hN8
  go_enter Try.func7, Try.ntmps7
  go_upto_region 0 with (fail)
  refine wp_region_lit ?_
  refine ls_op rfl (fun K' hK' => ?_)
  have lz1 := hB.size
  refine wp_new (some 1) rfl (exec_box 28 _ rfl (#[.int .i64 p, .int .i64 n, .int .i64 m, .int .i64 k, .slice (some ⟨g0, 0, none⟩) qs.length c]) rfl) (fun Wz2 nnz3 => ?_)
  have bz4 := nnz3.below (Below.refl _ _) (Nat.le_refl _)
  replace hB := below_after hB bz4
  have hz5 : At Wz2 w.heap.size (.cells #[.int .i64 p, .int .i64 n, .int .i64 m, .int .i64 k, .slice (some ⟨g0, 0, none⟩) qs.length c] 28 (0, 0)) := nnz3.at_
  refine hK' _ _ ?_
  clear hK' K' nnz3 bz4
  go_frame
  refine ls_op rfl (fun K' hK' => ?_)
  have lz6 := hB.size
  have lz7 := hz5.lt
  refine wp_new (some 2) rfl (alRc_impl_Scheme rfl) (fun Wz8 nnz9 => ?_)
  have bz10 := nnz9.below (Below.refl _ _) (Nat.le_refl _)
  replace hB := below_after hB bz10
  replace hz5 := hz5.after bz10
  have hz11 : At Wz8 Wz2.heap.size (.cells #[.int .i64 0, .int .i64 0, .int .i64 0, .int .i64 0, .slice none 0 0] 28 (0, 0)) := nnz9.at_
  refine hK' _ _ ?_
  clear hK' K' nnz9 bz10
  go_frame
  refine ls_ex (some 3) (.int .i64 0) rfl rfl (exec_assign _ rfl (.int .i64 0) rfl) ?_
  go_frame
  refine wpList_nil ?_
  go_upto_region 1 with (fail)
  refine wp_region_lit ?_
  refine ls_ex (some 4) (.agg #[.int .i64 p, .int .i64 n, .int .i64 m, .int .i64 k, .slice (some ⟨g0, 0, none⟩) qs.length c]) rfl rfl (exec_load_all 28 _ rfl w.heap.size rfl _ _ _ hz5 Try.underlying28 rfl 5 (by kernel_rfl) rfl) ?_
  go_frame
  refine ls_op rfl (fun K' hK' => ?_)
  have lz14 := hB.size
  have lz15 := hz5.lt
  have lz16 := hz11.lt
  refine wp_call1 (some 5) rfl 23 _ _ rfl (fun args w => by kernel_rfl) _ rfl _ (l01Is_c p n m k (some ⟨g0, 0, none⟩) c qs _ (hR.keep hB) hlen) (fun e Wz12 h => ?_)
  obtain ⟨rfl, bz13⟩ := h
  replace hB := below_after hB bz13
  replace hz5 := hz5.after bz13
  replace hz11 := hz11.after bz13
  rw [HX.out]
  clear bz13
  refine ⟨_, rfl, ?_⟩
  refine hK' _ _ ?_
  clear hK' K'
  go_frame
  refine ls_ex (some 6) (.bool false) rfl rfl (exec_not _ _ rfl true rfl) ?_
  go_frame
  refine wpList_nil ?_
  go_upto_region 3 with (fail)
  refine wp_region_lit ?_
  refine ls_ex (some 8) (.agg #[.int .i64 p, .int .i64 n, .int .i64 m, .int .i64 k, .slice (some ⟨g0, 0, none⟩) qs.length c]) rfl rfl (exec_load_all 28 _ rfl w.heap.size rfl _ _ _ hz5 Try.underlying28 rfl 5 (by kernel_rfl) rfl) ?_
  go_frame
  refine ls_op rfl (fun K' hK' => ?_)
  have lz19 := hB.size
  have lz20 := hz5.lt
  have lz21 := hz11.lt
  have lo9 := hB.size
  refine wp_call1 (some 9) rfl 24 _ _ rfl (fun args w => by kernel_rfl) _ rfl _ (l03Reduce_c p n m k g0 c qs _ (hR.keep hB) HX.out) (fun e Wz17 h => ?_)
  obtain ⟨v8, rfl, ho, bz18⟩ := h
  replace hB := below_after hB bz18
  replace hz5 := hz5.after bz18
  replace hz11 := hz11.after bz18
  obtain ⟨A8, c8, rfl⟩ := Own.rdN2 ho (n := N8) HN8.out
  clear bz18
  refine ⟨_, rfl, ?_⟩
  refine hK' _ _ ?_
  clear hK' K'
  go_frame
  refine ls_op rfl (fun K' hK' => ?_)
  refine wp_store_all 28 _ _ rfl rfl Wz2.heap.size rfl #[.int .i64 p, .int .i64 n, .int .i64 m, .int .i64 k, .slice A8 N8 c8] rfl _ _ hz11 5 (by kernel_rfl) rfl rfl (one5 _ _ _ _ _ _ _) (fun Wz22 pz23 => ?_)
  replace hB := pz23.below hB (by omega)
  replace hz5 := pz23.other hz5 (by omega)
  replace ho := ho.put pz23 (ho.off hz11 (by decide))
  replace hz11 : At Wz22 Wz2.heap.size (.cells #[.int .i64 p, .int .i64 n, .int .i64 m, .int .i64 k, .slice A8 N8 c8] 28 (0, 0)) := pz23.at_
  refine hK' _ _ ?_
  clear hK' K' pz23
  refine ls_ex (some 3) (.int .i64 0) rfl rfl (exec_assign _ rfl (.int .i64 0) rfl) ?_
  go_frame
  refine wpList_nil ?_
  go_wp2_with fail
  refine bodyPost_ret (results_at2 rfl _ _ Wz2.heap.size _ _ _ rfl _ rfl hz11 Try.underlying28 rfl 5 (by kernel_rfl) rfl) rfl ?_
  unfold ResS rZ rL
  rw [HC.out]
  exact ⟨_, rfl, ho.mono (by omega), hB⟩
theorem specReduceScheme_c (p n m k : Int) (g0 c : Nat) (qs : List (List Nat)) (w : World) (hR : Rd w (some ⟨g0, 0, none⟩) qs) (hlen : qs.length ≤ 1048576) : Calls Try.prog 7 #[.agg #[.int .i64 p, .int .i64 n, .int .i64 m, .int .i64 k, .slice (some ⟨g0, 0, none⟩) qs.length c]] w (ResS w (rZ (rCode p n m k qs) p) (rZ (rCode p n m k qs) n) (rZ (rCode p n m k qs) m) (rZ (rCode p n m k qs) k) (rL (rCode p n m k qs) (unA (reF p) qs.length (qs.map (normQ p)))) (rCode p n m k qs)) := by
  rcases Bool.eq_false_or_eq_true (schemeB p n m k qs) with hx | hx
  · exact specRe_y p n m k g0 c qs w hR hlen hx
  · exact specRe_a p n m k g0 c qs w hR hlen hx
set_option maxHeartbeats 4000000 in
theorem implRe_a (p n m k : Int) (g0 c : Nat) (qs : List (List Nat)) (w : World) (hR : Rd w (some ⟨g0, 0, none⟩) qs) (hlen : qs.length ≤ 1048576) (hx : schemeB p n m k qs = false) :
    Calls Try.prog 9 #[.agg #[.int .i64 p, .int .i64 n, .int .i64 m, .int .i64 k, .slice (some ⟨g0, 0, none⟩) qs.length c]] w (ResS w (rZ (rCode p n m k qs) p) (rZ (rCode p n m k qs) n) (rZ (rCode p n m k qs) m) (rZ (rCode p n m k qs) k) (rL (rCode p n m k qs) (unA (reF p) qs.length (qs.map (normQ p)))) (rCode p n m k qs)) := by
  have hB := Below.refl w.heap.size w
  have HC : Hid ((rCode p n m k qs) = 1) := Lib.hid (by unfold rCode; rw [hx]; rfl)
  have HX := Lib.hid hx
  clear hx
  go_enter Try.func9, Try.ntmps9
  go_upto_region 0 with (fail)
  refine wp_region_lit ?_
  refine ls_op rfl (fun K' hK' => ?_)
  have lz1 := hB.size
  refine wp_new (some 1) rfl (exec_box 28 _ rfl (#[.int .i64 p, .int .i64 n, .int .i64 m, .int .i64 k, .slice (some ⟨g0, 0, none⟩) qs.length c]) rfl) (fun Wz2 nnz3 => ?_)
  have bz4 := nnz3.below (Below.refl _ _) (Nat.le_refl _)
  replace hB := below_after hB bz4
  have hz5 : At Wz2 w.heap.size (.cells #[.int .i64 p, .int .i64 n, .int .i64 m, .int .i64 k, .slice (some ⟨g0, 0, none⟩) qs.length c] 28 (0, 0)) := nnz3.at_
  refine hK' _ _ ?_
  clear hK' K' nnz3 bz4
  go_frame
  refine ls_op rfl (fun K' hK' => ?_)
  have lz6 := hB.size
  have lz7 := hz5.lt
  refine wp_new (some 2) rfl (alRc_impl_Scheme rfl) (fun Wz8 nnz9 => ?_)
  have bz10 := nnz9.below (Below.refl _ _) (Nat.le_refl _)
  replace hB := below_after hB bz10
  replace hz5 := hz5.after bz10
  have hz11 : At Wz8 Wz2.heap.size (.cells #[.int .i64 0, .int .i64 0, .int .i64 0, .int .i64 0, .slice none 0 0] 28 (0, 0)) := nnz9.at_
  refine hK' _ _ ?_
  clear hK' K' nnz9 bz10
  go_frame
  refine ls_ex (some 3) (.int .i64 0) rfl rfl (exec_assign _ rfl (.int .i64 0) rfl) ?_
  go_frame
  refine wpList_nil ?_
  go_upto_region 1 with (fail)
  refine wp_region_lit ?_
  refine ls_ex (some 5) (.agg #[.int .i64 p, .int .i64 n, .int .i64 m, .int .i64 k, .slice (some ⟨g0, 0, none⟩) qs.length c]) rfl rfl (exec_load_all 28 _ rfl w.heap.size rfl _ _ _ hz5 Try.underlying28 rfl 5 (by kernel_rfl) rfl) ?_
  go_frame
  refine ls_op rfl (fun K' hK' => ?_)
  have lz14 := hB.size
  have lz15 := hz5.lt
  have lz16 := hz11.lt
  refine wp_call1 (some 6) rfl 26 _ _ rfl (fun args w => by kernel_rfl) _ rfl _ (implIsScheme_c p n m k (some ⟨g0, 0, none⟩) c qs _ (hR.keep hB) hlen) (fun e Wz12 h => ?_)
  obtain ⟨rfl, bz13⟩ := h
  replace hB := below_after hB bz13
  replace hz5 := hz5.after bz13
  replace hz11 := hz11.after bz13
  rw [HX.out]
  clear bz13
  refine ⟨_, rfl, ?_⟩
  refine hK' _ _ ?_
  clear hK' K'
  go_frame
  refine ls_ex (some 7) (.bool true) rfl rfl (exec_not _ _ rfl false rfl) ?_
  go_frame
  refine wpList_nil ?_
  go_upto_region 2 with (fail)
  refine wp_region_lit ?_
  refine ls_ex (some 8) (.agg #[.int .i64 0, .int .i64 0, .int .i64 0, .int .i64 0, .slice none 0 0]) rfl rfl (exec_build_nil 28 rfl _ (by kernel_rfl)) ?_
  go_frame
  refine ls_op rfl (fun K' hK' => ?_)
  refine wp_store_all 28 _ _ rfl rfl Wz2.heap.size rfl #[.int .i64 0, .int .i64 0, .int .i64 0, .int .i64 0, .slice none 0 0] rfl _ _ hz11 5 (by kernel_rfl) rfl rfl (one5 _ _ _ _ _ _ _) (fun Wz17 pz18 => ?_)
  replace hB := pz18.below hB (by omega)
  replace hz5 := pz18.other hz5 (by omega)
  replace hz11 : At Wz17 Wz2.heap.size (.cells #[.int .i64 0, .int .i64 0, .int .i64 0, .int .i64 0, .slice none 0 0] 28 (0, 0)) := pz18.at_
  refine hK' _ _ ?_
  clear hK' K' pz18
  refine ls_ex (some 3) (.int .i64 1) rfl rfl (exec_assign _ rfl (.int .i64 1) rfl) ?_
  go_frame
  refine wpList_nil ?_
  go_wp2_with fail
  refine bodyPost_ret (results_at2 rfl _ _ Wz2.heap.size _ _ _ rfl _ rfl hz11 Try.underlying28 rfl 5 (by kernel_rfl) rfl) rfl ?_
  unfold ResS rZ rL
  rw [HC.out]
  exact ⟨_, rfl, Own.nil _ _, hB⟩
set_option maxHeartbeats 6400000 in
theorem implRe_y (p n m k : Int) (g0 c : Nat) (qs : List (List Nat)) (w : World) (hR : Rd w (some ⟨g0, 0, none⟩) qs) (hlen : qs.length ≤ 1048576) (hx : schemeB p n m k qs = true) :
    Calls Try.prog 9 #[.agg #[.int .i64 p, .int .i64 n, .int .i64 m, .int .i64 k, .slice (some ⟨g0, 0, none⟩) qs.length c]] w (ResS w (rZ (rCode p n m k qs) p) (rZ (rCode p n m k qs) n) (rZ (rCode p n m k qs) m) (rZ (rCode p n m k qs) k) (rL (rCode p n m k qs) (unA (reF p) qs.length (qs.map (normQ p)))) (rCode p n m k qs)) := by
  have hB := Below.refl w.heap.size w
  have HC : Hid ((rCode p n m k qs) = 0) := Lib.hid (by unfold rCode; rw [hx]; rfl)
  obtain ⟨N8, hN8⟩ : ∃ z9, (unA (reF p) qs.length (qs.map (normQ p))).length = z9 := ⟨_, rfl⟩
  have HN8 := Lib.hid hN8
  have HX := Lib.hid hx
  have hpp := (sizesB_parts (schemeB_sizes hx)).1
  have hl30 := schemeB_len hx
  have HLd := Lib.hid (scheme_lead hR.good hx)
  have HGm := Lib.hid (scheme_gr hpp hR.good hx)
  have HGb : Hid (∀ q ∈ qs.map (normQ p), Bytes 27 q) := Lib.hid (fun x hx => (HGm.out x hx).b)
  obtain ⟨L9, hL9⟩ : ∃ z9, (qs.map (normQ p)).length = z9 := ⟨_, rfl⟩
  have hL9e : L9 = qs.length := by rw [← hL9, List.length_map]
  have hL9b : L9 ≤ qs.length := by omega
  have HLq : Hid (unA (reF p) L9 (qs.map (normQ p)) = unA (reF p) qs.length (qs.map (normQ p))) := Lib.hid (by rw [hL9e])
  have HL9 := Lib.hid hL9
  clear hL9 hL9e
  clear hx hN8
  go_enter Try.func9, Try.ntmps9
  go_upto_region 0 with (fail)
  refine wp_region_lit ?_
  refine ls_op rfl (fun K' hK' => ?_)
  have lz1 := hB.size
  refine wp_new (some 1) rfl (exec_box 28 _ rfl (#[.int .i64 p, .int .i64 n, .int .i64 m, .int .i64 k, .slice (some ⟨g0, 0, none⟩) qs.length c]) rfl) (fun Wz2 nnz3 => ?_)
  have bz4 := nnz3.below (Below.refl _ _) (Nat.le_refl _)
  replace hB := below_after hB bz4
  have hz5 : At Wz2 w.heap.size (.cells #[.int .i64 p, .int .i64 n, .int .i64 m, .int .i64 k, .slice (some ⟨g0, 0, none⟩) qs.length c] 28 (0, 0)) := nnz3.at_
  refine hK' _ _ ?_
  clear hK' K' nnz3 bz4
  go_frame
  refine ls_op rfl (fun K' hK' => ?_)
  have lz6 := hB.size
  have lz7 := hz5.lt
  refine wp_new (some 2) rfl (alRc_impl_Scheme rfl) (fun Wz8 nnz9 => ?_)
  have bz10 := nnz9.below (Below.refl _ _) (Nat.le_refl _)
  replace hB := below_after hB bz10
  replace hz5 := hz5.after bz10
  have hz11 : At Wz8 Wz2.heap.size (.cells #[.int .i64 0, .int .i64 0, .int .i64 0, .int .i64 0, .slice none 0 0] 28 (0, 0)) := nnz9.at_
  refine hK' _ _ ?_
  clear hK' K' nnz9 bz10
  go_frame
  refine ls_ex (some 3) (.int .i64 0) rfl rfl (exec_assign _ rfl (.int .i64 0) rfl) ?_
  go_frame
  refine wpList_nil ?_
  go_upto_region 1 with (fail)
  refine wp_region_lit ?_
  refine ls_ex (some 5) (.agg #[.int .i64 p, .int .i64 n, .int .i64 m, .int .i64 k, .slice (some ⟨g0, 0, none⟩) qs.length c]) rfl rfl (exec_load_all 28 _ rfl w.heap.size rfl _ _ _ hz5 Try.underlying28 rfl 5 (by kernel_rfl) rfl) ?_
  go_frame
  refine ls_op rfl (fun K' hK' => ?_)
  have lz14 := hB.size
  have lz15 := hz5.lt
  have lz16 := hz11.lt
  refine wp_call1 (some 6) rfl 26 _ _ rfl (fun args w => by kernel_rfl) _ rfl _ (implIsScheme_c p n m k (some ⟨g0, 0, none⟩) c qs _ (hR.keep hB) hlen) (fun e Wz12 h => ?_)
  obtain ⟨rfl, bz13⟩ := h
  replace hB := below_after hB bz13
  replace hz5 := hz5.after bz13
  replace hz11 := hz11.after bz13
  rw [HX.out]
  clear bz13
  refine ⟨_, rfl, ?_⟩
  refine hK' _ _ ?_
  clear hK' K'
  go_frame
  refine ls_ex (some 7) (.bool false) rfl rfl (exec_not _ _ rfl true rfl) ?_
  go_frame
  refine wpList_nil ?_
  go_upto_region 3 with (fail)
  refine wp_region_lit ?_
  refine ls_ex (some 9) (.agg #[.int .i64 p, .int .i64 n, .int .i64 m, .int .i64 k, .slice (some ⟨g0, 0, none⟩) qs.length c]) rfl rfl (exec_load_all 28 _ rfl w.heap.size rfl _ _ _ hz5 Try.underlying28 rfl 5 (by kernel_rfl) rfl) ?_
  go_frame
  refine ls_op rfl (fun K' hK' => ?_)
  have lz19 := hB.size
  have lz20 := hz5.lt
  have lz21 := hz11.lt
  have lo7 := hB.size
  refine wp_call1 (some 10) rfl 28 _ _ rfl (fun args w => by kernel_rfl) _ rfl _ (normalProducts_c p n m k g0 c qs _ (hR.keep hB) (by omega) hpp HLd.out) (fun e Wz17 h => ?_)
  obtain ⟨v7, rfl, ho7, bz18⟩ := h
  replace hB := below_after hB bz18
  replace hz5 := hz5.after bz18
  replace hz11 := hz11.after bz18
  obtain ⟨A7, c7, rfl⟩ := Own.rdN2 ho7 (n := L9) HL9.out
  clear bz18
  refine ⟨_, rfl, ?_⟩
  refine hK' _ _ ?_
  clear hK' K'
  go_frame
  refine ls_ex (some 11) (.func (.func 29) #[] #[.pointer (some ⟨w.heap.size, 0, none⟩)]) rfl rfl (exec_mkf1U _ _ rfl _ rfl) ?_
  go_frame
  refine ls_op rfl (fun K' hK' => ?_)
  have lz24 := hB.size
  have lz25 := hz5.lt
  have lz26 := hz11.lt
  have lo9 := hB.size
  refine wp_call2 (some 12) rfl 27 _ _ _ rfl (fun args w => by kernel_rfl) _ _ rfl rfl _ (united_cN (reF p) (GR p) 29 #[.pointer (some ⟨w.heap.size, 0, none⟩)] A7 c7 (qs.map (normQ p)) L9 HL9.out _ (fun args w => by kernel_rfl) (ho7.rd' HGb.out) (by omega) (fun _ h => h.b) HGm.out (reF_good hpp) (fun q r w1 hb hq hr => reClos_c p n m k _ _ _ _ q r w1 hpp hq hr (hz5.after hb))) (fun e Wz22 h => ?_)
  obtain ⟨v8, rfl, ho, bz23⟩ := h
  replace hB := below_after hB bz23
  replace hz5 := hz5.after bz23
  replace hz11 := hz11.after bz23
  replace ho7 := ho7.below bz23
  rw [HLq.out] at ho
  obtain ⟨A8, c8, rfl⟩ := Own.rdN2 ho (n := N8) HN8.out
  clear bz23
  refine ⟨_, rfl, ?_⟩
  refine hK' _ _ ?_
  clear hK' K'
  go_frame
  refine ls_ex (some 4) (.slice A8 N8 c8) rfl rfl (exec_assign _ rfl (.slice A8 N8 c8) rfl) ?_
  go_frame
  refine wpList_nil ?_
  go_upto_region 4 with (fail)
  refine wp_region_y (zs := [6]) (S := fun w' => Below w.heap.size w w' ∧ At w' w.heap.size (.cells #[.int .i64 p, .int .i64 n, .int .i64 m, .int .i64 k, .slice (some ⟨g0, 0, none⟩) qs.length c] 28 (0, 0))) (S2 := fun w' => True) (by kernel_rfl) ?_
  change wpAnyY _ _ _ _ _ _ _ _ _ _ (World.drew _)
  generalize hwdz27 : World.drew _ = wdz27
  replace hB : Below w.heap.size w wdz27 := by rw [← hwdz27]; exact hB.drew
  replace hz5 : At wdz27 w.heap.size (.cells #[.int .i64 p, .int .i64 n, .int .i64 m, .int .i64 k, .slice (some ⟨g0, 0, none⟩) qs.length c] 28 (0, 0)) := by rw [← hwdz27]; exact hz5
  replace hz11 : At wdz27 Wz2.heap.size (.cells #[.int .i64 0, .int .i64 0, .int .i64 0, .int .i64 0, .slice none 0 0] 28 (0, 0)) := by rw [← hwdz27]; exact hz11
  replace ho : Own wdz27 Wz17.heap.size (.slice A8 N8 c8) (unA (reF p) qs.length (qs.map (normQ p))) := by rw [← hwdz27]; exact ho.drew
  clear hwdz27
  refine y_yield 0 (some 13) (.pointer (some ⟨w.heap.size, 0, none⟩)) rfl (by kernel_rfl) (by kernel_rfl) (by kernel_rfl) (fun _ _ _ h => h) rfl rfl ⟨hB, hz5⟩ (fun w' h' => exec_fieldAddr 28 _ 0 rfl _ (by kernel_rfl)) ?_
  go_frame
  refine y_yield 1 (some 14) (.int .i64 p) rfl (by kernel_rfl) (by kernel_rfl) (by kernel_rfl) (fun _ _ _ h => h) rfl rfl ⟨hB, hz5⟩ (fun w' h' => exec_load_one 2 _ rfl w.heap.size 0 rfl (.int .i64 p) _ Try.underlying2 rfl (h'.2.at_ 0)) ?_
  go_frame
  refine y_yield 2 (some 15) (.agg #[.int .i64 p, .int .i64 n, .int .i64 m, .int .i64 k, .slice (some ⟨g0, 0, none⟩) qs.length c]) rfl (by kernel_rfl) (by kernel_rfl) (by kernel_rfl) (fun _ _ _ h => h) rfl rfl ⟨hB, hz5⟩ (fun w' h' => exec_load_all 28 _ rfl w.heap.size rfl _ _ _ h'.2 Try.underlying28 rfl 5 (by kernel_rfl) rfl) ?_
  go_frame
  refine y_yield 4 (some 17) (.slice A8 N8 c8) rfl (by kernel_rfl) (by kernel_rfl) (by kernel_rfl) (fun _ _ _ h => h) rfl rfl ⟨hB, hz5⟩ (fun w' h' => exec_move _ rfl (.slice A8 N8 c8) rfl) ?_
  go_frame
  refine y_oper 3 (by kernel_rfl) rfl rfl (fun K' hK' => ?_)
  have lz30 := hB.size
  have lz31 := hz5.lt
  have lz32 := hz11.lt
  refine wp_call1 (some 16) rfl 32 _ _ rfl (fun args w => by kernel_rfl) _ rfl _ (sizesOf_c _ _ _ _ _ _) (fun e Wz28 h => ?_)
  obtain ⟨rfl, bz29⟩ := h
  replace hB := below_after hB bz29
  replace hz5 := hz5.after bz29
  replace hz11 := hz11.after bz29
  replace ho := ho.below bz29
  clear bz29
  refine ⟨_, rfl, ?_⟩
  refine hK' _ _ ⟨hB, hz5⟩ (fun _ => trivial) ?_
  clear hK' K'
  go_frame
  refine y_oper 5 (by kernel_rfl) rfl rfl (fun K' hK' => ?_)
  have lz35 := hB.size
  have lz36 := hz5.lt
  have lz37 := hz11.lt
  refine wp_call3 (some 18) rfl 31 _ _ _ _ rfl (fun args w => by kernel_rfl) _ _ _ rfl rfl rfl _ (schemeForG_c _ _ _ _ _ _ _ _) (fun e Wz33 h => ?_)
  obtain ⟨rfl, bz34⟩ := h
  replace hB := below_after hB bz34
  replace hz5 := hz5.after bz34
  replace hz11 := hz11.after bz34
  replace ho := ho.below bz34
  clear bz34
  refine ⟨_, rfl, ?_⟩
  refine hK' _ _ ⟨hB, hz5⟩ (fun _ => trivial) ?_
  clear hK' K'
  go_frame
  refine y_oper 6 (by kernel_rfl) rfl rfl (fun K' hK' => ?_)
  refine wp_store_all 28 _ _ rfl rfl Wz2.heap.size rfl #[.int .i64 p, .int .i64 n, .int .i64 m, .int .i64 k, .slice A8 N8 c8] rfl _ _ hz11 5 (by kernel_rfl) rfl rfl (one5 _ _ _ _ _ _ _) (fun Wz38 pz39 => ?_)
  replace hB := pz39.below hB (by omega)
  replace hz5 := pz39.other hz5 (by omega)
  replace ho := ho.put pz39 (ho.off hz11 (by decide))
  replace hz11 : At Wz38 Wz2.heap.size (.cells #[.int .i64 p, .int .i64 n, .int .i64 m, .int .i64 k, .slice A8 N8 c8] 28 (0, 0)) := pz39.at_
  refine hK' _ _ ⟨hB, hz5⟩ (fun h => absurd (by decide) h) ?_
  clear hK' K' pz39
  refine y_oper 7 (by kernel_rfl) rfl rfl (fun K' hK' => ?_)
  refine wp_exec (some 3) rfl (.int .i64 0) (exec_assign _ rfl (.int .i64 0) rfl) ?_
  refine hK' _ _ ⟨hB, hz5⟩ (fun _ => trivial) ?_
  clear hK' K'
  go_frame
  refine y_done (by kernel_rfl) ?_ _
  go_wp2_with fail
  refine bodyPost_ret (results_at2 rfl _ _ Wz2.heap.size _ _ _ rfl _ rfl hz11 Try.underlying28 rfl 5 (by kernel_rfl) rfl) rfl ?_
  unfold ResS rZ rL
  rw [HC.out]
  exact ⟨_, rfl, ho.mono (by omega), hB⟩
theorem implReduceScheme_c (p n m k : Int) (g0 c : Nat) (qs : List (List Nat)) (w : World) (hR : Rd w (some ⟨g0, 0, none⟩) qs) (hlen : qs.length ≤ 1048576) : Calls Try.prog 9 #[.agg #[.int .i64 p, .int .i64 n, .int .i64 m, .int .i64 k, .slice (some ⟨g0, 0, none⟩) qs.length c]] w (ResS w (rZ (rCode p n m k qs) p) (rZ (rCode p n m k qs) n) (rZ (rCode p n m k qs) m) (rZ (rCode p n m k qs) k) (rL (rCode p n m k qs) (unA (reF p) qs.length (qs.map (normQ p)))) (rCode p n m k qs)) := by
  rcases Bool.eq_false_or_eq_true (schemeB p n m k qs) with hx | hx
  · exact implRe_y p n m k g0 c qs w hR hlen hx
  · exact implRe_a p n m k g0 c qs w hR hlen hx
end Go.Proofs.Ytemkhlokpinecaa
