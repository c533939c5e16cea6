/-
  spec.WalkScheme; what its walk wants. (Made by mkws4.py.)
-/
import Derived.Test.YtkboenfloaagiaaWs3
namespace Go.Proofs.Ytkboenfloaagiaa
open Go.RowKit
set_option maxRecDepth 100000
attribute [local irreducible] wpList
section
variable {P : Program} {ops : Array Oper} {Q : Exit → Act → World → Prop} {md : Region.Mode} {S S2 : World → Prop} {zs : List Nat} {fuel : Nat} {listed : Array Bool} {a : Act} {w : World}
theorem y_four (i j k l : Nat) {oi oj ok ol : Oper} (hr : Region.ready md ops listed = [i, j, k, l]) (hi : ops[i]? = some oi) (hj : ops[j]? = some oj) (hk : ops[k]? = some ok) (hl : ops[l]? = some ol) (hw : Region.wanted oi (yielded ops a.tmps) = true) (hw' : Region.wanted oj (yielded ops a.tmps) = true) (hw'' : Region.wanted ok (yielded ops a.tmps) = true) (hw3 : Region.wanted ol (yielded ops a.tmps) = true)
    (h : ∀ K : Act → World → Prop, (∀ a' w', S w' → (i ∉ zs → S2 w') → wpAnyY P md ops Q S S2 zs fuel (listed.setIfInBounds i true) a' w' → K a' w') → Oper.wp P oi a w K Q)
    (h' : ∀ K : Act → World → Prop, (∀ a' w', S w' → (j ∉ zs → S2 w') → wpAnyY P md ops Q S S2 zs fuel (listed.setIfInBounds j true) a' w' → K a' w') → Oper.wp P oj a w K Q)
    (h'' : ∀ K : Act → World → Prop, (∀ a' w', S w' → (k ∉ zs → S2 w') → wpAnyY P md ops Q S S2 zs fuel (listed.setIfInBounds k true) a' w' → K a' w') → Oper.wp P ok a w K Q)
    (h3 : ∀ K : Act → World → Prop, (∀ a' w', S w' → (l ∉ zs → S2 w') → wpAnyY P md ops Q S S2 zs fuel (listed.setIfInBounds l true) a' w' → K a' w') → Oper.wp P ol a w K Q) : wpAnyY P md ops Q S S2 zs (fuel + 1) listed a w :=
  ⟨fun h0 => (by rw [hr] at h0; cases h0), (by
    rw [hr]
    intro x hx
    have hx' : x = i ∨ x = j ∨ x = k ∨ x = l := by simpa using hx
    rcases hx' with rfl | rfl | rfl | rfl
    · exact y_one hi hw h
    · exact y_one hj hw' h'
    · exact y_one hk hw'' h''
    · exact y_one hl hw3 h3)⟩
end
theorem ownF0 {w : World} {lo g n c : Nat} {L : List (List Nat)} (h : Own w lo (.slice (some ⟨g, 0, none⟩) n c) L) (hb : ∀ q ∈ L, Bytes 27 q) {i : Nat} {Q : List Nat} (hi : L[i]? = some Q) : ∀ j, j < 27 → w.cell? ⟨g, i * 27 + j, none⟩ = some (.int .u8 ((Q[j]?.getD 0 : Nat) : Int)) := fun j hj => by
  have h9 := (h.rd' hb).cFl hi j hj
  rwa [Nat.zero_add] at h9
theorem ne_blk {b g n c : Nat} (h : some b ≠ (Value.slice (some ⟨g, 0, none⟩) n c).ownBlock) : b ≠ g := fun e => h (by rw [e]; rfl)
theorem l10DropN_c (A : Option Addr) (n c : Nat) (qs : List (List Nat)) (w : World) (hn : qs.length = n) (hR : Rd w A qs) (hlen : qs.length ≤ 1000) :
    Calls Try.prog 48 #[.slice A n c] w (fun e w' => ∃ v, e = .returned v ∧ Own w' w.heap.size v (qs.filter nzB) ∧ Below w.heap.size w w') := by
  subst hn
  exact l10Drop_c A c qs w hR hlen
set_option maxHeartbeats 4000000 in
theorem specWalk_a (p n m k : Int) (a0 c : Nat) (qs : List (List Nat)) (sd st : Int) (w : World) (hR : Rd w (some ⟨a0, 0, none⟩) qs) (hlen : qs.length ≤ 1048576) (hs : schemeB p n m k qs = false) :
    Calls Try.prog 21 #[.agg #[.int .i64 p, .int .i64 n, .int .i64 m, .int .i64 k, .slice (some ⟨a0, 0, none⟩) qs.length c], .int .i64 sd, .int .i64 st] w (ResS w (wsZ (wsCode p n m k qs sd st) p) (wsZ (wsCode p n m k qs sd st) n) (wsZ (wsCode p n m k qs sd st) m) (wsZ (wsCode p n m k qs sd st) k) (wsL (wsCode p n m k qs sd st) (wst p qs sd.toNat st.toNat).1) (wsCode p n m k qs sd st)) := by
  have hB := Below.refl w.heap.size w
  have HC : Hid (wsCode p n m k qs sd st = 1) := Lib.hid (by unfold wsCode; rw [hs]; rfl)
  have Hs := Lib.hid hs
  clear hs
  go_enter Try.func21, Try.ntmps21
  go_upto_region 0 with (fail)
  refine wp_region_lit ?_
  refine ls_op rfl (fun K' hK' => ?_)
  have lz1 := hB.size
  refine wp_new (some 3) rfl (exec_box 31 _ rfl (#[.int .i64 p, .int .i64 n, .int .i64 m, .int .i64 k, .slice (some ⟨a0, 0, none⟩) qs.length c]) rfl) (fun Wz2 nnz3 => ?_)
  have bz4 := nnz3.below (Below.refl _ _) (Nat.le_refl _)
  replace hB := below_after hB bz4
  have hz5 : At Wz2 w.heap.size (.cells #[.int .i64 p, .int .i64 n, .int .i64 m, .int .i64 k, .slice (some ⟨a0, 0, none⟩) qs.length c] 31 (0, 0)) := nnz3.at_
  refine hK' _ _ ?_
  clear hK' K' nnz3 bz4
  go_frame
  refine ls_op rfl (fun K' hK' => ?_)
  have lz6 := hB.size
  have lz7 := hz5.lt
  refine wp_new (some 6) rfl (al_impl_Scheme rfl) (fun Wz8 nnz9 => ?_)
  have bz10 := nnz9.below (Below.refl _ _) (Nat.le_refl _)
  replace hB := below_after hB bz10
  replace hz5 := hz5.after bz10
  have hz11 : At Wz8 Wz2.heap.size (.cells #[.int .i64 0, .int .i64 0, .int .i64 0, .int .i64 0, .slice none 0 0] 31 (0, 0)) := nnz9.at_
  refine hK' _ _ ?_
  clear hK' K' nnz9 bz10
  go_frame
  refine ls_ex (some 7) (.int .i64 0) rfl rfl (exec_assign _ rfl (.int .i64 0) rfl) ?_
  go_frame
  refine wpList_nil ?_
  go_upto_region 1 with (fail)
  refine wp_region_lit ?_
  refine ls_ex (some 24) (.agg #[.int .i64 p, .int .i64 n, .int .i64 m, .int .i64 k, .slice (some ⟨a0, 0, none⟩) qs.length c]) rfl rfl (exec_load_all 31 _ rfl w.heap.size rfl _ _ _ hz5 Try.underlying31 rfl 5 (by kernel_rfl) rfl) ?_
  go_frame
  refine ls_op rfl (fun K' hK' => ?_)
  have lz14 := hB.size
  have lz15 := hz5.lt
  have lz16 := hz11.lt
  refine wp_call1 (some 25) rfl 24 _ _ rfl (fun args w => by kernel_rfl) _ rfl _ (l01Is_c p n m k (some ⟨a0, 0, none⟩) c qs _ (hR.keep hB) (by omega)) (fun e Wz12 h => ?_)
  obtain ⟨rfl, bz13⟩ := h
  replace hB := below_after hB bz13
  replace hz5 := hz5.after bz13
  replace hz11 := hz11.after bz13
  rw [Hs.out]
  clear bz13
  refine ⟨_, rfl, ?_⟩
  refine hK' _ _ ?_
  clear hK' K'
  go_frame
  refine ls_ex (some 26) (.bool true) rfl rfl (exec_not _ _ rfl false rfl) ?_
  go_frame
  refine ls_ex (some 23) (.bool true) rfl rfl (exec_assign _ rfl (.bool true) rfl) ?_
  go_frame
  refine wpList_nil ?_
  go_upto_region 2 with (fail)
  refine wp_region_lit ?_
  refine ls_ex (some 27) (.agg #[.int .i64 0, .int .i64 0, .int .i64 0, .int .i64 0, .slice none 0 0]) rfl rfl (exec_build_nil 31 rfl _ (by kernel_rfl)) ?_
  go_frame
  refine ls_op rfl (fun K' hK' => ?_)
  refine wp_store_all 31 _ _ rfl rfl Wz2.heap.size rfl #[.int .i64 0, .int .i64 0, .int .i64 0, .int .i64 0, .slice none 0 0] rfl _ _ hz11 5 (by kernel_rfl) rfl rfl (one5 _ _ _ _ _ _ _) (fun Wz17 pz18 => ?_)
  replace hB := pz18.below hB (by omega)
  replace hz5 := pz18.other hz5 (by omega)
  replace hz11 : At Wz17 Wz2.heap.size (.cells #[.int .i64 0, .int .i64 0, .int .i64 0, .int .i64 0, .slice none 0 0] 31 (0, 0)) := pz18.at_
  refine hK' _ _ ?_
  clear hK' K' pz18
  refine ls_ex (some 7) (.int .i64 1) rfl rfl (exec_assign _ rfl (.int .i64 1) rfl) ?_
  go_frame
  refine wpList_nil ?_
  go_wp2_with fail
  refine bodyPost_ret (results_at2 rfl _ _ Wz2.heap.size _ _ _ rfl _ rfl hz11 Try.underlying31 rfl 5 (by kernel_rfl) rfl) rfl ?_
  unfold ResS wsZ wsL
  rw [HC.out]
  exact ⟨_, rfl, Own.nil _ _, hB⟩
set_option maxHeartbeats 4000000 in
theorem specWalk_b (p n m k : Int) (a0 c : Nat) (qs : List (List Nat)) (sd st : Int) (w : World) (hR : Rd w (some ⟨a0, 0, none⟩) qs) (hlen : qs.length ≤ 1048576) (hs : schemeB p n m k qs = true) (h1 : (decide (1 ≤ sd) && decide (sd ≤ 2147483646)) = false) :
    Calls Try.prog 21 #[.agg #[.int .i64 p, .int .i64 n, .int .i64 m, .int .i64 k, .slice (some ⟨a0, 0, none⟩) qs.length c], .int .i64 sd, .int .i64 st] w (ResS w (wsZ (wsCode p n m k qs sd st) p) (wsZ (wsCode p n m k qs sd st) n) (wsZ (wsCode p n m k qs sd st) m) (wsZ (wsCode p n m k qs sd st) k) (wsL (wsCode p n m k qs sd st) (wst p qs sd.toNat st.toNat).1) (wsCode p n m k qs sd st)) := by
  have hB := Below.refl w.heap.size w
  have HC : Hid (wsCode p n m k qs sd st = 2) := Lib.hid (by unfold wsCode; rw [hs, h1]; rfl)
  have Hs := Lib.hid hs
  have H1 := Lib.hid h1
  clear hs h1
  go_enter Try.func21, Try.ntmps21
  go_upto_region 0 with (fail)
  refine wp_region_lit ?_
  refine ls_op rfl (fun K' hK' => ?_)
  have lz1 := hB.size
  refine wp_new (some 3) rfl (exec_box 31 _ rfl (#[.int .i64 p, .int .i64 n, .int .i64 m, .int .i64 k, .slice (some ⟨a0, 0, none⟩) qs.length c]) rfl) (fun Wz2 nnz3 => ?_)
  have bz4 := nnz3.below (Below.refl _ _) (Nat.le_refl _)
  replace hB := below_after hB bz4
  have hz5 : At Wz2 w.heap.size (.cells #[.int .i64 p, .int .i64 n, .int .i64 m, .int .i64 k, .slice (some ⟨a0, 0, none⟩) qs.length c] 31 (0, 0)) := nnz3.at_
  refine hK' _ _ ?_
  clear hK' K' nnz3 bz4
  go_frame
  refine ls_op rfl (fun K' hK' => ?_)
  have lz6 := hB.size
  have lz7 := hz5.lt
  refine wp_new (some 6) rfl (al_impl_Scheme rfl) (fun Wz8 nnz9 => ?_)
  have bz10 := nnz9.below (Below.refl _ _) (Nat.le_refl _)
  replace hB := below_after hB bz10
  replace hz5 := hz5.after bz10
  have hz11 : At Wz8 Wz2.heap.size (.cells #[.int .i64 0, .int .i64 0, .int .i64 0, .int .i64 0, .slice none 0 0] 31 (0, 0)) := nnz9.at_
  refine hK' _ _ ?_
  clear hK' K' nnz9 bz10
  go_frame
  refine ls_ex (some 7) (.int .i64 0) rfl rfl (exec_assign _ rfl (.int .i64 0) rfl) ?_
  go_frame
  refine wpList_nil ?_
  go_upto_region 1 with (fail)
  refine wp_region_lit ?_
  refine ls_ex (some 24) (.agg #[.int .i64 p, .int .i64 n, .int .i64 m, .int .i64 k, .slice (some ⟨a0, 0, none⟩) qs.length c]) rfl rfl (exec_load_all 31 _ rfl w.heap.size rfl _ _ _ hz5 Try.underlying31 rfl 5 (by kernel_rfl) rfl) ?_
  go_frame
  refine ls_op rfl (fun K' hK' => ?_)
  have lz14 := hB.size
  have lz15 := hz5.lt
  have lz16 := hz11.lt
  refine wp_call1 (some 25) rfl 24 _ _ rfl (fun args w => by kernel_rfl) _ rfl _ (l01Is_c p n m k (some ⟨a0, 0, none⟩) c qs _ (hR.keep hB) (by omega)) (fun e Wz12 h => ?_)
  obtain ⟨rfl, bz13⟩ := h
  replace hB := below_after hB bz13
  replace hz5 := hz5.after bz13
  replace hz11 := hz11.after bz13
  rw [Hs.out]
  clear bz13
  refine ⟨_, rfl, ?_⟩
  refine hK' _ _ ?_
  clear hK' K'
  go_frame
  refine ls_ex (some 26) (.bool false) rfl rfl (exec_not _ _ rfl true rfl) ?_
  go_frame
  refine ls_ex (some 23) (.bool false) rfl rfl (exec_assign _ rfl (.bool false) rfl) ?_
  go_frame
  refine wpList_nil ?_
  go_upto_region 3 with (fail)
  refine wp_region_lit ?_
  refine ls_ex (some 29) (.int .i64 sd) rfl rfl (exec_move _ rfl (.int .i64 sd) rfl) ?_
  go_frame
  refine ls_op rfl (fun K' hK' => ?_)
  have lz19 := hB.size
  have lz20 := hz5.lt
  have lz21 := hz11.lt
  refine wp_call3 (some 30) rfl 44 _ _ _ _ rfl (fun args w => by kernel_rfl) _ _ _ rfl rfl rfl _ (l01In_c sd 1 2147483646 _) (fun e Wz17 h => ?_)
  obtain ⟨rfl, rfl⟩ := h
  rw [H1.out]
  refine ⟨_, rfl, ?_⟩
  refine hK' _ _ ?_
  clear hK' K'
  go_frame
  refine ls_ex (some 31) (.bool true) rfl rfl (exec_not _ _ rfl false rfl) ?_
  go_frame
  refine ls_ex (some 32) (.bool true) rfl rfl (exec_move _ rfl (.bool true) rfl) ?_
  go_frame
  refine ls_skip_g (some 33) rfl rfl ?_
  go_frame
  refine ls_skip_g (some 34) rfl rfl ?_
  go_frame
  refine ls_skip_g (some 35) rfl rfl ?_
  go_frame
  refine ls_ex (some 36) (.bool true) rfl rfl (exec_pick _ _ _ rfl true rfl (.bool true) rfl) ?_
  go_frame
  refine ls_ex (some 28) (.bool true) rfl rfl (exec_assign _ rfl (.bool true) rfl) ?_
  go_frame
  refine wpList_nil ?_
  go_upto_region 4 with (fail)
  refine wp_region_lit ?_
  refine ls_ex (some 37) (.agg #[.int .i64 0, .int .i64 0, .int .i64 0, .int .i64 0, .slice none 0 0]) rfl rfl (exec_build_nil 31 rfl _ (by kernel_rfl)) ?_
  go_frame
  refine ls_op rfl (fun K' hK' => ?_)
  refine wp_store_all 31 _ _ rfl rfl Wz2.heap.size rfl #[.int .i64 0, .int .i64 0, .int .i64 0, .int .i64 0, .slice none 0 0] rfl _ _ hz11 5 (by kernel_rfl) rfl rfl (one5 _ _ _ _ _ _ _) (fun Wz22 pz23 => ?_)
  replace hB := pz23.below hB (by omega)
  replace hz5 := pz23.other hz5 (by omega)
  replace hz11 : At Wz22 Wz2.heap.size (.cells #[.int .i64 0, .int .i64 0, .int .i64 0, .int .i64 0, .slice none 0 0] 31 (0, 0)) := pz23.at_
  refine hK' _ _ ?_
  clear hK' K' pz23
  refine ls_ex (some 7) (.int .i64 2) rfl rfl (exec_assign _ rfl (.int .i64 2) rfl) ?_
  go_frame
  refine wpList_nil ?_
  go_wp2_with fail
  refine bodyPost_ret (results_at2 rfl _ _ Wz2.heap.size _ _ _ rfl _ rfl hz11 Try.underlying31 rfl 5 (by kernel_rfl) rfl) rfl ?_
  unfold ResS wsZ wsL
  rw [HC.out]
  exact ⟨_, rfl, Own.nil _ _, hB⟩
set_option maxHeartbeats 4000000 in
theorem specWalk_d (p n m k : Int) (a0 c : Nat) (qs : List (List Nat)) (sd st : Int) (w : World) (hR : Rd w (some ⟨a0, 0, none⟩) qs) (hlen : qs.length ≤ 1048576) (hs : schemeB p n m k qs = true) (h1 : (decide (1 ≤ sd) && decide (sd ≤ 2147483646)) = true) (h2 : (decide (0 ≤ st) && decide (st ≤ 200)) = false) :
    Calls Try.prog 21 #[.agg #[.int .i64 p, .int .i64 n, .int .i64 m, .int .i64 k, .slice (some ⟨a0, 0, none⟩) qs.length c], .int .i64 sd, .int .i64 st] w (ResS w (wsZ (wsCode p n m k qs sd st) p) (wsZ (wsCode p n m k qs sd st) n) (wsZ (wsCode p n m k qs sd st) m) (wsZ (wsCode p n m k qs sd st) k) (wsL (wsCode p n m k qs sd st) (wst p qs sd.toNat st.toNat).1) (wsCode p n m k qs sd st)) := by
  have hB := Below.refl w.heap.size w
  have HC : Hid (wsCode p n m k qs sd st = 2) := Lib.hid (by unfold wsCode; rw [hs, h1, h2]; rfl)
  have Hs := Lib.hid hs
  have H1 := Lib.hid h1
  have H2 := Lib.hid h2
  clear hs h1 h2
  go_enter Try.func21, Try.ntmps21
  go_upto_region 0 with (fail)
  refine wp_region_lit ?_
  refine ls_op rfl (fun K' hK' => ?_)
  have lz1 := hB.size
  refine wp_new (some 3) rfl (exec_box 31 _ rfl (#[.int .i64 p, .int .i64 n, .int .i64 m, .int .i64 k, .slice (some ⟨a0, 0, none⟩) qs.length c]) rfl) (fun Wz2 nnz3 => ?_)
  have bz4 := nnz3.below (Below.refl _ _) (Nat.le_refl _)
  replace hB := below_after hB bz4
  have hz5 : At Wz2 w.heap.size (.cells #[.int .i64 p, .int .i64 n, .int .i64 m, .int .i64 k, .slice (some ⟨a0, 0, none⟩) qs.length c] 31 (0, 0)) := nnz3.at_
  refine hK' _ _ ?_
  clear hK' K' nnz3 bz4
  go_frame
  refine ls_op rfl (fun K' hK' => ?_)
  have lz6 := hB.size
  have lz7 := hz5.lt
  refine wp_new (some 6) rfl (al_impl_Scheme rfl) (fun Wz8 nnz9 => ?_)
  have bz10 := nnz9.below (Below.refl _ _) (Nat.le_refl _)
  replace hB := below_after hB bz10
  replace hz5 := hz5.after bz10
  have hz11 : At Wz8 Wz2.heap.size (.cells #[.int .i64 0, .int .i64 0, .int .i64 0, .int .i64 0, .slice none 0 0] 31 (0, 0)) := nnz9.at_
  refine hK' _ _ ?_
  clear hK' K' nnz9 bz10
  go_frame
  refine ls_ex (some 7) (.int .i64 0) rfl rfl (exec_assign _ rfl (.int .i64 0) rfl) ?_
  go_frame
  refine wpList_nil ?_
  go_upto_region 1 with (fail)
  refine wp_region_lit ?_
  refine ls_ex (some 24) (.agg #[.int .i64 p, .int .i64 n, .int .i64 m, .int .i64 k, .slice (some ⟨a0, 0, none⟩) qs.length c]) rfl rfl (exec_load_all 31 _ rfl w.heap.size rfl _ _ _ hz5 Try.underlying31 rfl 5 (by kernel_rfl) rfl) ?_
  go_frame
  refine ls_op rfl (fun K' hK' => ?_)
  have lz14 := hB.size
  have lz15 := hz5.lt
  have lz16 := hz11.lt
  refine wp_call1 (some 25) rfl 24 _ _ rfl (fun args w => by kernel_rfl) _ rfl _ (l01Is_c p n m k (some ⟨a0, 0, none⟩) c qs _ (hR.keep hB) (by omega)) (fun e Wz12 h => ?_)
  obtain ⟨rfl, bz13⟩ := h
  replace hB := below_after hB bz13
  replace hz5 := hz5.after bz13
  replace hz11 := hz11.after bz13
  rw [Hs.out]
  clear bz13
  refine ⟨_, rfl, ?_⟩
  refine hK' _ _ ?_
  clear hK' K'
  go_frame
  refine ls_ex (some 26) (.bool false) rfl rfl (exec_not _ _ rfl true rfl) ?_
  go_frame
  refine ls_ex (some 23) (.bool false) rfl rfl (exec_assign _ rfl (.bool false) rfl) ?_
  go_frame
  refine wpList_nil ?_
  go_upto_region 3 with (fail)
  refine wp_region_lit ?_
  refine ls_ex (some 29) (.int .i64 sd) rfl rfl (exec_move _ rfl (.int .i64 sd) rfl) ?_
  go_frame
  refine ls_op rfl (fun K' hK' => ?_)
  have lz19 := hB.size
  have lz20 := hz5.lt
  have lz21 := hz11.lt
  refine wp_call3 (some 30) rfl 44 _ _ _ _ rfl (fun args w => by kernel_rfl) _ _ _ rfl rfl rfl _ (l01In_c sd 1 2147483646 _) (fun e Wz17 h => ?_)
  obtain ⟨rfl, rfl⟩ := h
  rw [H1.out]
  refine ⟨_, rfl, ?_⟩
  refine hK' _ _ ?_
  clear hK' K'
  go_frame
  refine ls_ex (some 31) (.bool false) rfl rfl (exec_not _ _ rfl true rfl) ?_
  go_frame
  refine ls_ex (some 32) (.bool false) rfl rfl (exec_move _ rfl (.bool false) rfl) ?_
  go_frame
  refine ls_ex_g (some 33) (.int .i64 st) rfl rfl (exec_move _ rfl (.int .i64 st) rfl) ?_
  go_frame
  refine ls_op_g rfl (fun K' hK' => ?_)
  have lz24 := hB.size
  have lz25 := hz5.lt
  have lz26 := hz11.lt
  refine wp_call3 (some 34) rfl 44 _ _ _ _ rfl (fun args w => by kernel_rfl) _ _ _ rfl rfl rfl _ (l01In_c st 0 200 _) (fun e Wz22 h => ?_)
  obtain ⟨rfl, rfl⟩ := h
  rw [H2.out]
  refine ⟨_, rfl, ?_⟩
  refine hK' _ _ ?_
  clear hK' K'
  go_frame
  refine ls_ex_g (some 35) (.bool true) rfl rfl (exec_not _ _ rfl false rfl) ?_
  go_frame
  refine ls_ex (some 36) (.bool true) rfl rfl (exec_pick _ _ _ rfl false rfl (.bool true) rfl) ?_
  go_frame
  refine ls_ex (some 28) (.bool true) rfl rfl (exec_assign _ rfl (.bool true) rfl) ?_
  go_frame
  refine wpList_nil ?_
  go_upto_region 4 with (fail)
  refine wp_region_lit ?_
  refine ls_ex (some 37) (.agg #[.int .i64 0, .int .i64 0, .int .i64 0, .int .i64 0, .slice none 0 0]) rfl rfl (exec_build_nil 31 rfl _ (by kernel_rfl)) ?_
  go_frame
  refine ls_op rfl (fun K' hK' => ?_)
  refine wp_store_all 31 _ _ rfl rfl Wz2.heap.size rfl #[.int .i64 0, .int .i64 0, .int .i64 0, .int .i64 0, .slice none 0 0] rfl _ _ hz11 5 (by kernel_rfl) rfl rfl (one5 _ _ _ _ _ _ _) (fun Wz27 pz28 => ?_)
  replace hB := pz28.below hB (by omega)
  replace hz5 := pz28.other hz5 (by omega)
  replace hz11 : At Wz27 Wz2.heap.size (.cells #[.int .i64 0, .int .i64 0, .int .i64 0, .int .i64 0, .slice none 0 0] 31 (0, 0)) := pz28.at_
  refine hK' _ _ ?_
  clear hK' K' pz28
  refine ls_ex (some 7) (.int .i64 2) rfl rfl (exec_assign _ rfl (.int .i64 2) rfl) ?_
  go_frame
  refine wpList_nil ?_
  go_wp2_with fail
  refine bodyPost_ret (results_at2 rfl _ _ Wz2.heap.size _ _ _ rfl _ rfl hz11 Try.underlying31 rfl 5 (by kernel_rfl) rfl) rfl ?_
  unfold ResS wsZ wsL
  rw [HC.out]
  exact ⟨_, rfl, Own.nil _ _, hB⟩
end Go.Proofs.Ytkboenfloaagiaa
