/-
  impl.NormalProducts. (Made by mknrm7.py.)
-/
import Derived.Test.YtbgoopmmdbhogaaNrm6
namespace Go.Proofs.Ytbgoopmmdbhogaa
open Go.RowKit
set_option maxRecDepth 100000
set_option maxHeartbeats 800000 in
theorem implNormalProducts_c (p n m k : Int) (g cap : Nat) (qs : List (List Nat)) (w : World) (hr : Rd w (some ⟨g, 0, none⟩) qs) (hlen : qs.length ≤ 1048576) :
    Calls Try.prog 10 #[.agg #[.int .i64 p, .int .i64 n, .int .i64 m, .int .i64 k, .slice (some ⟨g, 0, none⟩) qs.length cap]] w (ResS w (nrmZ p n m k qs p) (nrmZ p n m k qs n) (nrmZ p n m k qs m) (nrmZ p n m k qs k) (nrmQs p n m k qs) (nrmCode p n m k qs)) := by
  cases hs : schemeB p n m k qs with
  | false =>
    have Hs := Lib.hid hs
    have HI := Lib.hid (fun w hr => implIsScheme_c p n m k (some ⟨g, 0, none⟩) cap qs w hr hlen)
    have Hz : Hid (∀ x, nrmZ p n m k qs x = 0) := Lib.hid (fun x => by simp [nrmZ, hs])
    have Hq : Hid (nrmQs p n m k qs = [] ∧ nrmCode p n m k qs = 1) := Lib.hid (by simp [nrmQs, nrmCode, hs])
    clear hs
    go_enter Try.func10, Try.ntmps10
    go_wp2_with (first | (refine wpList_abs2 ?_; intro W hsz hB h0 h1) | (refine wpList_load_all rfl 28 _ rfl w.heap.size rfl _ _ _ h0 Try.underlying28 rfl 5 (by kernel_rfl) rfl ?_))
    refine (HI.out _ (hr.keep hB)).mono ?_
    rintro e w1 ⟨rfl, b1⟩
    rw [Hs.out]
    replace h1 := h1.after b1
    replace hB := below_after hB b1
    clear b1 hsz h0
    go_wp2_with (refine wpList_store_all rfl 28 _ _ rfl rfl (w.heap.size + 1) rfl _ rfl _ _ h1 5 (by kernel_rfl) rfl rfl (by simp [Value.oneCell']) ?_; intro W2 p2)
    refine bodyPost_ret (results_at2 rfl _ _ (w.heap.size + 1) _ _ _ rfl _ rfl p2.at_ Try.underlying28 rfl 5 (by kernel_rfl) rfl) rfl ?_
    exact ⟨.slice none 0 0, by rw [Hz.out, Hz.out, Hz.out, Hz.out, Hq.out.2]; rfl, by rw [Hq.out.1]; exact Own.nil _ _, p2.below hB (by omega)⟩
  | true =>
    have Hs := Lib.hid hs
    have hp := (sizesB_parts (schemeB_sizes hs)).1
    have h30 := schemeB_len hs
    have HI := Lib.hid (fun w hr => implIsScheme_c p n m k (some ⟨g, 0, none⟩) cap qs w hr hlen)
    have HN := Lib.hid (fun w hr => normalProducts_c p n m k g cap qs w hr (by omega) hp (scheme_lead hr.good hs))
    have Hnb : Hid (∀ r ∈ qs.map (normQ p), Bytes 27 r) := Lib.hid (fun r hr => by obtain ⟨q, _, rfl⟩ := List.mem_map.1 hr; exact normQ_bytes q hp)
    have Hz : Hid (∀ x, nrmZ p n m k qs x = x) := Lib.hid (fun x => by simp [nrmZ, hs])
    have Hq : Hid (nrmQs p n m k qs = qs.map (normQ p) ∧ nrmCode p n m k qs = 0) := Lib.hid (by simp [nrmQs, nrmCode, hs])
    clear hs
    go_enter Try.func10, Try.ntmps10
    go_wp2_with (first | (refine wpList_abs2 ?_; intro W hsz hB h0 h1) | (refine wpList_load_all rfl 28 _ rfl w.heap.size rfl _ _ _ h0 Try.underlying28 rfl 5 (by kernel_rfl) rfl ?_))
    refine (HI.out _ (hr.keep hB)).mono ?_
    rintro e w1 ⟨rfl, b1⟩
    rw [Hs.out]
    replace h0 := h0.after b1
    replace h1 := h1.after b1
    replace hB := below_after hB b1
    clear b1 hsz
    go_wp2_with fail
    refine wp_region_held (S := fun w' => At w' w.heap.size (.cells #[.int .i64 p, .int .i64 n, .int .i64 m, .int .i64 k, .slice (some ⟨g, 0, none⟩) qs.length cap] 28 (0, 0))) (by kernel_rfl) ?_
    change wpAnyH _ _ _ _ _ _ _ _ (World.drew _)
    generalize hwd : World.drew _ = wd
    replace hB : Below w.heap.size w wd := by rw [← hwd]; exact hB.drew
    replace h0 : At wd w.heap.size (.cells #[.int .i64 p, .int .i64 n, .int .i64 m, .int .i64 k, .slice (some ⟨g, 0, none⟩) qs.length cap] 28 (0, 0)) := by rw [← hwd]; exact h0
    replace h1 : At wd (w.heap.size + 1) (.cells #[.int .i64 0, .int .i64 0, .int .i64 0, .int .i64 0, .slice none 0 0] 28 (0, 0)) := by rw [← hwd]; exact h1
    clear hwd
    refine held_yield 0 (some 8) (.pointer (some ⟨w.heap.size, 0, none⟩)) rfl (by kernel_rfl) (by kernel_rfl) (by kernel_rfl) (fun _ _ _ h => h) rfl rfl h0 (fun w' h' => exec_fieldAddr 28 _ 0 rfl _ (by kernel_rfl)) ?_
    go_frame
    refine held_yield 1 (some 9) (.int .i64 p) rfl (by kernel_rfl) (by kernel_rfl) (by kernel_rfl) (fun _ _ _ h => h) rfl rfl h0 (fun w' h' => exec_load_one 2 _ rfl w.heap.size 0 rfl _ _ Try.underlying2 rfl (h'.at_ 0)) ?_
    go_frame
    refine held_yield 2 (some 10) (.agg #[.int .i64 p, .int .i64 n, .int .i64 m, .int .i64 k, .slice (some ⟨g, 0, none⟩) qs.length cap]) rfl (by kernel_rfl) (by kernel_rfl) (by kernel_rfl) (fun _ _ _ h => h) rfl rfl h0 (fun w' h' => exec_load_all 28 _ rfl w.heap.size rfl _ _ _ h' Try.underlying28 rfl 5 (by kernel_rfl) rfl) ?_
    go_frame
    refine held_yield 4 (some 12) (.agg #[.int .i64 p, .int .i64 n, .int .i64 m, .int .i64 k, .slice (some ⟨g, 0, none⟩) qs.length cap]) rfl (by kernel_rfl) (by kernel_rfl) (by kernel_rfl) (fun _ _ _ h => h) rfl rfl h0 (fun w' h' => exec_load_all 28 _ rfl w.heap.size rfl _ _ _ h' Try.underlying28 rfl 5 (by kernel_rfl) rfl) ?_
    go_frame
    refine held_oper 3 (by kernel_rfl) rfl rfl (fun K' hK' => ?_)
    refine wp_call1 (some 11) rfl 27 _ _ rfl (fun args w => by kernel_rfl) _ rfl _ (sizesOf_c p n m k _ _) (fun e wn h => ?_)
    obtain ⟨rfl, b1⟩ := h
    replace hB := below_after hB b1
    replace h0 := h0.after b1
    replace h1 := h1.after b1
    clear b1
    refine ⟨_, rfl, hK' _ _ h0 ?_⟩
    clear hK' K'
    go_frame
    refine held_oper 5 (by kernel_rfl) rfl rfl (fun K' hK' => ?_)
    refine wp_call1 (some 13) rfl 28 _ _ rfl (fun args w => by kernel_rfl) _ rfl _ (HN.out _ (hr.keep hB)) (fun e wn h => ?_)
    obtain ⟨v, rfl, ho, b1⟩ := h
    replace ho := ho.mono hB.size
    replace hB := below_after hB b1
    replace h0 := h0.after b1
    replace h1 := h1.after b1
    clear b1
    obtain ⟨A1, c1, rfl, _⟩ := ho.rd Hnb.out
    have hml : (qs.map (normQ p)).length = qs.length := by simp
    simp only [hml] at ho ⊢
    refine ⟨_, rfl, hK' _ _ h0 ?_⟩
    clear hK' K'
    go_frame
    refine held_oper 6 (by kernel_rfl) rfl rfl (fun K' hK' => ?_)
    refine wp_call3 (some 14) rfl 26 _ _ _ _ rfl (fun args w => by kernel_rfl) _ _ _ rfl rfl rfl _ (schemeFor_c p n m k A1 qs.length c1 _) (fun e wn h => ?_)
    obtain ⟨rfl, b1⟩ := h
    replace ho := ho.below b1
    replace hB := below_after hB b1
    replace h0 := h0.after b1
    replace h1 := h1.after b1
    clear b1
    refine ⟨_, rfl, hK' _ _ h0 ?_⟩
    clear hK' K'
    go_frame
    refine held_oper 7 (by kernel_rfl) rfl rfl (fun K' hK' => ?_)
    have n1 := ho.off h1 (by decide)
    refine wp_store_all 28 _ _ rfl rfl (w.heap.size + 1) rfl _ rfl _ _ h1 5 (by kernel_rfl) rfl rfl (one5 _ _ _ _ _ _ _) (fun ws ps => ?_)
    replace hB := ps.below hB (by omega)
    replace h0 := ps.other h0 (by omega)
    replace ho := ho.put ps n1
    replace h1 := ps.at_
    clear ps
    refine hK' _ _ h0 ?_
    clear hK' K'
    refine held_yield 8 (some 3) (.int .i64 0) rfl (by kernel_rfl) (by kernel_rfl) (by kernel_rfl) (fun _ _ _ h => h) rfl rfl h0 (fun w' h' => exec_assign _ rfl (.int .i64 0) rfl) ?_
    go_frame
    refine wpAnyH_done (by kernel_rfl) ?_ _
    go_wp2_with fail
    refine bodyPost_ret (results_at2 rfl _ _ (w.heap.size + 1) _ _ _ rfl _ rfl h1 Try.underlying28 rfl 5 (by kernel_rfl) rfl) rfl ?_
    exact ⟨_, by rw [Hz.out, Hz.out, Hz.out, Hz.out, Hq.out.2]; rfl, by rw [Hq.out.1]; exact ho, hB⟩
end Go.Proofs.Ytbgoopmmdbhogaa
