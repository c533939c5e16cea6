/-
  impl.TurnScheme, TransposeScheme.
-/
import Derived.Test.YtolbkaojhkgidaaTr4
namespace Go.Proofs.Ytolbkaojhkgidaa
open Go.RowKit
set_option maxRecDepth 100000
theorem sizeB_in {n : Int} (h : sizeB n = true) : (n.toNat : Int) = n ∧ 1 ≤ n.toNat ∧ n.toNat ≤ 3 := by
  simp only [sizeB, Bool.and_eq_true, decide_eq_true_eq] at h
  omega
theorem eachQs_good {N : List Nat → List Nat} (hN : ∀ q, Bytes 27 q → Bytes 27 (N q)) {p n m k : Int} {qs : List (List Nat)} (hq : ∀ q ∈ qs, Bytes 27 q) : (∀ r ∈ eachQs N p n m k qs, Bytes 27 r) ∧ (eachQs N p n m k qs).length ≤ 30 := by
  unfold eachQs
  split
  · rename_i h
    refine ⟨fun r hr => ?_, by rw [List.length_map]; exact schemeB_len h⟩
    obtain ⟨q, hm, rfl⟩ := List.mem_map.1 hr
    exact hN q (hq q hm)
  · simp
set_option maxHeartbeats 1600000 in
theorem implTurnScheme_c (p n m k : Int) (g cap : Nat) (qs : List (List Nat)) (w : World) (hr : Rd w (some ⟨g, 0, none⟩) qs) (hlen : qs.length ≤ 1048576) :
    Calls Try.prog 8 #[.agg #[.int .i64 p, .int .i64 n, .int .i64 m, .int .i64 k, .slice (some ⟨g, 0, none⟩) qs.length cap]] w
      (ResS w (nrmZ p n m k qs p) (nrmZ p n m k qs m) (nrmZ p n m k qs k) (nrmZ p n m k qs n) (eachQs (turQ n.toNat m.toNat k.toNat) p n m k qs) (nrmCode p n m k qs)) := by
  have HW := Lib.hid (fun w hr => withEachTurned_c p n m k m k n (turQ n.toNat m.toNat k.toNat) g cap qs w hr hlen (fun q h => turQ_bytes h) (fun hs q hq w => by
    have h3 := sizesB_parts (schemeB_sizes hs)
    have hn := sizeB_in h3.2.1
    have hm := sizeB_in h3.2.2.1
    have hk := sizeB_in h3.2.2.2
    have h := turnedProduct_c p n.toNat m.toNat k.toNat (.slice (some ⟨g, 0, none⟩) qs.length cap) q (hr.good q hq) w hn.2 hm.2 hk.2
    rw [hn.1, hm.1, hk.1] at h
    exact h))
  have HRb := Lib.hid (eachQs_good (N := turQ n.toNat m.toNat k.toNat) (p := p) (n := n) (m := m) (k := k) (fun q h => turQ_bytes h) hr.good).1
  generalize eachQs (turQ n.toNat m.toNat k.toNat) p n m k qs = R at *
  generalize nrmCode p n m k qs = code at *
  generalize nrmZ p n m k qs p = rp at *
  generalize nrmZ p n m k qs m = r1 at *
  generalize nrmZ p n m k qs k = r2 at *
  generalize nrmZ p n m k qs n = r3 at *
  go_enter Try.func8, Try.ntmps8
  go_wp2_with (first | (refine wpList_abs2 ?_; intro W hsz hB h0 h1; have k1 : W.cell? ⟨w.heap.size, 1, none⟩ = some (.int .i64 n) := h0.at_ 1; have k2 : W.cell? ⟨w.heap.size, 2, none⟩ = some (.int .i64 m) := h0.at_ 2; have k3 : W.cell? ⟨w.heap.size, 3, none⟩ = some (.int .i64 k) := h0.at_ 3) | (refine wpList_load_all rfl 28 _ rfl w.heap.size rfl _ _ _ h0 Try.underlying28 rfl 5 (by kernel_rfl) rfl ?_))
  refine (HW.out _ (hr.keep hB)).mono ?_
  rintro e w1 ⟨v, rfl, ho, b1⟩
  have hs1 := hB.size
  replace h1 := h1.after b1
  replace hB := below_after hB b1
  replace ho := ho.mono hs1
  obtain ⟨A1, c1, rfl, _⟩ := ho.rd HRb.out
  have n1 := ho.off h1 (by decide)
  clear b1 h0 k1 k2 k3 hsz
  go_wp2_with (refine wpList_store_all rfl 28 _ _ rfl rfl (w.heap.size + 1) rfl _ rfl _ _ h1 5 (by kernel_rfl) rfl rfl (one5 _ _ _ _ _ _ _) ?_; intro W2 p2)
  refine bodyPost_ret (results_at2 rfl _ _ (w.heap.size + 1) _ _ _ rfl _ rfl p2.at_ Try.underlying28 rfl 5 (by kernel_rfl) rfl) rfl ?_
  exact ⟨_, rfl, ho.put p2 n1, p2.below hB (by omega)⟩
set_option maxHeartbeats 1600000 in
theorem implTransposeScheme_c (p n m k : Int) (g cap : Nat) (qs : List (List Nat)) (w : World) (hr : Rd w (some ⟨g, 0, none⟩) qs) (hlen : qs.length ≤ 1048576) :
    Calls Try.prog 13 #[.agg #[.int .i64 p, .int .i64 n, .int .i64 m, .int .i64 k, .slice (some ⟨g, 0, none⟩) qs.length cap]] w
      (ResS w (nrmZ p n m k qs p) (nrmZ p n m k qs k) (nrmZ p n m k qs m) (nrmZ p n m k qs n) (eachQs (traQ n.toNat m.toNat k.toNat) p n m k qs) (nrmCode p n m k qs)) := by
  have HW := Lib.hid (fun w hr => withEachTransposed_c p n m k k m n (traQ n.toNat m.toNat k.toNat) g cap qs w hr hlen (fun q h => traQ_bytes h) (fun hs q hq w => by
    have h3 := sizesB_parts (schemeB_sizes hs)
    have hn := sizeB_in h3.2.1
    have hm := sizeB_in h3.2.2.1
    have hk := sizeB_in h3.2.2.2
    have h := transposedProduct_c p n.toNat m.toNat k.toNat (.slice (some ⟨g, 0, none⟩) qs.length cap) q (hr.good q hq) w hn.2 hm.2 hk.2
    rw [hn.1, hm.1, hk.1] at h
    exact h))
  have HRb := Lib.hid (eachQs_good (N := traQ n.toNat m.toNat k.toNat) (p := p) (n := n) (m := m) (k := k) (fun q h => traQ_bytes h) hr.good).1
  generalize eachQs (traQ n.toNat m.toNat k.toNat) p n m k qs = R at *
  generalize nrmCode p n m k qs = code at *
  generalize nrmZ p n m k qs p = rp at *
  generalize nrmZ p n m k qs k = r1 at *
  generalize nrmZ p n m k qs m = r2 at *
  generalize nrmZ p n m k qs n = r3 at *
  go_enter Try.func13, Try.ntmps13
  go_wp2_with (first | (refine wpList_abs2 ?_; intro W hsz hB h0 h1; have k1 : W.cell? ⟨w.heap.size, 1, none⟩ = some (.int .i64 n) := h0.at_ 1; have k2 : W.cell? ⟨w.heap.size, 2, none⟩ = some (.int .i64 m) := h0.at_ 2; have k3 : W.cell? ⟨w.heap.size, 3, none⟩ = some (.int .i64 k) := h0.at_ 3) | (refine wpList_load_all rfl 28 _ rfl w.heap.size rfl _ _ _ h0 Try.underlying28 rfl 5 (by kernel_rfl) rfl ?_))
  refine (HW.out _ (hr.keep hB)).mono ?_
  rintro e w1 ⟨v, rfl, ho, b1⟩
  have hs1 := hB.size
  replace h1 := h1.after b1
  replace hB := below_after hB b1
  replace ho := ho.mono hs1
  obtain ⟨A1, c1, rfl, _⟩ := ho.rd HRb.out
  have n1 := ho.off h1 (by decide)
  clear b1 h0 k1 k2 k3 hsz
  go_wp2_with (refine wpList_store_all rfl 28 _ _ rfl rfl (w.heap.size + 1) rfl _ rfl _ _ h1 5 (by kernel_rfl) rfl rfl (one5 _ _ _ _ _ _ _) ?_; intro W2 p2)
  refine bodyPost_ret (results_at2 rfl _ _ (w.heap.size + 1) _ _ _ rfl _ rfl p2.at_ Try.underlying28 rfl 5 (by kernel_rfl) rfl) rfl ?_
  exact ⟨_, rfl, ho.put p2 n1, p2.below hB (by omega)⟩
end Go.Proofs.Ytolbkaojhkgidaa
