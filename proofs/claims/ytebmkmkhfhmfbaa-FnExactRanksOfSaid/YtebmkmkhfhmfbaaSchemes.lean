/-
  laws.toForm, laws.toProduct: the copies are equal; nothing that was there is written.
  laws.toProductS, toScheme, szProductS, szScheme: the copies are equal and lie in new memory; nothing that was there is written.
-/
import Derived.Test.YtebmkmkhfhmfbaaBase
import Derived.Test.YtebmkmkhfhmfbaaChecked
import Derived.Outline
namespace Go.Proofs.Ytebmkmkhfhmfbaa
open Go.RowKit
def ToFormRel (w : World) (f : List Nat) (i : Value) (wr : World) : Prop :=
  ∃ k : Nat, k ≤ 9 ∧ i = .int .i64 k ∧ Sz wr (w.heap.size + 1 + 1 + 1) ∧ Below w.heap.size w wr ∧ At wr w.heap.size (.cells (u8s f) 44 (0, 0)) ∧
    At wr (w.heap.size + 1) (.cells (u8s (List.replicate 9 0)) 45 (0, 0)) ∧ At wr (w.heap.size + 1 + 1) (.cells (u8s (f.take k ++ List.replicate (9 - k) 0)) 45 (0, 0))
set_option maxHeartbeats 400000 in
theorem toForm_c (f : List Nat) (hf : Bytes 9 f) (w : World) :
    Calls Try.prog 67 #[.agg (u8s f)] w fun e w' => e = .returned (.agg (u8s f)) ∧ Below w.heap.size w w' := by
  go_enter Try.func67, Try.ntmps67
  go_wp2_with fail
  go_loopw [4] (fun i wr => ToFormRel w f i wr) (fun i _ => 9 - (intOf i).toNat)
  case atStart => exact ⟨0, by omega, rfl, size_al3 _ _ _ _, below3 _ _ _ _, al3_0 _ _ _ _, al3_1 _ _ _ _, al3_2 _ _ _ _⟩
  case round =>
    obtain ⟨k, hk, rfl, hsz, hB, h0, h1, h2⟩ := hrel
    by_cases hlt : k < 9
    · have c0 := h0.cell (i := k) (by rw [hf.len]; exact hlt)
      have c2 := h2.cell (i := k) (by simp [hf.len]; omega)
      have z2 := h2.free k
      go_wp2
      go_roundw
      case rel =>
        have p := Put.set (i := k) h2 (f[k]?.getD 0)
        rw [fill_step hf.len hlt] at p
        exact ⟨k + 1, by omega, by go_num, p.size hsz, p.below hB (by omega), p.other h0 (by omega), p.other h1 (by omega), p.at_⟩
      case measure => simp [intOf]; omega
    · obtain rfl : k = 9 := by omega
      rw [fill_end hf.len] at h2
      go_wp2_with (first | (refine wpList_load_all rfl 45 _ rfl (w.heap.size + 1 + 1) rfl _ _ _ h2 Try.underlying45 rfl 9 (by kernel_rfl) ((u8s_size _).trans hf.len) ?_) | (refine wpList_store_u8s rfl 45 _ _ rfl rfl (w.heap.size + 1) 0 rfl _ rfl _ _ h1 9 (by kernel_rfl) hf.len (by simp) ?_; intro w2 p2))
      rw [over_all (by simp [hf.len])] at p2
      refine bodyPost_ret (v := .agg (u8s f)) (results_at rfl _ _ (w.heap.size + 1) _ _ _ rfl p2.at_ Try.underlying45 rfl 9 (by kernel_rfl) ((u8s_size _).trans hf.len)) rfl ?_
      exact ⟨rfl, p2.below hB (by omega)⟩
set_option maxHeartbeats 400000 in
theorem toProduct_c (q : List Nat) (hq : Bytes 27 q) (w : World) :
    Calls Try.prog 47 #[.agg (u8s q)] w fun e w' => e = .returned (.agg (u8s q)) ∧ Below w.heap.size w w' := by
  have s0 : Bytes 9 (segm q 0 9) := segm_bytes hq (by omega)
  have s1 : Bytes 9 (segm q 9 9) := segm_bytes hq (by omega)
  have s2 : Bytes 9 (segm q 18 9) := segm_bytes hq (by omega)
  have z27 : 27 ≤ q.length := by rw [hq.len]; exact Nat.le_refl _
  go_enter Try.func47, Try.ntmps47
  go_wp2_with (first | (refine wpList_abs3 ?_; intro W hsz hB h0 h1 h2; replace h1 : At W (w.heap.size + 1) (.cells (u8s (List.replicate 27 0)) 47 (0, 0)) := h1; replace h2 : At W (w.heap.size + 1 + 1) (.cells (u8s (List.replicate 27 0)) 47 (0, 0)) := h2) | (refine wpList_load_u8s rfl 44 _ rfl w.heap.size 0 rfl _ q _ 9 h0 Try.underlying44 rfl (by kernel_rfl) (by omega) ?_))
  refine (toForm_c _ s0 _).mono ?_
  rintro e w1 ⟨rfl, b1⟩
  replace h0 := h0.after b1
  replace h1 := h1.after b1
  replace h2 := h2.after b1
  replace hB := below_after hB b1
  go_wp2_with (first | (refine wpList_store_u8s rfl 45 _ _ rfl rfl (w.heap.size + 1 + 1) 0 rfl _ rfl _ _ h2 9 (by kernel_rfl) s0.len (by simp) ?_; intro w2 p2; replace h0 := p2.other h0 (by omega); replace h1 := p2.other h1 (by omega)) | (refine wpList_load_u8s rfl 44 _ rfl w.heap.size 9 rfl _ q _ 9 h0 Try.underlying44 rfl (by kernel_rfl) (by omega) ?_))
  replace h2 := p2.at_
  replace hB := p2.below hB (by omega)
  have l0 : (over (List.replicate 27 0) 0 (segm q 0 9)).length = 27 := by rw [over_length (by rw [s0.len]; simp)]; simp
  refine (toForm_c _ s1 _).mono ?_
  rintro e w3 ⟨rfl, b3⟩
  replace h0 := h0.after b3
  replace h1 := h1.after b3
  replace h2 := h2.after b3
  replace hB := below_after hB b3
  go_wp2_with (first | (refine wpList_store_u8s rfl 45 _ _ rfl rfl (w.heap.size + 1 + 1) 9 rfl _ rfl _ _ h2 9 (by kernel_rfl) s1.len (by omega) ?_; intro w4 p4; replace h0 := p4.other h0 (by omega); replace h1 := p4.other h1 (by omega)) | (refine wpList_load_u8s rfl 44 _ rfl w.heap.size 18 rfl _ q _ 9 h0 Try.underlying44 rfl (by kernel_rfl) (by omega) ?_))
  replace h2 := p4.at_
  replace hB := p4.below hB (by omega)
  have l1 : (over (over (List.replicate 27 0) 0 (segm q 0 9)) 9 (segm q 9 9)).length = 27 := by rw [over_length (by rw [s1.len, l0]; omega), l0]
  refine (toForm_c _ s2 _).mono ?_
  rintro e w5 ⟨rfl, b5⟩
  replace h0 := h0.after b5
  replace h1 := h1.after b5
  replace h2 := h2.after b5
  replace hB := below_after hB b5
  have hq3 := over3 q hq.len
  have l2 : (over (over (over (List.replicate 27 0) 0 (segm q 0 9)) 9 (segm q 9 9)) 18 (segm q 18 9)).length = 27 := by rw [hq3, hq.len]
  have Hq3 := Lib.hid hq3
  clear hq3
  go_wp2_with (first | (refine wpList_store_u8s rfl 45 _ _ rfl rfl (w.heap.size + 1 + 1) 18 rfl _ rfl _ _ h2 9 (by kernel_rfl) s2.len (by omega) ?_; intro w6 p6; replace h0 := p6.other h0 (by omega); replace h1 := p6.other h1 (by omega)) | (refine wpList_load_all rfl 47 _ rfl (w.heap.size + 1 + 1) rfl _ _ _ p6.at_ Try.underlying47 rfl 27 (by kernel_rfl) ((u8s_size _).trans l2) ?_) | (refine wpList_store_u8s rfl 47 _ _ rfl rfl (w.heap.size + 1) 0 rfl _ rfl _ _ h1 27 (by kernel_rfl) l2 (by simp) ?_; intro w7 p7))
  rw [over_all (by rw [l2]; simp), Hq3.out] at p7
  refine bodyPost_ret (v := .agg (u8s q)) (results_at rfl _ _ (w.heap.size + 1) _ _ _ rfl p7.at_ Try.underlying47 rfl 27 (by kernel_rfl) ((u8s_size _).trans hq.len)) rfl ?_
  exact ⟨rfl, p7.below (p6.below hB (by omega)) (by omega)⟩
end Go.Proofs.Ytebmkmkhfhmfbaa
namespace Go.Proofs.Ytebmkmkhfhmfbaa
open Go.RowKit
def ProdsRel (w : World) (g : Nat) (qs : List (List Nat)) (i : Value) (wr : World) : Prop :=
  ∃ k : Nat, k ≤ qs.length ∧ i = .int .i64 k ∧ Below w.heap.size w wr ∧ At wr g (.cells (u8s ((qs.take k).flatten ++ List.replicate ((qs.length - k) * 27) 0)) 47 (0, 0))
/-- The returned slice lies at the head of a new block, which holds just the products. -/
def NewProds (w : World) (qs : List (List Nat)) (e : Ending) (w' : World) : Prop :=
  ∃ g : Nat, e = .returned (.slice (some ⟨g, 0, none⟩) qs.length qs.length) ∧ w.heap.size ≤ g ∧ At w' g (.cells (u8s qs.flatten) 47 (0, 0)) ∧ Below w.heap.size w w'
set_option maxHeartbeats 400000 in
theorem toProductS_c (A : Option Addr) (c : Nat) (qs : List (List Nat)) (w : World) (hr : Rd w A qs) (hn : qs.length ≤ 1048576) :
    Calls Try.prog 21 #[.slice A qs.length c] w (NewProds w qs) := by
  have hl : ∀ q ∈ qs, q.length = 27 := hr.len
  go_enter Try.func21, Try.ntmps21
  go_wp2_with (refine wpList_make_u8s rfl _ _ 29 rfl 47 27 27 Try.underlying29 (by kernel_rfl) (by omega) qs.length rfl rfl (by omega) (by omega) ?_; intro w1 n1)
  have hB := n1.below (Below.refl w.heap.size w) (Nat.le_refl _)
  have hA := n1.at_
  go_wp2_with fail
  go_loopw [4] (fun i wr => ProdsRel w w.heap.size qs i wr) (fun i _ => qs.length - (intOf i).toNat)
  case atStart => exact ⟨0, by omega, rfl, hB, by simpa using hA⟩
  case round =>
    obtain ⟨k, hk, rfl, hB1, hA1⟩ := hrel
    clear n1 hA
    by_cases hlt : k < qs.length
    · obtain ⟨b, off, rfl, hc⟩ := (hr.keep hB1).at_ hlt
      have hq := hr.good qs[k] (List.getElem_mem hlt)
      have Hs := Lib.hid (flat_step hl (List.getElem?_eq_getElem hlt))
      have Hl := Lib.hid hl
      have Hc := Lib.hid hc
      have Hr := Lib.hid hr
      clear hl hc hr
      go_wp2_with (refine wpList_load_cells rfl 80 _ rfl b (off + k * 27) rfl qs[k] _ 27 Hc.out Try.underlying80 rfl (by kernel_rfl) hq.len ?_)
      refine (toProduct_c _ hq _).mono ?_
      rintro e w2 ⟨rfl, b2⟩
      have hA2 := hA1.after b2
      have hB2 := below_after hB1 b2
      have Hlen := Lib.hid (flat_room Hl.out hlt)
      go_wp2_with (refine wpList_store_u8s rfl 47 _ _ rfl rfl w.heap.size (k * 27) rfl qs[k] rfl _ _ hA2 27 (by kernel_rfl) hq.len Hlen.out ?_; intro w3 p3)
      go_roundw
      case rel =>
        have h3 := p3.at_
        rw [Hs.out] at h3
        exact ⟨k + 1, by omega, by go_num, p3.below hB2 (Nat.le_refl _), h3⟩
      case measure => simp [intOf]; omega
    · obtain rfl : k = qs.length := by omega
      rw [flat_end] at hA1
      go_wp2_with fail
      go_ret
      exact ⟨w.heap.size, rfl, Nat.le_refl _, hA1, hB1⟩
/-- The returned scheme has new products. -/
def NewScheme (w : World) (p n m k : Int) (qs : List (List Nat)) (e : Ending) (w' : World) : Prop :=
  ∃ g : Nat, e = .returned (.agg #[.int .i64 p, .int .i64 n, .int .i64 m, .int .i64 k, .slice (some ⟨g, 0, none⟩) qs.length qs.length]) ∧ w.heap.size ≤ g ∧ At w' g (.cells (u8s qs.flatten) 47 (0, 0)) ∧ Below w.heap.size w w'
set_option maxHeartbeats 400000 in
theorem toScheme_c (p n m k : Int) (A : Option Addr) (c : Nat) (qs : List (List Nat)) (w : World) (hr : Rd w A qs) (hn : qs.length ≤ 1048576) :
    Calls Try.prog 7 #[.agg #[.int .i64 p, .int .i64 n, .int .i64 m, .int .i64 k, .slice A qs.length c]] w (NewScheme w p n m k qs) := by
  go_enter Try.func7, Try.ntmps7
  go_wp2_with fail
  refine (toProductS_c A c qs _ (hr.keep (below3 _ _ _ _)) hn).mono ?_
  rintro e w1 ⟨g, rfl, hg, hA, b1⟩
  have h1 := At.after (al3_1 _ _ _ _) b1
  have h2 := At.after (al3_2 _ _ _ _) b1
  have hB := below_after (below3 _ _ _ _) b1
  rw [size_al3] at hg
  clear b1
  have c4 : w1.cell? ⟨w.heap.size + 1 + 1, 4, none⟩ = some (.slice none 0 0) := h2.at_ 4
  have f4 := h2.free 4
  have p2 := Put.cell (i := 4) h2 (.slice (some ⟨g, 0, none⟩) qs.length qs.length)
  have h1' := p2.other h1 (by omega)
  have h2' := p2.at_
  have hA' := p2.other hA (by omega)
  have hB' := p2.below hB (by omega)
  clear p2 h1 h2
  go_wp2_with (first | (refine wpList_load_all rfl 31 _ rfl (w.heap.size + 1 + 1) rfl _ _ _ h2' Try.underlying31 rfl 5 (by kernel_rfl) rfl ?_) | (refine wpList_store_all rfl 31 _ _ rfl rfl (w.heap.size + 1) rfl _ rfl _ _ h1' 5 (by kernel_rfl) rfl rfl (by simp [Value.oneCell']) ?_; intro w2 p2))
  refine bodyPost_ret (results_at rfl _ _ (w.heap.size + 1) _ _ _ rfl p2.at_ Try.underlying31 rfl 5 (by kernel_rfl) rfl) rfl ?_
  exact ⟨g, rfl, by omega, p2.other hA' (by omega), p2.below hB' (by omega)⟩
set_option maxHeartbeats 400000 in
theorem szProductS_c (A : Option Addr) (n c : Nat) (l : Int) (w : World) (h0 : 0 ≤ l) (hn : n ≤ 9223372036854775807) (hl : l ≤ 1048576) :
    Calls Try.prog 18 #[.slice A n c, .int .i64 l] w fun e w' => e = .returned (.int .i64 (if l < n then -1 else l - n)) ∧ w = w' := by
  by_cases h : l - n < 0
  · have h' : l < n := by omega
    go_enter Try.func18, Try.ntmps18
    go_wp2_with fail
    go_ret
    exact ⟨by simp, rfl⟩
  · have h' : ¬ l < n := by omega
    go_enter Try.func18, Try.ntmps18
    go_wp2_with fail
    go_ret
    exact ⟨by simp, rfl⟩
theorem szScheme_c (p n m k : Int) (A : Option Addr) (len c : Nat) (l : Int) (w : World) (h0 : 0 ≤ l) (hn : len ≤ 9223372036854775807) (hl : l ≤ 1048576) :
    Calls Try.prog 5 #[.agg #[.int .i64 p, .int .i64 n, .int .i64 m, .int .i64 k, .slice A len c], .int .i64 l] w fun e w' => e = .returned (.int .i64 (if l < len then -1 else l - len)) ∧ Below w.heap.size w w' := by
  by_cases h : l < len
  · have h1 := szProductS_c A len c l
    simp only [if_pos h] at h1
    go_enter Try.func5, Try.ntmps5
    go_wp2_with (go_at_call 18; refine (h1 _ h0 hn hl).mono ?_; rintro e w' ⟨rfl, rfl⟩)
    go_ret
    exact ⟨by simp, below1 _ _⟩
  · have h1 := szProductS_c A len c l
    simp only [if_neg h] at h1
    have h2 : ¬ l - len < 0 := by omega
    go_enter Try.func5, Try.ntmps5
    go_wp2_with (go_at_call 18; refine (h1 _ h0 hn hl).mono ?_; rintro e w' ⟨rfl, rfl⟩)
    go_ret
    exact ⟨by simp, below1 _ _⟩
end Go.Proofs.Ytebmkmkhfhmfbaa
