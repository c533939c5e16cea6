/-
  Twigs as rows of 108 bytes; laws.toSeries, toTwig, toTwigS, toBorder: the copies are equal and lie in new memory. (Made by mktw.py.)
-/
import Derived.Test.YtnlidegmllcdhaaMat1
namespace Go.Proofs.Ytnlidegmllcdhaa
open Go.RowKit
set_option maxRecDepth 100000
/-- The slice value over 'A', of as many elements as 'qs', reads as the products 'qs'. -/
def RdT (w : World) (A : Option Addr) (qs : List (List Nat)) : Prop :=
  (∀ q ∈ qs, Bytes 108 q) ∧ (qs = [] ∨ ∃ b off, A = some ⟨b, off, none⟩ ∧ ∀ (i : Nat) (q : List Nat), qs[i]? = some q → ∀ j, j < 108 → w.cell? ⟨b, off + i * 108 + j, none⟩ = some (.int .u8 ((q[j]?.getD 0 : Nat) : Int)))
theorem RdT.good {w : World} {A : Option Addr} {qs : List (List Nat)} (h : RdT w A qs) : ∀ q ∈ qs, Bytes 108 q := h.1
theorem RdT.len {w : World} {A : Option Addr} {qs : List (List Nat)} (h : RdT w A qs) : ∀ q ∈ qs, q.length = 108 := fun q hq => (h.1 q hq).len
theorem RdT.at_ {w : World} {A : Option Addr} {qs : List (List Nat)} (h : RdT w A qs) {i : Nat} (hi : i < qs.length) :
    ∃ b off, A = some ⟨b, off, none⟩ ∧ ∀ j, j < 108 → w.cell? ⟨b, off + i * 108 + j, none⟩ = some (.int .u8 ((qs[i][j]?.getD 0 : Nat) : Int)) := by
  rcases h.2 with rfl | ⟨b, off, hA, hc⟩
  · simp at hi
  · exact ⟨b, off, hA, hc i qs[i] (List.getElem?_eq_getElem hi)⟩
theorem RdT.keep {w w' : World} {A : Option Addr} {qs : List (List Nat)} (h : RdT w A qs) (hb : Below w.heap.size w w') : RdT w' A qs := by
  refine ⟨h.1, ?_⟩
  rcases h.2 with h0 | ⟨b, off, hA, hc⟩
  · exact .inl h0
  · refine .inr ⟨b, off, hA, fun i q hi j hj => ?_⟩
    have := hc i q hi j hj
    rw [hb.cell (p := ⟨b, off + i * 108 + j, none⟩) (block_lt_of_cell this)]
    exact this
theorem RdT.of_at {w : World} {g : Nat} {t : TypeId} {qs : List (List Nat)} (h : At w g (.cells (u8s qs.flatten) t (0, 0))) (hq : ∀ q ∈ qs, Bytes 108 q) : RdT w (some ⟨g, 0, none⟩) qs := by
  refine ⟨hq, .inr ⟨g, 0, rfl, fun i q hi j hj => ?_⟩⟩
  have hl : ∀ q ∈ qs, q.length = 108 := fun q hm => (hq q hm).len
  have hlt : i < qs.length := (List.getElem?_eq_some_iff.1 hi).1
  have e := flat_get hl hi hj
  have hb : i * 108 + j < qs.flatten.length := by
    rw [flat_len hl]
    have : (i + 1) * 108 ≤ qs.length * 108 := Nat.mul_le_mul_right _ hlt
    omega
  have := h.cell hb
  rw [e] at this
  simpa using this
theorem RdT.none_ (w : World) (A : Option Addr) : RdT w A [] := ⟨by simp, .inl rfl⟩
theorem RdT.drewN {w : World} {A : Option Addr} {qs : List (List Nat)} (h : RdT w A qs) (n : Nat) : RdT (w.drewN n) A qs := h
theorem overT3 (q : List Nat) (h : q.length = 108) : over (over (over (List.replicate 108 0) 0 (segm q 0 36)) 36 (segm q 36 36)) 72 (segm q 72 36) = q := by
  have h9 : q = q.take 36 ++ (q.drop 36).take 36 ++ (q.drop 72).take 36 := by
    have e1 : (q.drop 72).take 36 = q.drop 72 := List.take_of_length_le (by simp [h])
    have e2 : (q.drop 36).take 36 ++ q.drop 72 = q.drop 36 := by
      have := List.take_append_drop 36 (q.drop 36)
      rwa [List.drop_drop] at this
    rw [e1, List.append_assoc, e2, List.take_append_drop]
  have a0 : (q.take 36).length = 36 := by simp [h]
  have a1 : ((q.drop 36).take 36).length = 36 := by simp [h]
  have a2 : ((q.drop 72).take 36).length = 36 := by simp [h]
  simp only [segm, List.drop_zero]
  generalize q.take 36 = x at *
  generalize (q.drop 36).take 36 = y at *
  generalize (q.drop 72).take 36 = z at *
  subst h9
  have d0 : x.take 72 = x := List.take_of_length_le (by omega)
  have d1 : x.drop 108 = [] := List.drop_eq_nil_of_le (by omega)
  have d2 : y.drop 72 = [] := List.drop_eq_nil_of_le (by omega)
  simp [over, a0, a1, a2, d0, d1, d2, List.take_append, List.drop_append]

theorem RdT.after {w w' : World} {A : Option Addr} {qs : List (List Nat)} (h : RdT w A qs) (hb : Below w.heap.size w w') : RdT w' A qs := h.keep hb
theorem segmsT_eq {q r : List Nat} (hq : q.length = 108) (hr : r.length = 108) (h0 : segm q 0 36 = segm r 0 36) (h1 : segm q 36 36 = segm r 36 36) (h2 : segm q 72 36 = segm r 72 36) : q = r := by
  rw [← overT3 q hq, ← overT3 r hr, h0, h1, h2]
def ToA4Rel (w : World) (f : List Nat) (i : Value) (wr : World) : Prop :=
  ∃ k : Nat, k ≤ 4 ∧ i = .int .i64 k ∧ Sz wr (w.heap.size + 1 + 1 + 1) ∧ Below w.heap.size w wr ∧ At wr w.heap.size (.cells (u8s f) 48 (0, 0)) ∧
    At wr (w.heap.size + 1) (.cells (u8s (List.replicate 4 0)) 48 (0, 0)) ∧ At wr (w.heap.size + 1 + 1) (.cells (u8s (f.take k ++ List.replicate (4 - k) 0)) 48 (0, 0))
set_option maxHeartbeats 400000 in
theorem toByteA4_c (f : List Nat) (hf : Bytes 4 f) (w : World) :
    Calls Try.prog 83 #[.agg (u8s f)] w fun e w' => e = .returned (.agg (u8s f)) ∧ Below w.heap.size w w' := by
  go_enter Try.func83, Try.ntmps83
  go_wp2_with fail
  go_loopw [4] (fun i wr => ToA4Rel w f i wr) (fun i _ => 4 - (intOf i).toNat)
  case atStart => exact ⟨0, by omega, rfl, size_al3 _ _ _ _, below3 _ _ _ _, al3_0 _ _ _ _, al3_1 _ _ _ _, al3_2 _ _ _ _⟩
  case round =>
    obtain ⟨k, hk, rfl, hsz, hB, h0, h1, h2⟩ := hrel
    by_cases hlt : k < 4
    · have c0 := h0.cell (i := k) (by rw [hf.len]; exact hlt)
      have c2 := h2.cell (i := k) (by simp [hf.len]; omega)
      have z2 := h2.free k
      go_wp2
      go_roundw
      case rel =>
        have p := Put.set (i := k) h2 (f[k]?.getD 0)
        rw [fill_step hf.len hlt] at p
        exact ⟨k + 1, by omega, by go_num, p.size hsz, p.below hB (by omega), p.other h0 (by omega), p.other h1 (by omega), p.at_⟩
      case measure => simp [intOf]; omega
    · obtain rfl : k = 4 := by omega
      rw [fill_end hf.len] at h2
      go_wp2_with (first | (refine wpList_load_all rfl 48 _ rfl (w.heap.size + 1 + 1) rfl _ _ _ h2 Try.underlying48 rfl 4 (by kernel_rfl) ((u8s_size _).trans hf.len) ?_) | (refine wpList_store_u8s rfl 48 _ _ rfl rfl (w.heap.size + 1) 0 rfl _ rfl _ _ h1 4 (by kernel_rfl) hf.len (by simp) ?_; intro w2 p2))
      rw [over_all (by simp [hf.len])] at p2
      refine bodyPost_ret (v := .agg (u8s f)) (results_at rfl _ _ (w.heap.size + 1) _ _ _ rfl p2.at_ Try.underlying48 rfl 4 (by kernel_rfl) ((u8s_size _).trans hf.len)) rfl ?_
      exact ⟨rfl, p2.below hB (by omega)⟩
theorem fill4 {f : List Nat} {k : Nat} (hf : f.length = 36) (hk : k < 9) : over (f.take (k * 4) ++ List.replicate (36 - k * 4) 0) (k * 4) (segm f (k * 4) 4) = f.take ((k + 1) * 4) ++ List.replicate (36 - (k + 1) * 4) 0 := by
  have hl : (f.take (k * 4)).length = k * 4 := by rw [List.length_take]; omega
  have hs : (segm f (k * 4) 4).length = 4 := segm_len (by omega)
  unfold over
  rw [List.take_left' hl, hs, List.drop_append, hl, List.drop_eq_nil_of_le (by rw [hl]; omega), List.nil_append, List.drop_replicate, show (k + 1) * 4 = k * 4 + 4 by omega, List.take_add, show 36 - k * 4 - (k * 4 + 4 - k * 4) = 36 - (k * 4 + 4) by omega]
  rfl
def ToSerRel (w : World) (f : List Nat) (i : Value) (wr : World) : Prop :=
  ∃ k : Nat, k ≤ 9 ∧ i = .int .i64 k ∧ Below w.heap.size w wr ∧ At wr w.heap.size (.cells (u8s f) 49 (0, 0)) ∧
    At wr (w.heap.size + 1) (.cells (u8s (List.replicate 36 0)) 50 (0, 0)) ∧ At wr (w.heap.size + 1 + 1) (.cells (u8s (f.take (k * 4) ++ List.replicate (36 - k * 4) 0)) 50 (0, 0))
set_option maxHeartbeats 800000 in
theorem toSeries_c (f : List Nat) (hf : Bytes 36 f) (w : World) :
    Calls Try.prog 71 #[.agg (u8s f)] w fun e w' => e = .returned (.agg (u8s f)) ∧ Below w.heap.size w w' := by
  go_enter Try.func71, Try.ntmps71
  go_wp2_with fail
  go_loopw [4] (fun i wr => ToSerRel w f i wr) (fun i _ => 9 - (intOf i).toNat)
  case atStart => exact ⟨0, by omega, rfl, below3 _ _ _ _, al3_0 _ _ _ _, al3_1 _ _ _ _, by rw [Nat.zero_mul, List.take_zero]; exact al3_2 _ _ _ _⟩
  case round =>
    obtain ⟨k, hk, rfl, hB, h0, h1, h2⟩ := hrel
    by_cases hlt : k < 9
    · have hq : Bytes 4 (segm f (k * 4) 4) := segm_bytes hf (by omega)
      have hlen : (f.take (k * 4) ++ List.replicate (36 - k * 4) 0).length = 36 := by rw [List.length_append, List.length_take, List.length_replicate, hf.len]; omega
      have Hs := Lib.hid (fill4 hf.len hlt)
      have Hl := Lib.hid hlen
      have Hf := Lib.hid hf.len
      have Hz := Lib.hid (show w.heap.size + 1 + 1 < wr.heap.size from h2.lt)
      clear hlen
      go_wp2_with (refine wpList_load_u8s rfl 48 _ rfl w.heap.size (k * 4) rfl _ f _ 4 h0 Try.underlying48 rfl (by kernel_rfl) (by have := Hf.out; omega) ?_)
      refine (toByteA4_c _ hq _).mono ?_
      rintro e w2 ⟨rfl, b2⟩
      replace h0 := h0.after b2
      replace h1 := h1.after b2
      replace h2 := h2.after b2
      replace hB := below_after hB b2
      go_wp2_with (refine wpList_store_u8s rfl 48 _ _ rfl rfl (w.heap.size + 1 + 1) (k * 4) rfl _ rfl _ _ h2 4 (by kernel_rfl) hq.len (by have := Hl.out; omega) ?_; intro w3 p3)
      go_roundw
      case rel =>
        have h3 := p3.at_
        rw [Hs.out] at h3
        exact ⟨k + 1, by omega, by go_num, p3.below hB (by omega), p3.other h0 (by omega), p3.other h1 (by omega), h3⟩
      case measure => simp [intOf]; omega
    · obtain rfl : k = 9 := by omega
      have hT : f.take (9 * 4) ++ List.replicate (36 - 9 * 4) 0 = f := by simp [← hf.len]
      rw [hT] at h2
      go_wp2_with (first | (refine wpList_load_all rfl 50 _ rfl (w.heap.size + 1 + 1) rfl _ _ _ h2 Try.underlying50 rfl 36 (by kernel_rfl) ((u8s_size _).trans hf.len) ?_) | (refine wpList_store_u8s rfl 50 _ _ rfl rfl (w.heap.size + 1) 0 rfl _ rfl _ _ h1 36 (by kernel_rfl) hf.len (by simp) ?_; intro w2 p2))
      rw [over_all (by simp [hf.len])] at p2
      refine bodyPost_ret (v := .agg (u8s f)) (results_at rfl _ _ (w.heap.size + 1) _ _ _ rfl p2.at_ Try.underlying50 rfl 36 (by kernel_rfl) ((u8s_size _).trans hf.len)) rfl ?_
      exact ⟨rfl, p2.below hB (by omega)⟩
set_option maxHeartbeats 400000 in
theorem toTwig_c (q : List Nat) (hq : Bytes 108 q) (w : World) :
    Calls Try.prog 51 #[.agg (u8s q)] w fun e w' => e = .returned (.agg (u8s q)) ∧ Below w.heap.size w w' := by
  have s0 : Bytes 36 (segm q 0 36) := segm_bytes hq (by omega)
  have s1 : Bytes 36 (segm q 36 36) := segm_bytes hq (by omega)
  have s2 : Bytes 36 (segm q 72 36) := segm_bytes hq (by omega)
  have z108 : 108 ≤ q.length := by rw [hq.len]; exact Nat.le_refl _
  go_enter Try.func51, Try.ntmps51
  go_wp2_with (first | (refine wpList_abs3 ?_; intro W hsz hB h0 h1 h2; replace h1 : At W (w.heap.size + 1) (.cells (u8s (List.replicate 108 0)) 52 (0, 0)) := h1; replace h2 : At W (w.heap.size + 1 + 1) (.cells (u8s (List.replicate 108 0)) 52 (0, 0)) := h2) | (refine wpList_load_u8s rfl 49 _ rfl w.heap.size 0 rfl _ q _ 36 h0 Try.underlying49 rfl (by kernel_rfl) (by omega) ?_))
  refine (toSeries_c _ s0 _).mono ?_
  rintro e w1 ⟨rfl, b1⟩
  replace h0 := h0.after b1
  replace h1 := h1.after b1
  replace h2 := h2.after b1
  replace hB := below_after hB b1
  go_wp2_with (first | (refine wpList_store_u8s rfl 50 _ _ rfl rfl (w.heap.size + 1 + 1) 0 rfl _ rfl _ _ h2 36 (by kernel_rfl) s0.len (by simp) ?_; intro w2 p2; replace h0 := p2.other h0 (by omega); replace h1 := p2.other h1 (by omega)) | (refine wpList_load_u8s rfl 49 _ rfl w.heap.size 36 rfl _ q _ 36 h0 Try.underlying49 rfl (by kernel_rfl) (by omega) ?_))
  replace h2 := p2.at_
  replace hB := p2.below hB (by omega)
  have l0 : (over (List.replicate 108 0) 0 (segm q 0 36)).length = 108 := by rw [over_length (by rw [s0.len]; simp)]; simp
  refine (toSeries_c _ s1 _).mono ?_
  rintro e w3 ⟨rfl, b3⟩
  replace h0 := h0.after b3
  replace h1 := h1.after b3
  replace h2 := h2.after b3
  replace hB := below_after hB b3
  go_wp2_with (first | (refine wpList_store_u8s rfl 50 _ _ rfl rfl (w.heap.size + 1 + 1) 36 rfl _ rfl _ _ h2 36 (by kernel_rfl) s1.len (by omega) ?_; intro w4 p4; replace h0 := p4.other h0 (by omega); replace h1 := p4.other h1 (by omega)) | (refine wpList_load_u8s rfl 49 _ rfl w.heap.size 72 rfl _ q _ 36 h0 Try.underlying49 rfl (by kernel_rfl) (by omega) ?_))
  replace h2 := p4.at_
  replace hB := p4.below hB (by omega)
  have l1 : (over (over (List.replicate 108 0) 0 (segm q 0 36)) 36 (segm q 36 36)).length = 108 := by rw [over_length (by rw [s1.len, l0]; omega), l0]
  refine (toSeries_c _ s2 _).mono ?_
  rintro e w5 ⟨rfl, b5⟩
  replace h0 := h0.after b5
  replace h1 := h1.after b5
  replace h2 := h2.after b5
  replace hB := below_after hB b5
  have hq3 := overT3 q hq.len
  have l2 : (over (over (over (List.replicate 108 0) 0 (segm q 0 36)) 36 (segm q 36 36)) 72 (segm q 72 36)).length = 108 := by rw [hq3, hq.len]
  have Hq3 := Lib.hid hq3
  clear hq3
  go_wp2_with (first | (refine wpList_store_u8s rfl 50 _ _ rfl rfl (w.heap.size + 1 + 1) 72 rfl _ rfl _ _ h2 36 (by kernel_rfl) s2.len (by omega) ?_; intro w6 p6; replace h0 := p6.other h0 (by omega); replace h1 := p6.other h1 (by omega)) | (refine wpList_load_all rfl 52 _ rfl (w.heap.size + 1 + 1) rfl _ _ _ p6.at_ Try.underlying52 rfl 108 (by kernel_rfl) ((u8s_size _).trans l2) ?_) | (refine wpList_store_u8s rfl 52 _ _ rfl rfl (w.heap.size + 1) 0 rfl _ rfl _ _ h1 108 (by kernel_rfl) l2 (by simp) ?_; intro w7 p7))
  rw [over_all (by rw [l2]; simp), Hq3.out] at p7
  refine bodyPost_ret (v := .agg (u8s q)) (results_at rfl _ _ (w.heap.size + 1) _ _ _ rfl p7.at_ Try.underlying52 rfl 108 (by kernel_rfl) ((u8s_size _).trans hq.len)) rfl ?_
  exact ⟨rfl, p7.below (p6.below hB (by omega)) (by omega)⟩
def TwigsRel (w : World) (g : Nat) (qs : List (List Nat)) (i : Value) (wr : World) : Prop :=
  ∃ k : Nat, k ≤ qs.length ∧ i = .int .i64 k ∧ Below w.heap.size w wr ∧ At wr g (.cells (u8s ((qs.take k).flatten ++ List.replicate ((qs.length - k) * 108) 0)) 52 (0, 0))
/-- The returned slice lies at the head of a new block, which holds just the products. -/
def NewTwigs (w : World) (qs : List (List Nat)) (e : Ending) (w' : World) : Prop :=
  ∃ g : Nat, e = .returned (.slice (some ⟨g, 0, none⟩) qs.length qs.length) ∧ w.heap.size ≤ g ∧ At w' g (.cells (u8s qs.flatten) 52 (0, 0)) ∧ Below w.heap.size w w'
set_option maxHeartbeats 400000 in
theorem toTwigS_c (A : Option Addr) (c : Nat) (qs : List (List Nat)) (w : World) (hr : RdT w A qs) (hn : qs.length ≤ 1048576) :
    Calls Try.prog 28 #[.slice A qs.length c] w (NewTwigs w qs) := by
  have hl : ∀ q ∈ qs, q.length = 108 := hr.len
  go_enter Try.func28, Try.ntmps28
  go_wp2_with (refine wpList_make_u8s rfl _ _ 31 rfl 52 108 108 Try.underlying31 (by kernel_rfl) (by omega) qs.length rfl rfl (by omega) (by omega) ?_; intro w1 n1)
  have hB := n1.below (Below.refl w.heap.size w) (Nat.le_refl _)
  have hA := n1.at_
  go_wp2_with fail
  go_loopw [4] (fun i wr => TwigsRel w w.heap.size qs i wr) (fun i _ => qs.length - (intOf i).toNat)
  case atStart => exact ⟨0, by omega, rfl, hB, by simpa using hA⟩
  case round =>
    obtain ⟨k, hk, rfl, hB1, hA1⟩ := hrel
    clear n1 hA
    by_cases hlt : k < qs.length
    · obtain ⟨b, off, rfl, hc⟩ := (hr.keep hB1).at_ hlt
      have hq := hr.good qs[k] (List.getElem_mem hlt)
      have Hs := Lib.hid (flat_step hl (List.getElem?_eq_getElem hlt))
      have Hl := Lib.hid hl
      have Hc := Lib.hid hc
      have Hr := Lib.hid hr
      clear hl hc hr
      go_wp2_with (refine wpList_load_cells rfl 84 _ rfl b (off + k * 108) rfl qs[k] _ 108 Hc.out Try.underlying84 rfl (by kernel_rfl) hq.len ?_)
      refine (toTwig_c _ hq _).mono ?_
      rintro e w2 ⟨rfl, b2⟩
      have hA2 := hA1.after b2
      have hB2 := below_after hB1 b2
      have Hlen := Lib.hid (flat_room Hl.out hlt)
      go_wp2_with (refine wpList_store_u8s rfl 52 _ _ rfl rfl w.heap.size (k * 108) rfl qs[k] rfl _ _ hA2 108 (by kernel_rfl) hq.len Hlen.out ?_; intro w3 p3)
      go_roundw
      case rel =>
        have h3 := p3.at_
        rw [Hs.out] at h3
        exact ⟨k + 1, by omega, by go_num, p3.below hB2 (Nat.le_refl _), h3⟩
      case measure => simp [intOf]; omega
    · obtain rfl : k = qs.length := by omega
      rw [flat_end] at hA1
      go_wp2_with fail
      go_ret
      exact ⟨w.heap.size, rfl, Nat.le_refl _, hA1, hB1⟩
/-- The returned scheme has new products. -/
def NewBorder (w : World) (p n m k : Int) (qs : List (List Nat)) (e : Ending) (w' : World) : Prop :=
  ∃ g : Nat, e = .returned (.agg #[.int .i64 p, .int .i64 n, .int .i64 m, .int .i64 k, .slice (some ⟨g, 0, none⟩) qs.length qs.length]) ∧ w.heap.size ≤ g ∧ At w' g (.cells (u8s qs.flatten) 52 (0, 0)) ∧ Below w.heap.size w w'
set_option maxHeartbeats 400000 in
theorem toBorder_c (p n m k : Int) (A : Option Addr) (c : Nat) (qs : List (List Nat)) (w : World) (hr : RdT w A qs) (hn : qs.length ≤ 1048576) :
    Calls Try.prog 9 #[.agg #[.int .i64 p, .int .i64 n, .int .i64 m, .int .i64 k, .slice A qs.length c]] w (NewBorder w p n m k qs) := by
  go_enter Try.func9, Try.ntmps9
  go_wp2_with fail
  refine (toTwigS_c A c qs _ (hr.keep (below3 _ _ _ _)) hn).mono ?_
  rintro e w1 ⟨g, rfl, hg, hA, b1⟩
  have h1 := At.after (al3_1 _ _ _ _) b1
  have h2 := At.after (al3_2 _ _ _ _) b1
  have hB := below_after (below3 _ _ _ _) b1
  rw [size_al3] at hg
  clear b1
  have c4 : w1.cell? ⟨w.heap.size + 1 + 1, 4, none⟩ = some (.slice none 0 0) := h2.at_ 4
  have f4 := h2.free 4
  have p2 := Put.cell (i := 4) h2 (.slice (some ⟨g, 0, none⟩) qs.length qs.length)
  have h1' := p2.other h1 (by omega)
  have h2' := p2.at_
  have hA' := p2.other hA (by omega)
  have hB' := p2.below hB (by omega)
  clear p2 h1 h2
  go_wp2_with (first | (refine wpList_load_all rfl 33 _ rfl (w.heap.size + 1 + 1) rfl _ _ _ h2' Try.underlying33 rfl 5 (by kernel_rfl) rfl ?_) | (refine wpList_store_all rfl 33 _ _ rfl rfl (w.heap.size + 1) rfl _ rfl _ _ h1' 5 (by kernel_rfl) rfl rfl (by simp [Value.oneCell']) ?_; intro w2 p2))
  refine bodyPost_ret (results_at rfl _ _ (w.heap.size + 1) _ _ _ rfl p2.at_ Try.underlying33 rfl 5 (by kernel_rfl) rfl) rfl ?_
  exact ⟨g, rfl, by omega, p2.other hA' (by omega), p2.below hB' (by omega)⟩
end Go.Proofs.Ytnlidegmllcdhaa
