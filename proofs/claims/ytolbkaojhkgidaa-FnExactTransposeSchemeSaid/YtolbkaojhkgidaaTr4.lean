/-
  impl.withEachProduct, TurnScheme, TransposeScheme.
-/
import Derived.Test.YtolbkaojhkgidaaTr3
import Derived.Test.YtolbkaojhkgidaaNrm6
namespace Go.Proofs.Ytolbkaojhkgidaa
open Go.RowKit
set_option maxRecDepth 100000
theorem mixQ_bytes' {N : List Nat → List Nat} {qs : List (List Nat)} (hN : ∀ q, Bytes 27 q → Bytes 27 (N q)) (hq : ∀ q ∈ qs, Bytes 27 q) (j : Nat) : ∀ q ∈ mixQ N qs j, Bytes 27 q := by
  intro q hm
  simp only [mixQ, List.mem_append, List.mem_map] at hm
  rcases hm with ⟨r, hr, rfl⟩ | hm
  · exact hN r (hq r (List.mem_of_mem_take hr))
  · exact hq q (List.mem_of_mem_drop hm)
def eachQs (N : List Nat → List Nat) (p n m k : Int) (qs : List (List Nat)) : List (List Nat) := if schemeB p n m k qs then qs.map N else []
def EachRel (w : World) (p n m k a b c : Int) (g cap : Nat) (A1 : Option Addr) (c1 : Nat) (N : List Nat → List Nat) (qs : List (List Nat)) (j : Nat) (wr : World) : Prop :=
  Below w.heap.size w wr ∧ At wr w.heap.size (.cells #[.int .i64 p, .int .i64 n, .int .i64 m, .int .i64 k, .slice (some ⟨g, 0, none⟩) qs.length cap] 28 (0, 0)) ∧ At wr (w.heap.size + 1) (.cells #[.int .i64 a, .int .i64 b, .int .i64 c] 45 (0, 0)) ∧ At wr (w.heap.size + 1 + 1) (.cells #[.int .i64 0, .int .i64 0, .int .i64 0, .int .i64 0, .slice none 0 0] 28 (0, 0)) ∧ Own wr (w.heap.size + 1 + 1 + 1) (.slice A1 qs.length c1) (mixQ N qs j)
set_option maxHeartbeats 3200000 in
theorem withEachTurned_c (p n m k a b c : Int) (N : List Nat → List Nat) (g cap : Nat) (qs : List (List Nat)) (w : World) (hr : Rd w (some ⟨g, 0, none⟩) qs) (hlen : qs.length ≤ 1048576) (hNb : ∀ q, Bytes 27 q → Bytes 27 (N q))
    (hN : schemeB p n m k qs = true → ∀ q ∈ qs, ∀ w, Calls Try.prog 19 #[.agg #[.int .i64 p, .int .i64 n, .int .i64 m, .int .i64 k, .slice (some ⟨g, 0, none⟩) qs.length cap], .agg (u8s q)] w fun e w' => e = .returned (.agg (u8s (N q))) ∧ Below w.heap.size w w') :
    Calls Try.prog 18 #[.agg #[.int .i64 p, .int .i64 n, .int .i64 m, .int .i64 k, .slice (some ⟨g, 0, none⟩) qs.length cap], .agg #[.int .i64 a, .int .i64 b, .int .i64 c], .func (.func 19) #[] #[]] w
      (ResS w (nrmZ p n m k qs p) (nrmZ p n m k qs a) (nrmZ p n m k qs b) (nrmZ p n m k qs c) (eachQs N p n m k qs) (nrmCode p n m k qs)) := by
  have HI := Lib.hid (fun w hr => implIsScheme_c p n m k (some ⟨g, 0, none⟩) cap qs w hr hlen)
  cases hs : schemeB p n m k qs with
  | false =>
    have Hs := Lib.hid hs
    have Hz : Hid (∀ x, nrmZ p n m k qs x = 0) := Lib.hid (fun x => by simp [nrmZ, hs])
    have Hq : Hid (eachQs N p n m k qs = [] ∧ nrmCode p n m k qs = 1) := Lib.hid (by simp [eachQs, nrmCode, hs])
    clear hs hN
    go_enter Try.func18, Try.ntmps18
    go_wp2_with (first | (refine wpList_abs3 ?_; intro W hsz hB h0 h4 h6) | (refine wpList_load_all rfl 28 _ rfl w.heap.size rfl _ _ _ h0 Try.underlying28 rfl 5 (by kernel_rfl) rfl ?_))
    refine (HI.out _ (hr.keep hB)).mono ?_
    rintro e w1 ⟨rfl, b1⟩
    rw [Hs.out]
    replace h6 := h6.after b1
    replace hB := below_after hB b1
    clear b1 hsz h0 h4
    go_wp2_with (refine wpList_store_all rfl 28 _ _ rfl rfl (w.heap.size + 1 + 1) rfl _ rfl _ _ h6 5 (by kernel_rfl) rfl rfl (by simp [Value.oneCell']) ?_; intro W2 p2)
    refine bodyPost_ret (results_at2 rfl _ _ (w.heap.size + 1 + 1) _ _ _ rfl _ rfl p2.at_ Try.underlying28 rfl 5 (by kernel_rfl) rfl) rfl ?_
    exact ⟨.slice none 0 0, by rw [Hz.out, Hz.out, Hz.out, Hz.out, Hq.out.2]; rfl, by rw [Hq.out.1]; exact Own.nil _ _, p2.below hB (by omega)⟩
  | true =>
    have Hs := Lib.hid hs
    have h30 := schemeB_len hs
    have HN := Lib.hid (hN hs)
    have HNb := Lib.hid hNb
    have Hz : Hid (∀ x, nrmZ p n m k qs x = x) := Lib.hid (fun x => by simp [nrmZ, hs])
    have Hq : Hid (eachQs N p n m k qs = qs.map N ∧ nrmCode p n m k qs = 0) := Lib.hid (by simp [eachQs, nrmCode, hs])
    clear hs hN hNb
    go_enter Try.func18, Try.ntmps18
    go_wp2_with (first | (refine wpList_abs3 ?_; intro W hsz hB h0 h4 h6) | (refine wpList_load_all rfl 28 _ rfl w.heap.size rfl _ _ _ h0 Try.underlying28 rfl 5 (by kernel_rfl) rfl ?_))
    refine (HI.out _ (hr.keep hB)).mono ?_
    rintro e w1 ⟨rfl, b1⟩
    rw [Hs.out]
    have z1 : w.heap.size + 1 + 1 + 1 ≤ w1.heap.size := size_after (Nat.le_of_eq hsz.symm) b1
    replace h0 := h0.after b1
    replace h4 := h4.after b1
    replace h6 := h6.after b1
    replace hB := below_after hB b1
    clear b1 hsz
    have k4 : w1.cell? ⟨w.heap.size, 4, none⟩ = some (.slice (some ⟨g, 0, none⟩) qs.length cap) := h0.at_ 4
    go_wp2_with fail
    refine (clone_c g cap qs _ (hr.keep hB) (by omega)).mono ?_
    rintro e w2 ⟨v1, rfl, ho, b2⟩
    replace h0 := h0.after b2
    replace h4 := h4.after b2
    replace h6 := h6.after b2
    replace hB := below_after hB b2
    replace ho := ho.mono z1
    obtain ⟨A1, c1, rfl, _⟩ := ho.rd hr.good
    clear b2 k4 z1
    go_wp2_with fail
    go_loopw [20] (fun i wr => ∃ j : Nat, j ≤ qs.length ∧ i = .int .i64 j ∧ EachRel w p n m k a b c g cap A1 c1 N qs j wr) (fun i _ => qs.length - (intOf i).toNat)
    case atStart => exact ⟨0, by omega, rfl, hB, h0, h4, h6, by simpa [mixQ] using ho⟩
    case round =>
      clear hB h0 h4 h6 ho
      obtain ⟨j, hj, rfl, hB, h0, h4, h6, ho⟩ := hrel
      by_cases hlt : j < qs.length
      · have e0 : IntKind.i64.wrap ((j : Int) + 1) = (j : Int) + 1 := IntWalk.i64_in _ (by omega)
        have hml := mixQ_len N qs hj
        have hmb := mixQ_bytes' HNb.out hr.good j
        obtain ⟨gc, rfl, hgc⟩ := ho.blk (by omega)
        have hjm : j < (mixQ N qs j).length := by omega
        have hcj := Rd.cells27 (ho.rd' hmb) hjm
        rw [mixQ_get N hlt] at hcj
        have Hcj : Hid (∀ j', j' < 27 → wr.cell? ⟨gc, j * 27 + j', none⟩ = some (.int .u8 ((qs[j][j']?.getD 0 : Nat) : Int))) := Lib.hid (fun j' h => by have := hcj j' h; rwa [Nat.zero_add] at this)
        clear hcj
        have hqj := hr.good _ (List.getElem_mem hlt)
        have HNj := Lib.hid (HN.out _ (List.getElem_mem hlt))
        have hnj := HNb.out _ hqj
        have HS := Lib.hid (mixQ_set N hlt)
        have Hml : Hid (∀ q ∈ mixQ N qs j, q.length = 27) := Lib.hid (fun q h => (hmb q h).len)
        have naw := ho.away_new
        have lB := hB.size
        have l6 := h6.lt
        generalize mixQ N qs j = M at *
        generalize qs[j] = qj at *
        clear hmb hml
        go_wp2_with (first | (refine wpList_load_cells rfl 40 _ rfl gc (j * 27) rfl qj _ 27 Hcj.out Try.underlying40 rfl (by kernel_rfl) hqj.len ?_) | (refine wpList_abs1 ?_; intro W2 hsz2 hB2 s2; replace s2 : At W2 wr.heap.size (.cells (u8s (List.replicate 27 0)) 40 (0, 0)) := s2; replace h0 := h0.after hB2; replace h4 := h4.after hB2; replace h6 := h6.after hB2; replace hB := below_after hB hB2; replace ho := ho.below hB2) | (refine wpList_store_u8s rfl 40 _ _ rfl rfl wr.heap.size 0 rfl _ rfl _ _ s2 27 (by kernel_rfl) hqj.len (by simp) ?_; intro W3 p3; replace h0 := p3.other h0 (by omega); replace h4 := p3.other h4 (by omega); replace h6 := p3.other h6 (by omega); replace hB := p3.below hB (by omega); replace ho := ho.put p3 naw; have s3 := p3.at_; rw [over_all (by rw [hqj.len]; simp)] at s3) | (refine wpList_load_all rfl 40 _ rfl wr.heap.size rfl _ _ _ s3 Try.underlying40 rfl 27 (by kernel_rfl) ((u8s_size _).trans hqj.len) ?_) | (refine wpList_load_all rfl 28 _ rfl w.heap.size rfl _ _ _ h0 Try.underlying28 rfl 5 (by kernel_rfl) rfl ?_))
        refine (HNj.out _).mono ?_
        rintro e w4 ⟨rfl, b4⟩
        replace h0 := h0.after b4
        replace h4 := h4.after b4
        replace h6 := h6.after b4
        replace hB := below_after hB b4
        replace ho := ho.below b4
        clear b4 p3 hsz2 hB2 s2 s3
        go_wp2_with (refine wpList_store_own rfl 40 _ _ rfl rfl gc j rfl (N qj) rfl ho Hml.out (by kernel_rfl) hjm hnj.len ?_; intro W5 ho5 P5 _; rw [HS.out] at ho5)
        go_roundw
        case rel => exact ⟨j + 1, by omega, by go_num, P5.below hB (by omega), P5.other h0 (by omega), P5.other h4 (by omega), P5.other h6 (by omega), ho5⟩
        case measure => simp [intOf]; omega
      · obtain rfl : j = qs.length := by omega
        have e : mixQ N qs qs.length = qs.map N := by simp [mixQ]
        rw [e] at ho
        have k0 : wr.cell? ⟨w.heap.size, 0, none⟩ = some (.int .i64 p) := h0.at_ 0
        go_wp2_with (refine wpList_load_all rfl 45 _ rfl (w.heap.size + 1) rfl _ _ _ h4 Try.underlying45 rfl 3 (by kernel_rfl) rfl ?_)
        refine (schemeFor_c p a b c A1 qs.length c1 _).mono ?_
        rintro e w5 ⟨rfl, b5⟩
        replace ho := ho.below b5
        replace h6 := h6.after b5
        replace hB := below_after hB b5
        have n6 := ho.off h6 (by decide)
        clear b5 k0 h0 h4
        go_wp2_with (refine wpList_store_all rfl 28 _ _ rfl rfl (w.heap.size + 1 + 1) rfl _ rfl _ _ h6 5 (by kernel_rfl) rfl rfl (one5 _ _ _ _ _ _ _) ?_; intro W6 p6)
        refine bodyPost_ret (results_at2 rfl _ _ (w.heap.size + 1 + 1) _ _ _ rfl _ rfl p6.at_ Try.underlying28 rfl 5 (by kernel_rfl) rfl) rfl ?_
        exact ⟨_, by rw [Hz.out, Hz.out, Hz.out, Hz.out, Hq.out.2]; rfl, by rw [Hq.out.1]; exact (ho.put p6 n6).mono (by omega), p6.below hB (by omega)⟩
set_option maxHeartbeats 3200000 in
theorem withEachTransposed_c (p n m k a b c : Int) (N : List Nat → List Nat) (g cap : Nat) (qs : List (List Nat)) (w : World) (hr : Rd w (some ⟨g, 0, none⟩) qs) (hlen : qs.length ≤ 1048576) (hNb : ∀ q, Bytes 27 q → Bytes 27 (N q))
    (hN : schemeB p n m k qs = true → ∀ q ∈ qs, ∀ w, Calls Try.prog 23 #[.agg #[.int .i64 p, .int .i64 n, .int .i64 m, .int .i64 k, .slice (some ⟨g, 0, none⟩) qs.length cap], .agg (u8s q)] w fun e w' => e = .returned (.agg (u8s (N q))) ∧ Below w.heap.size w w') :
    Calls Try.prog 18 #[.agg #[.int .i64 p, .int .i64 n, .int .i64 m, .int .i64 k, .slice (some ⟨g, 0, none⟩) qs.length cap], .agg #[.int .i64 a, .int .i64 b, .int .i64 c], .func (.func 23) #[] #[]] w
      (ResS w (nrmZ p n m k qs p) (nrmZ p n m k qs a) (nrmZ p n m k qs b) (nrmZ p n m k qs c) (eachQs N p n m k qs) (nrmCode p n m k qs)) := by
  have HI := Lib.hid (fun w hr => implIsScheme_c p n m k (some ⟨g, 0, none⟩) cap qs w hr hlen)
  cases hs : schemeB p n m k qs with
  | false =>
    have Hs := Lib.hid hs
    have Hz : Hid (∀ x, nrmZ p n m k qs x = 0) := Lib.hid (fun x => by simp [nrmZ, hs])
    have Hq : Hid (eachQs N p n m k qs = [] ∧ nrmCode p n m k qs = 1) := Lib.hid (by simp [eachQs, nrmCode, hs])
    clear hs hN
    go_enter Try.func18, Try.ntmps18
    go_wp2_with (first | (refine wpList_abs3 ?_; intro W hsz hB h0 h4 h6) | (refine wpList_load_all rfl 28 _ rfl w.heap.size rfl _ _ _ h0 Try.underlying28 rfl 5 (by kernel_rfl) rfl ?_))
    refine (HI.out _ (hr.keep hB)).mono ?_
    rintro e w1 ⟨rfl, b1⟩
    rw [Hs.out]
    replace h6 := h6.after b1
    replace hB := below_after hB b1
    clear b1 hsz h0 h4
    go_wp2_with (refine wpList_store_all rfl 28 _ _ rfl rfl (w.heap.size + 1 + 1) rfl _ rfl _ _ h6 5 (by kernel_rfl) rfl rfl (by simp [Value.oneCell']) ?_; intro W2 p2)
    refine bodyPost_ret (results_at2 rfl _ _ (w.heap.size + 1 + 1) _ _ _ rfl _ rfl p2.at_ Try.underlying28 rfl 5 (by kernel_rfl) rfl) rfl ?_
    exact ⟨.slice none 0 0, by rw [Hz.out, Hz.out, Hz.out, Hz.out, Hq.out.2]; rfl, by rw [Hq.out.1]; exact Own.nil _ _, p2.below hB (by omega)⟩
  | true =>
    have Hs := Lib.hid hs
    have h30 := schemeB_len hs
    have HN := Lib.hid (hN hs)
    have HNb := Lib.hid hNb
    have Hz : Hid (∀ x, nrmZ p n m k qs x = x) := Lib.hid (fun x => by simp [nrmZ, hs])
    have Hq : Hid (eachQs N p n m k qs = qs.map N ∧ nrmCode p n m k qs = 0) := Lib.hid (by simp [eachQs, nrmCode, hs])
    clear hs hN hNb
    go_enter Try.func18, Try.ntmps18
    go_wp2_with (first | (refine wpList_abs3 ?_; intro W hsz hB h0 h4 h6) | (refine wpList_load_all rfl 28 _ rfl w.heap.size rfl _ _ _ h0 Try.underlying28 rfl 5 (by kernel_rfl) rfl ?_))
    refine (HI.out _ (hr.keep hB)).mono ?_
    rintro e w1 ⟨rfl, b1⟩
    rw [Hs.out]
    have z1 : w.heap.size + 1 + 1 + 1 ≤ w1.heap.size := size_after (Nat.le_of_eq hsz.symm) b1
    replace h0 := h0.after b1
    replace h4 := h4.after b1
    replace h6 := h6.after b1
    replace hB := below_after hB b1
    clear b1 hsz
    have k4 : w1.cell? ⟨w.heap.size, 4, none⟩ = some (.slice (some ⟨g, 0, none⟩) qs.length cap) := h0.at_ 4
    go_wp2_with fail
    refine (clone_c g cap qs _ (hr.keep hB) (by omega)).mono ?_
    rintro e w2 ⟨v1, rfl, ho, b2⟩
    replace h0 := h0.after b2
    replace h4 := h4.after b2
    replace h6 := h6.after b2
    replace hB := below_after hB b2
    replace ho := ho.mono z1
    obtain ⟨A1, c1, rfl, _⟩ := ho.rd hr.good
    clear b2 k4 z1
    go_wp2_with fail
    go_loopw [20] (fun i wr => ∃ j : Nat, j ≤ qs.length ∧ i = .int .i64 j ∧ EachRel w p n m k a b c g cap A1 c1 N qs j wr) (fun i _ => qs.length - (intOf i).toNat)
    case atStart => exact ⟨0, by omega, rfl, hB, h0, h4, h6, by simpa [mixQ] using ho⟩
    case round =>
      clear hB h0 h4 h6 ho
      obtain ⟨j, hj, rfl, hB, h0, h4, h6, ho⟩ := hrel
      by_cases hlt : j < qs.length
      · have e0 : IntKind.i64.wrap ((j : Int) + 1) = (j : Int) + 1 := IntWalk.i64_in _ (by omega)
        have hml := mixQ_len N qs hj
        have hmb := mixQ_bytes' HNb.out hr.good j
        obtain ⟨gc, rfl, hgc⟩ := ho.blk (by omega)
        have hjm : j < (mixQ N qs j).length := by omega
        have hcj := Rd.cells27 (ho.rd' hmb) hjm
        rw [mixQ_get N hlt] at hcj
        have Hcj : Hid (∀ j', j' < 27 → wr.cell? ⟨gc, j * 27 + j', none⟩ = some (.int .u8 ((qs[j][j']?.getD 0 : Nat) : Int))) := Lib.hid (fun j' h => by have := hcj j' h; rwa [Nat.zero_add] at this)
        clear hcj
        have hqj := hr.good _ (List.getElem_mem hlt)
        have HNj := Lib.hid (HN.out _ (List.getElem_mem hlt))
        have hnj := HNb.out _ hqj
        have HS := Lib.hid (mixQ_set N hlt)
        have Hml : Hid (∀ q ∈ mixQ N qs j, q.length = 27) := Lib.hid (fun q h => (hmb q h).len)
        have naw := ho.away_new
        have lB := hB.size
        have l6 := h6.lt
        generalize mixQ N qs j = M at *
        generalize qs[j] = qj at *
        clear hmb hml
        go_wp2_with (first | (refine wpList_load_cells rfl 40 _ rfl gc (j * 27) rfl qj _ 27 Hcj.out Try.underlying40 rfl (by kernel_rfl) hqj.len ?_) | (refine wpList_abs1 ?_; intro W2 hsz2 hB2 s2; replace s2 : At W2 wr.heap.size (.cells (u8s (List.replicate 27 0)) 40 (0, 0)) := s2; replace h0 := h0.after hB2; replace h4 := h4.after hB2; replace h6 := h6.after hB2; replace hB := below_after hB hB2; replace ho := ho.below hB2) | (refine wpList_store_u8s rfl 40 _ _ rfl rfl wr.heap.size 0 rfl _ rfl _ _ s2 27 (by kernel_rfl) hqj.len (by simp) ?_; intro W3 p3; replace h0 := p3.other h0 (by omega); replace h4 := p3.other h4 (by omega); replace h6 := p3.other h6 (by omega); replace hB := p3.below hB (by omega); replace ho := ho.put p3 naw; have s3 := p3.at_; rw [over_all (by rw [hqj.len]; simp)] at s3) | (refine wpList_load_all rfl 40 _ rfl wr.heap.size rfl _ _ _ s3 Try.underlying40 rfl 27 (by kernel_rfl) ((u8s_size _).trans hqj.len) ?_) | (refine wpList_load_all rfl 28 _ rfl w.heap.size rfl _ _ _ h0 Try.underlying28 rfl 5 (by kernel_rfl) rfl ?_))
        refine (HNj.out _).mono ?_
        rintro e w4 ⟨rfl, b4⟩
        replace h0 := h0.after b4
        replace h4 := h4.after b4
        replace h6 := h6.after b4
        replace hB := below_after hB b4
        replace ho := ho.below b4
        clear b4 p3 hsz2 hB2 s2 s3
        go_wp2_with (refine wpList_store_own rfl 40 _ _ rfl rfl gc j rfl (N qj) rfl ho Hml.out (by kernel_rfl) hjm hnj.len ?_; intro W5 ho5 P5 _; rw [HS.out] at ho5)
        go_roundw
        case rel => exact ⟨j + 1, by omega, by go_num, P5.below hB (by omega), P5.other h0 (by omega), P5.other h4 (by omega), P5.other h6 (by omega), ho5⟩
        case measure => simp [intOf]; omega
      · obtain rfl : j = qs.length := by omega
        have e : mixQ N qs qs.length = qs.map N := by simp [mixQ]
        rw [e] at ho
        have k0 : wr.cell? ⟨w.heap.size, 0, none⟩ = some (.int .i64 p) := h0.at_ 0
        go_wp2_with (refine wpList_load_all rfl 45 _ rfl (w.heap.size + 1) rfl _ _ _ h4 Try.underlying45 rfl 3 (by kernel_rfl) rfl ?_)
        refine (schemeFor_c p a b c A1 qs.length c1 _).mono ?_
        rintro e w5 ⟨rfl, b5⟩
        replace ho := ho.below b5
        replace h6 := h6.after b5
        replace hB := below_after hB b5
        have n6 := ho.off h6 (by decide)
        clear b5 k0 h0 h4
        go_wp2_with (refine wpList_store_all rfl 28 _ _ rfl rfl (w.heap.size + 1 + 1) rfl _ rfl _ _ h6 5 (by kernel_rfl) rfl rfl (one5 _ _ _ _ _ _ _) ?_; intro W6 p6)
        refine bodyPost_ret (results_at2 rfl _ _ (w.heap.size + 1 + 1) _ _ _ rfl _ rfl p6.at_ Try.underlying28 rfl 5 (by kernel_rfl) rfl) rfl ?_
        exact ⟨_, by rw [Hz.out, Hz.out, Hz.out, Hz.out, Hq.out.2]; rfl, by rw [Hq.out.1]; exact (ho.put p6 n6).mono (by omega), p6.below hB (by omega)⟩
end Go.Proofs.Ytolbkaojhkgidaa
