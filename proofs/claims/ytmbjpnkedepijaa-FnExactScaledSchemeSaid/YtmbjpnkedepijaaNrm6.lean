/-
  impl.normalProducts, schemeFor, NormalProducts; spec.NormalProducts.
-/
import Derived.Test.YtmbjpnkedepijaaOwnSet
import Derived.Test.YtmbjpnkedepijaaNrm3
import Derived.Test.YtmbjpnkedepijaaNrm5
namespace Go.Proofs.Ytmbjpnkedepijaa
open Go.RowKit
set_option maxRecDepth 100000
def mixQ (N : List Nat → List Nat) (qs : List (List Nat)) (j : Nat) : List (List Nat) := (qs.take j).map N ++ qs.drop j
theorem mixQ_len (N : List Nat → List Nat) (qs : List (List Nat)) {j : Nat} (hj : j ≤ qs.length) : (mixQ N qs j).length = qs.length := by simp [mixQ]; omega
theorem mixQ_get (N : List Nat → List Nat) {qs : List (List Nat)} {j : Nat} (hj : j < qs.length) : (mixQ N qs j)[j]'(by rw [mixQ_len N qs (by omega)]; exact hj) = qs[j] := by
  have h1 : ((qs.take j).map N).length = j := by simp; omega
  simp only [mixQ]
  rw [List.getElem_append_right (by omega)]
  simp [Nat.min_eq_left (Nat.le_of_lt hj)]
theorem mixQ_set (N : List Nat → List Nat) {qs : List (List Nat)} {j : Nat} (hj : j < qs.length) : (mixQ N qs j).set j (N qs[j]) = mixQ N qs (j + 1) := by
  have h1 : ((qs.take j).map N).length = j := by simp; omega
  unfold mixQ
  rw [List.set_append_right _ _ (by omega), h1, Nat.sub_self, List.drop_eq_getElem_cons hj, List.set_cons_zero, List.take_succ_eq_append_getElem hj, List.map_append, List.append_assoc]
  rfl
theorem mixQ_bytes {N : List Nat → List Nat} {qs : List (List Nat)} (hN : ∀ q, Bytes 27 (N q)) (hq : ∀ q ∈ qs, Bytes 27 q) (j : Nat) : ∀ q ∈ mixQ N qs j, Bytes 27 q := by
  intro q hm
  simp only [mixQ, List.mem_append, List.mem_map] at hm
  rcases hm with ⟨r, _, rfl⟩ | hm
  · exact hN r
  · exact hq q (List.mem_of_mem_drop hm)
theorem Own.lenV {w : World} {lo c n : Nat} {A : Option Addr} {qs : List (List Nat)} (h : Own w lo (.slice A n c) qs) : n = qs.length := h.len
set_option maxHeartbeats 3200000 in
theorem normalProducts_c (p n m k : Int) (g cap : Nat) (qs : List (List Nat)) (w : World) (hr : Rd w (some ⟨g, 0, none⟩) qs) (hlen : qs.length ≤ 1000) (hp : primeB p = true) (hL : ∀ q ∈ qs, LeadOk p q) :
    Calls Try.prog 29 #[.agg #[.int .i64 p, .int .i64 n, .int .i64 m, .int .i64 k, .slice (some ⟨g, 0, none⟩) qs.length cap]] w
      fun e w' => ∃ v, e = .returned v ∧ Own w' w.heap.size v (qs.map (normQ p)) ∧ Below w.heap.size w w' := by
  have HL := Lib.hid hL
  have HNb := Lib.hid (fun q => normQ_bytes (p := p) q hp)
  clear hL
  go_enter Try.func29, Try.ntmps29
  go_wp2_with fail
  refine (clone_c g cap qs _ (hr.keep (below1 _ _)) hlen).mono ?_
  rintro e w1 ⟨v1, rfl, ho, b1⟩
  have h0 : At w1 w.heap.size (.cells #[.int .i64 p, .int .i64 n, .int .i64 m, .int .i64 k, .slice (some ⟨g, 0, none⟩) qs.length cap] 28 (0, 0)) := At.after (al1_0 _ _) b1
  have hB := below_after (below1 w _) b1
  rw [size_al1] at ho
  obtain ⟨A1, c1, rfl, _⟩ := ho.rd hr.good
  clear b1
  go_wp2_with fail
  go_loopw [11] (fun i wr => ∃ j : Nat, j ≤ qs.length ∧ i = .int .i64 j ∧ Below w.heap.size w wr ∧ At wr w.heap.size (.cells #[.int .i64 p, .int .i64 n, .int .i64 m, .int .i64 k, .slice (some ⟨g, 0, none⟩) qs.length cap] 28 (0, 0)) ∧ Own wr (w.heap.size + 1) (.slice A1 qs.length c1) (mixQ (normQ p) qs j)) (fun i _ => qs.length - (intOf i).toNat)
  case atStart => exact ⟨0, by omega, rfl, hB, h0, by simpa [mixQ] using ho⟩
  case round =>
    clear hB h0 ho
    obtain ⟨j, hj, rfl, hB, h0, ho⟩ := hrel
    by_cases hlt : j < qs.length
    · have e0 : IntKind.i64.wrap ((j : Int) + 1) = (j : Int) + 1 := IntWalk.i64_in _ (by omega)
      have hml := mixQ_len (normQ p) qs hj
      have hmb := mixQ_bytes HNb.out hr.good j
      obtain ⟨gc, rfl, hgc⟩ := ho.blk (by omega)
      have hjm : j < (mixQ (normQ p) qs j).length := by omega
      have hcj := Rd.cells27 (ho.rd' hmb) hjm
      rw [mixQ_get (normQ p) hlt] at hcj
      have Hcj : Hid (∀ j', j' < 27 → wr.cell? ⟨gc, j * 27 + j', none⟩ = some (.int .u8 ((qs[j][j']?.getD 0 : Nat) : Int))) := Lib.hid (fun j' h => by have := hcj j' h; rwa [Nat.zero_add] at this)
      clear hcj
      have hqj := hr.good _ (List.getElem_mem hlt)
      have HN := Lib.hid (fun w => normalProduct_c p qs[j] hqj w hp (HL.out _ (List.getElem_mem hlt)))
      have hnj := HNb.out qs[j]
      have HS := Lib.hid (mixQ_set (normQ p) hlt)
      have Hml : Hid (∀ q ∈ mixQ (normQ p) qs j, q.length = 27) := Lib.hid (fun q h => (hmb q h).len)
      have naw := ho.away_new
      have lB := hB.size
      have l0 := h0.lt
      generalize mixQ (normQ p) qs j = M at *
      generalize qs[j] = qj at *
      clear hmb hml
      go_wp2_with (first | (refine wpList_load_cells rfl 45 _ rfl gc (j * 27) rfl qj _ 27 Hcj.out Try.underlying45 rfl (by kernel_rfl) hqj.len ?_) | (refine wpList_abs1 ?_; intro W2 hsz2 hB2 s2; replace s2 : At W2 wr.heap.size (.cells (u8s (List.replicate 27 0)) 45 (0, 0)) := s2; replace h0 := h0.after hB2; replace hB := below_after hB hB2; replace ho := ho.below hB2) | (refine wpList_store_u8s rfl 45 _ _ rfl rfl wr.heap.size 0 rfl _ rfl _ _ s2 27 (by kernel_rfl) hqj.len (by simp) ?_; intro W3 p3; replace h0 := p3.other h0 (by omega); replace hB := p3.below hB (by omega); replace ho := ho.put p3 naw; have s3 := p3.at_; rw [over_all (by rw [hqj.len]; simp)] at s3; have k0 : W3.cell? ⟨w.heap.size, 0, none⟩ = some (.int .i64 p) := h0.at_ 0) | (refine wpList_load_all rfl 45 _ rfl wr.heap.size rfl _ _ _ s3 Try.underlying45 rfl 27 (by kernel_rfl) ((u8s_size _).trans hqj.len) ?_))
      refine (HN.out _).mono ?_
      rintro e w4 ⟨rfl, b4⟩
      replace h0 := h0.after b4
      replace hB := below_after hB b4
      replace ho := ho.below b4
      clear b4 p3 hsz2 hB2 k0 s2 s3
      go_wp2_with (refine wpList_store_own rfl 45 _ _ rfl rfl gc j rfl (normQ p qj) rfl ho Hml.out (by kernel_rfl) hjm hnj.len ?_; intro W5 ho5 P5 _; rw [HS.out] at ho5)
      go_roundw
      case rel => exact ⟨j + 1, by omega, by go_num, P5.below hB (by omega), P5.other h0 (by omega), ho5⟩
      case measure => simp [intOf]; omega
    · obtain rfl : j = qs.length := by omega
      go_wp2_with fail
      go_ret
      refine ⟨_, rfl, ?_, hB⟩
      have e : mixQ (normQ p) qs qs.length = qs.map (normQ p) := by simp [mixQ]
      rw [e] at ho
      exact ho.mono (by omega)
theorem schemeFor_c (p n m k : Int) (A : Option Addr) (l c : Nat) (w : World) :
    Calls Try.prog 27 #[.int .i64 p, .agg #[.int .i64 n, .int .i64 m, .int .i64 k], .slice A l c] w fun e w' => e = .returned (.agg #[.int .i64 p, .int .i64 n, .int .i64 m, .int .i64 k, .slice A l c]) ∧ Below w.heap.size w w' := by
  go_enter Try.func27, Try.ntmps27
  go_wp2_with fail
  refine bodyPost_ret (results_at rfl _ _ (w.heap.size + 1) _ _ _ rfl (al2_1 _ _ _) Try.underlying28 rfl 5 (by kernel_rfl) rfl) rfl ?_
  exact ⟨rfl, below2 _ _ _⟩
def nrmCode (p n m k : Int) (qs : List (List Nat)) : Int := if schemeB p n m k qs then 0 else 1
def nrmZ (p n m k : Int) (qs : List (List Nat)) (x : Int) : Int := if schemeB p n m k qs then x else 0
def nrmQs (p n m k : Int) (qs : List (List Nat)) : List (List Nat) := if schemeB p n m k qs then qs.map (normQ p) else []
theorem nrmQs_len (p n m k : Int) (qs : List (List Nat)) : (nrmQs p n m k qs).length ≤ 30 := by
  unfold nrmQs
  split
  · rename_i h
    rw [List.length_map]
    exact schemeB_len h
  · simp
theorem nrmQs_bytes (p n m k : Int) (qs : List (List Nat)) : ∀ r ∈ nrmQs p n m k qs, Bytes 27 r := by
  unfold nrmQs
  split
  · rename_i h
    intro r hr
    obtain ⟨q, _, rfl⟩ := List.mem_map.1 hr
    exact normQ_bytes q (sizesB_parts (schemeB_sizes h)).1
  · simp
end Go.Proofs.Ytmbjpnkedepijaa
