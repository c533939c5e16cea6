/-
  slices.Grow of nil, slices.Concat, at []impl.Product; impl.withProducts.
-/
import Derived.Test.YtppenoincihoeaaLK1
import Derived.Test.YtppenoincihoeaaHeld
import Derived.Lib.AppendZeros
import Derived.Laws.AppendOwnNone
namespace Go.Proofs.Ytppenoincihoeaa
open Go.RowKit
set_option maxRecDepth 100000
set_option maxHeartbeats 800000 in
theorem growNil_c (n : Nat) (hn : n ≤ 1000000) (w : World) :
    Calls Try.prog 91 #[.slice none 0 0, .int .i64 n] w fun e w' => ∃ v, e = .returned v ∧ Own w' w.heap.size v [] ∧ Below w.heap.size w w' := by
  rcases Nat.eq_zero_or_pos n with h0 | hpos
  · subst h0
    go_enter Try.func91, Try.ntmps91
    go_wp2_with fail
    go_ret
    exact ⟨_, rfl, Own.nil _ _, Below.refl _ _⟩
  · obtain ⟨i0, hi, hz0, hz1, hz2⟩ := info_parts infoProd
    have happ := Lib.run_append_nil_zeros (P := Try.prog) w 26 3 26 52 i0 (.agg (u8s (List.replicate 27 0))) .i64 .i64 Try.underlying26 Try.underlying3 hi hz0 n hpos (by rw [hz1]; omega) (by omega) (by rw [hz2]; omega)
    generalize hcap : grownCap w n 0 52 = cap2 at happ
    have hcapge : n ≤ cap2 := by rw [← hcap]; exact grownCap_ge w _ 0 52
    have hcaple : cap2 ≤ maxLen := by rw [← hcap]; exact grownCap_le_maxLen w _ 0 52 (by unfold maxLen; omega)
    generalize hZ : (Builtin.zeroCells (Value.agg (u8s (List.replicate 27 0))).cells n ++ Builtin.zeroCells (Value.agg (u8s (List.replicate 27 0))).cells (cap2 - n)) = Z at happ
    have hZs : Z.size = cap2 * 27 := by
      rw [← hZ]
      simp only [Array.size_append, size_zeroCells, Value.cells, u8s_size, List.length_replicate]
      rw [← Nat.add_mul]
      congr 1
      omega
    have Happ := Lib.hid happ
    have HZs := Lib.hid hZs
    have Hcl := Lib.hid hcaple
    have hc1 : (n : Int) ≤ (cap2 : Int) := by omega
    have hcm : (cap2 : Int) ≤ 9223372036854775807 := by unfold maxLen at hcaple; omega
    clear happ hcap hZ hZs hcaple
    go_enter Try.func91, Try.ntmps91
    go_wp2_with (at_builtin; refine Lib.wpList_append_run _ rfl _ _ _ _ rfl _ _ rfl rfl _ _ Happ.out ?_)
    go_ret
    refine ⟨_, rfl, ⟨by simp [u8s], .inr ⟨w.heap.size, cap2, Z, rfl, Nat.le_refl _, ?_, by simp, Hcl.out, HZs.out, by simp [u8s]⟩⟩, ?_⟩
    · exact al1_0 _ _
    · exact (below1 _ _).drew
/-- A part: the slice's address, its capacity, its products. -/
abbrev Part := Option Addr × Nat × List (List Nat)
def Part.len (P : Part) : Nat := P.2.2.length
def PartOk (w : World) (P : Part) : Prop := Rd w P.1 P.2.2 ∧ (P.1 = none → P.2.1 = 0)
theorem PartOk.after {w w' : World} {P : Part} (h : PartOk w P) (hb : Below w.heap.size w w') : PartOk w' P := ⟨h.1.keep hb, h.2⟩
/-- The slice value over 'A' holds these parts. -/
def RdS (w : World) (A : Option Addr) (ps : List Part) : Prop :=
  ps = [] ∨ ∃ b off, A = some ⟨b, off, none⟩ ∧ ∀ (i : Nat) (P : Part), ps[i]? = some P → w.cell? ⟨b, off + i, none⟩ = some (.slice P.1 P.2.2.length P.2.1)
theorem RdS.at_ {w : World} {A : Option Addr} {ps : List Part} (h : RdS w A ps) {i : Nat} (hi : i < ps.length) : ∃ b off, A = some ⟨b, off, none⟩ ∧ w.cell? ⟨b, off + i, none⟩ = some (.slice ps[i].1 ps[i].2.2.length ps[i].2.1) := by
  rcases h with rfl | ⟨b, off, hA, hc⟩
  · simp at hi
  · exact ⟨b, off, hA, hc i ps[i] (List.getElem?_eq_getElem hi)⟩
theorem RdS.keep {w w' : World} {A : Option Addr} {ps : List Part} (h : RdS w A ps) (hb : Below w.heap.size w w') : RdS w' A ps := by
  rcases h with h0 | ⟨b, off, hA, hc⟩
  · exact .inl h0
  · refine .inr ⟨b, off, hA, fun i x hi => ?_⟩
    have := hc i x hi
    rw [hb.cell (p := ⟨b, off + i, none⟩) (block_lt_of_cell this)]
    exact this
def sumP (ps : List Part) (k : Nat) : Nat := ((ps.take k).map Part.len).sum
def catP (ps : List Part) (k : Nat) : List (List Nat) := (ps.take k).flatMap (fun P => P.2.2)
theorem sumP_step {ps : List Part} {k : Nat} (h : k < ps.length) : sumP ps (k + 1) = sumP ps k + ps[k].2.2.length := by
  unfold sumP
  rw [List.take_succ_eq_append_getElem h, List.map_append, List.sum_append]
  simp only [List.map_cons, List.map_nil, List.sum_cons, List.sum_nil, Nat.add_zero]
  rfl
theorem catP_step {ps : List Part} {k : Nat} (h : k < ps.length) : catP ps (k + 1) = catP ps k ++ ps[k].2.2 := by
  unfold catP
  rw [List.take_succ_eq_append_getElem h, List.flatMap_append]
  simp only [List.flatMap_cons, List.flatMap_nil, List.append_nil]
theorem catP_len (ps : List Part) (k : Nat) : (catP ps k).length = sumP ps k := by
  simp [catP, sumP, List.length_flatMap]
  rfl
theorem sumP_le (ps : List Part) (k : Nat) : sumP ps k ≤ sumP ps ps.length := by
  unfold sumP
  rw [List.take_length]
  have h := congrArg (fun l => (l.map Part.len).sum) (List.take_append_drop k ps)
  simp only [List.map_append, List.sum_append] at h
  omega
theorem u8s_append (qs rs : List (List Nat)) : (u8s (qs ++ rs).flatten).toList = (u8s qs.flatten).toList ++ (u8s rs.flatten).toList := by simp [u8s]
theorem Own.append {w : World} {lo : Nat} {v : Value} {qs rs : List (List Nat)} (ow : w.ownsRow lo 52 27 v (qs.length + rs.length) ((u8s qs.flatten).toList ++ (u8s rs.flatten).toList)) : Own w lo v (qs ++ rs) := by
  unfold Own
  rw [u8s_append, List.length_append]
  exact ow
/-- The cells of a list of products that is read. -/
theorem Rd.cells {w : World} {b off : Nat} {qs : List (List Nat)} (h : Rd w (some ⟨b, off, none⟩) qs) : ∀ j u, (u8s qs.flatten).toList[j]? = some u → w.cell? ((⟨b, off, none⟩ : Addr).add j) = some u := by
  intro j u hu
  have hl : ∀ q ∈ qs, q.length = 27 := h.len
  have hj : j < qs.flatten.length := by have := (List.getElem?_eq_some_iff.1 hu).1; rwa [Array.length_toList, u8s_size] at this
  rw [flat_len hl] at hj
  rcases h.2 with rfl | ⟨b', off', e, hc⟩
  · simp at hj
  · simp only [Option.some.injEq, Addr.mk.injEq] at e
    obtain ⟨rfl, rfl, _⟩ := e
    have hi : j / 27 < qs.length := Nat.div_lt_of_lt_mul (by omega)
    have hm : j % 27 < 27 := Nat.mod_lt _ (by omega)
    have hc2 := hc (j / 27) qs[j / 27] (List.getElem?_eq_getElem hi) (j % 27) hm
    have e1 : off + j / 27 * 27 + j % 27 = off + j := by have := Nat.div_add_mod j 27; omega
    rw [e1] at hc2
    rw [add_none, hc2]
    have hf := flat_get hl (List.getElem?_eq_getElem hi) hm
    have e2 : j / 27 * 27 + j % 27 = j := by have := Nat.div_add_mod j 27; omega
    rw [e2] at hf
    rw [Array.getElem?_toList, u8s_get (by rw [flat_len hl]; exact hj), hf] at hu
    exact hu
set_option maxHeartbeats 1600000 in
theorem concat_c (A : Option Addr) (c : Nat) (ps : List Part) (w : World) (hr : RdS w A ps) (hp : ∀ P ∈ ps, PartOk w P) (hn : ps.length ≤ 1000) (ht : sumP ps ps.length ≤ 1000000) :
    Calls Try.prog 72 #[.slice A ps.length c] w fun e w' => ∃ v, e = .returned v ∧ Own w' w.heap.size v (catP ps ps.length) ∧ Below w.heap.size w w' := by
  go_enter Try.func72, Try.ntmps72
  go_wp2_with fail
  go_loop [3, 11] (fun s i => ∃ k : Nat, k ≤ ps.length ∧ i = .int .i64 k ∧ s = .int .i64 ((sumP ps k : Nat) : Int)) (fun _ i => ps.length - (intOf i).toNat)
  case atStart => exact ⟨0, by omega, rfl, rfl⟩
  case round =>
    obtain ⟨k, hk, rfl, rfl⟩ := hrel
    have hs := sumP_le ps k
    by_cases hlt : k < ps.length
    · obtain ⟨b, off, hA0, hc⟩ := hr.at_ hlt
      have hst := sumP_le ps (k + 1)
      have HS := Lib.hid (sumP_step hlt)
      have hle : sumP ps k + ps[k].2.2.length ≤ 1000000 := by rw [← HS.out]; omega
      have hneg : ¬ (sumP ps k : Int) + (ps[k].2.2.length : Int) < 0 := by omega
      subst hA0
      have hlt' : (k : Int) < (ps.length : Int) := by omega
      generalize ps[k] = P at *
      generalize sumP ps k = S at *
      go_wp2_with fail
      exact ⟨⟨k + 1, by omega, by go_num, by rw [HS.out]; go_num⟩, by simp [intOf]; omega⟩
    · obtain rfl : k = ps.length := by omega
      have HR := Lib.hid hr
      have HP := Lib.hid hp
      clear hr hp
      generalize hS : sumP ps ps.length = S at *
      have HSum := Lib.hid hS
      clear hS
      go_wp2_with fail
      refine (growNil_c S (by omega) _).mono ?_
      rintro e w1 ⟨v, rfl, ho, hB⟩
      go_wp2_with fail
      go_loopw [6, 27] (fun v i wr => ∃ k : Nat, k ≤ ps.length ∧ i = .int .i64 k ∧ Own wr w.heap.size v (catP ps k) ∧ Below w.heap.size w wr) (fun _ i _ => ps.length - (intOf i).toNat)
      case atStart => exact ⟨0, by omega, rfl, ho, hB⟩
      case round =>
        clear ho hB
        obtain ⟨k, hk, rfl, ho, hB⟩ := hrel
        by_cases hlt : k < ps.length
        · obtain ⟨b, off, hA0, hc⟩ := (HR.out.keep hB).at_ hlt
          have hlt' : (k : Int) < (ps.length : Int) := by omega
          have hok := (HP.out _ (List.getElem_mem hlt)).after hB
          have hs2 := sumP_le ps (k + 1)
          have HC := Lib.hid (catP_step hlt)
          have HS := Lib.hid (sumP_step hlt)
          have hle : (catP ps k).length + ps[k].2.2.length ≤ 1000000 := by rw [catP_len, ← HS.out]; have := HSum.out; omega
          subst hA0
          generalize ps[k] = P at *
          generalize catP ps k = C at *
          obtain ⟨A1, c1, rs⟩ := P
          obtain ⟨i0, hi, hz0, hz1, hz2⟩ := info_parts infoProd
          rcases A1 with _ | ad
          · obtain rfl : c1 = 0 := hok.2 rfl
            have hrs : rs = [] := by rcases hok.1.2 with h | ⟨b', off', e, _⟩; exact h; cases e
            subst hrs
            go_wp2_with (at_builtin; refine wpList_append_own_none rfl _ _ 26 rfl w.heap.size 52 i0 27 Try.underlying26 hi _ _ _ rfl ho rfl ?_)
            exact ⟨⟨k + 1, by omega, by go_num, by rw [HC.out]; simpa using ho, hB⟩, by simp [intOf]; omega⟩
          · obtain ⟨ab, aoff, asp⟩ := ad
            have hlen := hok.1.len
            rcases Nat.eq_zero_or_pos rs.length with h0 | hpos
            · have hrs : rs = [] := List.length_eq_zero_iff.1 h0
              subst hrs
              go_wp2_with (at_builtin; refine wpList_append_own _ rfl _ _ 26 rfl w.heap.size 52 i0 (.agg (u8s (List.replicate 27 0))) 27 27 Try.underlying26 hi hz0 hz1 hz2 rfl (by decide) _ _ _ rfl ho ⟨ab, aoff, asp⟩ 0 c1 [] rfl (by simp) (by simp) (by simp) (by unfold maxLen; simp at hle ⊢; omega) (by simp at hle ⊢; omega) (by exact hB.size) ?_; intro v1 w8 own8 gr8 nil8)
              exact ⟨⟨k + 1, by omega, by go_num, by rw [HC.out]; exact Own.append (rs := []) (by simpa [u8s] using own8), below_grown hB gr8 ho (Nat.le_refl _)⟩, by simp [intOf]; omega⟩
            · have hsp : asp = none := by
                rcases hok.1.2 with h | ⟨b', off', e, _⟩
                · simp only at h; subst h; simp at hpos
                · simp only [Option.some.injEq, Addr.mk.injEq] at e; exact e.2.2
              subst hsp
              have hcells := Rd.cells hok.1
              go_wp2_with (at_builtin; refine wpList_append_own _ rfl _ _ 26 rfl w.heap.size 52 i0 (.agg (u8s (List.replicate 27 0))) 27 27 Try.underlying26 hi hz0 hz1 hz2 rfl (by decide) _ _ _ rfl ho ⟨ab, aoff, none⟩ rs.length c1 (u8s rs.flatten).toList rfl (by rw [Array.length_toList, u8s_size, flat_len hlen]) hcells (u8s_one _) (by unfold maxLen; simp at hle ⊢; omega) (by simp at hle ⊢; omega) (by exact hB.size) ?_; intro v1 w8 own8 gr8 nil8)
              exact ⟨⟨k + 1, by omega, by go_num, by rw [HC.out]; exact Own.append own8, below_grown hB gr8 ho (Nat.le_refl _)⟩, by simp [intOf]; omega⟩
        · obtain rfl : k = ps.length := by omega
          go_wp2_with fail
          go_ret
          exact ⟨_, rfl, ho, hB⟩
end Go.Proofs.Ytppenoincihoeaa
