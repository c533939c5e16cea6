/-
  spec.l03Flip; FlipProducts of both sides. (Made by mkfq.py.)
-/
import Derived.Test.YtppenoincihoeaaFp
import Derived.Test.YtppenoincihoeaaMv2
import Derived.Test.YtppenoincihoeaaTold
import Derived.Test.YtppenoincihoeaaHeldT
namespace Go.Proofs.Ytppenoincihoeaa
open Go.RowKit
set_option maxRecDepth 100000
attribute [local irreducible] wpList
theorem prime_two {p : Int} (hp : primeB p = true) : 2 ≤ p := by
  simp only [primeB, Bool.or_eq_true, beq_iff_eq] at hp
  omega
theorem flQ_bytes {p s : Int} {f : Nat} {Q R : List Nat} (hQ : Bytes 27 Q) (_ : Bytes 27 R) (hp : 2 ≤ p ∧ p ≤ 5) : Bytes 27 (flQ p s f Q R) :=
  withQ_bytes hQ (adF_bytes _ _ _ (by omega) (by omega)) (Nat.mod_lt _ (by omega))
theorem flR_bytes {p s : Int} {f : Nat} {Q R : List Nat} (_ : Bytes 27 Q) (hR : Bytes 27 R) (hp : 2 ≤ p ∧ p ≤ 5) : Bytes 27 (flR p s f Q R) :=
  withQ_bytes hR (adF_bytes _ _ _ (by omega) (by omega)) (Nat.mod_lt _ (by omega))
theorem flL_ok {p s : Int} {qs : List (List Nat)} {i j f : Nat} {Q R : List Nat} (h : ∀ q ∈ qs, Bytes 27 q) (hQ : Bytes 27 Q) (hR : Bytes 27 R) (hp : 2 ≤ p ∧ p ≤ 5) : (∀ q ∈ flL p s qs i j f Q R, Bytes 27 q) ∧ (flL p s qs i j f Q R).length ≤ qs.length := by
  refine ⟨fun q hq => ?_, ?_⟩
  · exact set_bytes27 (set_bytes27 h (flQ_bytes hQ hR hp)) (flR_bytes hQ hR hp) q (List.mem_filter.1 hq).1
  · refine Nat.le_trans (List.length_filter_le _ _) ?_
    rw [List.length_set, List.length_set]
    exact Nat.le_refl _
theorem fl_specS {p s : Int} {f : Nat} {Q R : List Nat} (hQ : Bytes 27 Q) (hp : 2 ≤ p ∧ p ≤ 5) (hf : f < 3) : flR p s f Q R = withQ R ((f + 2) % 3) (adF p (-s) (facQ R ((f + 2) % 3)) (facQ Q ((f + 2) % 3))) := by
  unfold flR
  rw [show p - s = -s + p by omega, adF_shift]
  have e : facQ (flQ p s f Q R) ((f + 2) % 3) = facQ Q ((f + 2) % 3) := by
    have hb := adF_bytes (p := p) s (facQ Q ((f + 1) % 3)) (facQ R ((f + 1) % 3)) (by omega) (by omega)
    unfold flQ
    generalize adF p s (facQ Q ((f + 1) % 3)) (facQ R ((f + 1) % 3)) = z at hb
    obtain ⟨A, B, C, rfl, hA, hB, hC⟩ := parts3 hQ
    unfold withQ facQ
    obtain rfl | rfl | rfl : f = 0 ∨ f = 1 ∨ f = 2 := by omega
    · simp only [show (0 + 1) % 3 = 1 from rfl, show (0 + 2) % 3 = 2 from rfl]
      rw [over_b hA.len hB.len hb.len, segm_c hA.len hb.len hC.len, segm_c hA.len hB.len hC.len]
    · simp only [show (1 + 1) % 3 = 2 from rfl, show (1 + 2) % 3 = 0 from rfl]
      rw [over_c hA.len hB.len hC.len hb.len, Nat.zero_mul, segm_a hA.len, segm_a hA.len]
    · simp only [show (2 + 1) % 3 = 0 from rfl, show (2 + 2) % 3 = 1 from rfl]
      rw [over_a hA.len hb.len, Nat.one_mul, segm_b hb.len hB.len, segm_b hA.len hB.len]
  rw [e]
theorem exec_build_flip {o : Oper} {a : Act} {w : World} (x y z : Operand) (ho : o.op = .build 58 #[(0, x), (1, y), (2, z)]) (n m k : Int) (hx : a.eval x = .int .i64 n) (hy : a.eval y = .int .i64 m) (hz : a.eval z = .int .i64 k) :
    (execOp a.eval o).run Try.prog w = .ok (.value (.agg #[.int .i64 n, .int .i64 m, .int .i64 k])) w := by
  have hb : Try.prog.built 58 [(0, .int .i64 n), (1, .int .i64 m), (2, .int .i64 k)] = some #[.int .i64 n, .int .i64 m, .int .i64 k] := by kernel_rfl
  unfold execOp
  have := run_build (P := Try.prog) w 58 #[(0, .int .i64 n), (1, .int .i64 m), (2, .int .i64 k)] _ hb
  simp [ho, hx, hy, hz, this]
theorem ownF0 {w : World} {lo g n c : Nat} {L : List (List Nat)} (h : Own w lo (.slice (some ⟨g, 0, none⟩) n c) L) (hb : ∀ q ∈ L, Bytes 27 q) {i : Nat} {Q : List Nat} (hi : L[i]? = some Q) : ∀ j, j < 27 → w.cell? ⟨g, i * 27 + j, none⟩ = some (.int .u8 ((Q[j]?.getD 0 : Nat) : Int)) := fun j hj => by
  have h9 := (h.rd' hb).cFl hi j hj
  rwa [Nat.zero_add] at h9
theorem rdF0 {w : World} {g : Nat} {L : List (List Nat)} (h : Rd w (some ⟨g, 0, none⟩) L) {i : Nat} {Q : List Nat} (hi : L[i]? = some Q) : ∀ j, j < 27 → w.cell? ⟨g, i * 27 + j, none⟩ = some (.int .u8 ((Q[j]?.getD 0 : Nat) : Int)) := fun j hj => by
  have h9 := h.cFl hi j hj
  rwa [Nat.zero_add] at h9
theorem ne_blk {b g n c : Nat} (h : some b ≠ (Value.slice (some ⟨g, 0, none⟩) n c).ownBlock) : b ≠ g := fun e => h (by rw [e]; rfl)
theorem blk_ne {b g n c : Nat} (h : b ≠ g) : some b ≠ (Value.slice (some ⟨g, 0, none⟩) n c).ownBlock := fun e => h (by simpa [Value.ownBlock] using e)
theorem l03ToldN_c (p n m k : Int) (A0 : Option Addr) (l0 cap0 : Nat) (A : Option Addr) (N cap : Nat) (ps : List (List Nat)) (w : World) (hN : ps.length = N) (hr : Rd w A ps) (hlen : ps.length ≤ 1000) :
    Calls Try.prog 56 #[.agg #[.int .i64 p, .int .i64 n, .int .i64 m, .int .i64 k, .slice A0 l0 cap0], .slice A N cap] w
      fun e w' => ∃ v, e = .returned (.agg #[.int .i64 p, .int .i64 n, .int .i64 m, .int .i64 k, v]) ∧ Own w' w.heap.size v (ps.filter nzB) ∧ Below w.heap.size w w' := by
  subst hN
  exact l03Told_c p n m k A0 l0 cap0 A cap ps w hr hlen
theorem wp_call5 {P : Program} {Q : Exit → Act → World → Prop} {o : Oper} {a : Act} {w : World} {K : Act → World → Prop} (d : Option Tmp) (hd : o.dst = d) (f : Nat) (x y z u t : Operand) (ts : Array TypeId) (ho : o.op = .call { callee := .value (.func f), args := #[x, y, z, u, t], argTypes := ts }) (hcall : ∀ args w, (callFunc f args).run P w = .ok (.enter f args) w)
    (v1 v2 v3 v4 v5 : Value) (hx : a.eval x = v1) (hy : a.eval y = v2) (hz : a.eval z = v3) (hu : a.eval u = v4) (ht : a.eval t = v5) (post : Ending → World → Prop) (hc : Calls P f #[v1, v2, v3, v4, v5] w post) (h : ∀ e w', post e w' → ∃ v, e = .returned v ∧ K (a.put d v) w') : Oper.wp P o a w K Q :=
  wp_call d hd f #[x, y, z, u, t] ts ho hcall #[v1, v2, v3, v4, v5] (by simp [hx, hy, hz, hu, ht]) post hc h
def fpCode (p n m k : Int) (qs : List (List Nat)) (i j f s : Int) : Int := if schemeB p n m k qs = true then (if inI i qs.length = true then (if inI j qs.length = true then (if inI f 3 = true then (if (decide (1 ≤ s) && decide (s ≤ p - 1)) = true then (if flB (qs[i.toNat]?.getD []) (qs[j.toNat]?.getD []) i.toNat j.toNat f.toNat = true then 0 else 5) else 2) else 2) else 2) else 2) else 1
def fpZ (code x : Int) : Int := if code = 0 then x else 0
def fpL (code : Int) (l : List (List Nat)) : List (List Nat) := if code = 0 then l else []
def fpQs (p : Int) (qs : List (List Nat)) (i j f s : Int) : List (List Nat) := flL p s qs i.toNat j.toNat f.toNat (qs[i.toNat]?.getD []) (qs[j.toNat]?.getD [])
theorem fp_ok {p n m k i j f s : Int} {qs : List (List Nat)} (h : ∀ q ∈ qs, Bytes 27 q) : (∀ r ∈ fpL (fpCode p n m k qs i j f s) (fpQs p qs i j f s), Bytes 27 r) ∧ (fpL (fpCode p n m k qs i j f s) (fpQs p qs i j f s)).length ≤ 1048576 := by
  unfold fpL
  split
  · next hc =>
    unfold fpCode at hc
    split at hc
    · next hs =>
      split at hc
      · next hi =>
        split at hc
        · next hj =>
          simp only [inI, Bool.and_eq_true, decide_eq_true_eq] at hi hj
          have hI : i.toNat < qs.length := by omega
          have hJ : j.toNat < qs.length := by omega
          have h5 := primeB_5 (sizesB_parts (schemeB_sizes hs)).1
          have h2 := prime_two (sizesB_parts (schemeB_sizes hs)).1
          unfold fpQs
          rw [List.getElem?_eq_getElem hI, List.getElem?_eq_getElem hJ]
          have h9 := flL_ok (p := p) (s := s) (i := i.toNat) (j := j.toNat) (f := f.toNat) h (h _ (List.getElem_mem hI)) (h _ (List.getElem_mem hJ)) ⟨h2, h5.2⟩
          have h4 := schemeB_len hs
          exact ⟨h9.1, Nat.le_trans h9.2 (by omega)⟩
        · omega
      · omega
    · omega
  · exact ⟨fun r hr => by simp at hr, by simp⟩
theorem al_impl_flip {o : Oper} {a : Act} {w : World} (ho : o.op = .alloc 58) : (execOp a.eval o).run Try.prog w = .ok (.value (.pointer (some ⟨w.heap.size, 0, none⟩))) (w.alloc (.cells #[.int .i64 0, .int .i64 0, .int .i64 0] 58 (0, 0))) := by
  unfold execOp
  rw [ho]
  kernel_rfl
set_option maxHeartbeats 25600000 in
theorem l03Flip_c (p n m k s : Int) (a0 c : Nat) (qs : List (List Nat)) (i j f : Nat) (Q R : List Nat) (w : World) (hR : Rd w (some ⟨a0, 0, none⟩) qs) (hQ : qs[i]? = some Q) (hRj : qs[j]? = some R) (hf : f < 3) (hne : i ≠ j) (hlen : qs.length ≤ 1000) (hp : 2 ≤ p ∧ p ≤ 5) (hs : 0 ≤ s ∧ s ≤ p) :
    Calls Try.prog 28 #[.agg #[.int .i64 p, .int .i64 n, .int .i64 m, .int .i64 k, .slice (some ⟨a0, 0, none⟩) qs.length c], .int .i64 i, .int .i64 j, .int .i64 f, .int .i64 s] w (fun e w' => ∃ v, e = .returned (.agg #[.int .i64 p, .int .i64 n, .int .i64 m, .int .i64 k, v]) ∧ Own w' w.heap.size v (flL p s qs i j f Q R) ∧ Below w.heap.size w w') := by
  have hB := Below.refl w.heap.size w
  have HQi := Lib.hid hQ
  have HRj := Lib.hid hRj
  have HQ := Lib.hid (hR.good _ (List.mem_of_getElem? hQ))
  have HRb := Lib.hid (hR.good _ (List.mem_of_getElem? hRj))
  have hi := (List.getElem?_eq_some_iff.1 hQ).1
  have hj := (List.getElem?_eq_some_iff.1 hRj).1
  have HLb := Lib.hid hR.good
  have HG27 : Hid (∀ q ∈ qs, q.length = 27) := Lib.hid (fun q hq => (hR.good q hq).len)
  obtain ⟨f1, hf1⟩ : ∃ z9, f + 1 = z9 := ⟨_, rfl⟩
  obtain ⟨f2, hf2⟩ : ∃ z9, f + 2 = z9 := ⟨_, rfl⟩
  obtain ⟨G, hG⟩ : ∃ z9, (f + 1) % 3 = z9 := ⟨_, rfl⟩
  obtain ⟨H, hH⟩ : ∃ z9, (f + 2) % 3 = z9 := ⟨_, rfl⟩
  have hG3 : G < 3 := by omega
  have hH3 : H < 3 := by omega
  have Hf1 : Hid (IntKind.i64.wrap ((f : Int) + 1) = (f1 : Int)) := Lib.hid (by rw [IntWalk.i64_in _ (by omega)]; omega)
  have Hf2 : Hid (IntKind.i64.wrap ((f : Int) + 2) = (f2 : Int)) := Lib.hid (by rw [IntWalk.i64_in _ (by omega)]; omega)
  have HG : Hid ((f1 : Int).tmod 3 = (G : Int)) := Lib.hid (by rw [Int.tmod_eq_emod_of_nonneg (by omega)]; omega)
  have HH : Hid ((f2 : Int).tmod 3 = (H : Int)) := Lib.hid (by rw [Int.tmod_eq_emod_of_nonneg (by omega)]; omega)
  have hfs := fl_specS (p := p) (s := s) (f := f) (Q := Q) (R := R) HQ.out hp hf
  obtain ⟨F1, hF1⟩ : ∃ z9, adF p s (facQ Q G) (facQ R G) = z9 := ⟨_, rfl⟩
  have HF1 := Lib.hid hF1
  have HF1b : Hid (Bytes 9 F1) := Lib.hid (by rw [← hF1]; exact adF_bytes s _ _ (by omega) (by omega))
  obtain ⟨Q1, hQ1⟩ : ∃ z9, withQ Q G F1 = z9 := ⟨_, rfl⟩
  have HQ1 := Lib.hid hQ1
  have HQ1b : Hid (Bytes 27 Q1) := Lib.hid (by rw [← hQ1]; exact withQ_bytes HQ.out HF1b.out hG3)
  obtain ⟨F2, hF2⟩ : ∃ z9, adF p (-s) (facQ R H) (facQ Q H) = z9 := ⟨_, rfl⟩
  have HF2 := Lib.hid hF2
  have HF2b : Hid (Bytes 9 F2) := Lib.hid (by rw [← hF2]; exact adF_bytes (-s) _ _ (by omega) (by omega))
  obtain ⟨R1, hR1⟩ : ∃ z9, withQ R H F2 = z9 := ⟨_, rfl⟩
  have HR1 := Lib.hid hR1
  have HR1b : Hid (Bytes 27 R1) := Lib.hid (by rw [← hR1]; exact withQ_bytes HRb.out HF2b.out hH3)
  have HL2b : Hid (∀ q ∈ (qs.set i Q1).set j R1, Bytes 27 q) := Lib.hid (set_bytes27 (set_bytes27 hR.good HQ1b.out) HR1b.out)
  obtain ⟨FL, hFL⟩ : ∃ z9, ((qs.set i Q1).set j R1).filter nzB = z9 := ⟨_, rfl⟩
  have HFl := Lib.hid hFL
  have HFL : Hid (flL p s qs i j f Q R = FL) := Lib.hid (by unfold flL; rw [hfs]; unfold flQ; rw [hG, hH, hF1, hQ1, hF2, hR1, hFL])
  obtain ⟨M8, hM8⟩ : ∃ N, FL.length = N := ⟨_, rfl⟩
  have HM8 := Lib.hid hM8
  clear hQ hRj hM8 hFL hR1 hF2 hQ1 hF1 hfs hG hH hf1 hf2
  go_enter Try.func28, Try.ntmps28
  go_upto_region 0 with (fail)
  refine wp_region_lit ?_
  refine ls_op rfl (fun K' hK' => ?_)
  have lz1 := hB.size
  refine wp_new (some 5) rfl (exec_box 28 _ rfl (#[.int .i64 p, .int .i64 n, .int .i64 m, .int .i64 k, .slice (some ⟨a0, 0, none⟩) qs.length c]) rfl) (fun Wz2 nnz3 => ?_)
  have bz4 := nnz3.below (Below.refl _ _) (Nat.le_refl _)
  replace hB := below_after hB bz4
  have hz5 : At Wz2 w.heap.size (.cells #[.int .i64 p, .int .i64 n, .int .i64 m, .int .i64 k, .slice (some ⟨a0, 0, none⟩) qs.length c] 28 (0, 0)) := nnz3.at_
  refine hK' _ _ ?_
  clear hK' K' nnz3 bz4
  go_frame
  refine ls_op rfl (fun K' hK' => ?_)
  have lz6 := hB.size
  have lz7 := hz5.lt
  refine wp_new (some 10) rfl (al_impl_Scheme rfl) (fun Wz8 nnz9 => ?_)
  have bz10 := nnz9.below (Below.refl _ _) (Nat.le_refl _)
  replace hB := below_after hB bz10
  replace hz5 := hz5.after bz10
  have hz11 : At Wz8 Wz2.heap.size (.cells #[.int .i64 0, .int .i64 0, .int .i64 0, .int .i64 0, .slice none 0 0] 28 (0, 0)) := nnz9.at_
  refine hK' _ _ ?_
  clear hK' K' nnz9 bz10
  go_frame
  refine wpList_nil ?_
  go_upto_region 1 with (fail)
  refine wp_region_lit ?_
  refine ls_op rfl (fun K' hK' => ?_)
  have lz15 := hB.size
  have lz16 := hz5.lt
  have lz17 := hz11.lt
  refine wp_new (some 16) rfl (exec_bs0 rfl) (fun Wz12 nnz13 => ?_)
  have bz14 := nnz13.below (Below.refl _ _) (Nat.le_refl _)
  replace hB := below_after hB bz14
  replace hz5 := hz5.after bz14
  replace hz11 := hz11.after bz14
  have ho : Own Wz12 w.heap.size (.slice (some ⟨Wz8.heap.size, 0, none⟩) 0 0) [] := (own_bs0 nnz13).mono (by have := hB.size; omega)
  refine hK' _ _ ?_
  clear hK' K' nnz13 bz14
  go_frame
  refine ls_ex (some 17) (.pointer (some ⟨w.heap.size, 4, none⟩)) rfl rfl (exec_fieldAddr 28 _ 4 rfl _ (by kernel_rfl)) ?_
  go_frame
  refine ls_ex (some 18) (.slice (some ⟨a0, 0, none⟩) qs.length c) rfl rfl (exec_load_one 26 _ rfl w.heap.size 4 rfl (.slice (some ⟨a0, 0, none⟩) qs.length c) _ Try.underlying26 rfl (hz5.at_ 4)) ?_
  go_frame
  refine ls_op rfl (fun K' hK' => ?_)
  have lz21 := hB.size
  have lz22 := hz5.lt
  have lz23 := hz11.lt
  refine wp_append_rd (some 19) rfl _ _ rfl (.slice (some ⟨Wz8.heap.size, 0, none⟩) 0 0) [] qs rfl ho (some ⟨a0, 0, none⟩) c rfl (hR.keep hB) (by simp) (by simp; omega) (by omega) (fun v7 Wz18 noz20 grz19 => ?_)
  rw [List.nil_append] at noz20
  obtain ⟨A7, c7, rfl⟩ := Own.rdN2 noz20 (n := qs.length) rfl
  replace hB := below_grown hB grz19 ho (by omega)
  replace hz5 := hz5.grown grz19 (ho.off hz5 (by decide))
  replace hz11 := hz11.grown grz19 (ho.off hz11 (by decide))
  replace ho := noz20
  obtain ⟨g, rfl, hg⟩ := ho.blk (by omega)
  refine hK' _ _ ?_
  clear hK' K' grz19
  go_frame
  refine ls_ex (some 11) (.slice (some ⟨g, 0, none⟩) qs.length c7) rfl rfl (exec_assign _ rfl (.slice (some ⟨g, 0, none⟩) qs.length c7) rfl) ?_
  go_frame
  refine wpList_nil ?_
  go_upto_region 2 with (fail)
  refine wp_region_lit ?_
  refine ls_ex (some 20) (.int .i64 f) rfl rfl (exec_move _ rfl (.int .i64 f) rfl) ?_
  go_frame
  refine ls_ex (some 21) (.int .i64 f1) rfl rfl (exec_add _ _ _ _ rfl f 1 f1 rfl rfl Hf1.out) ?_
  go_frame
  refine ls_ex (some 22) (.int .i64 G) rfl rfl (exec_rem _ _ _ _ rfl f1 3 G rfl rfl (by decide) HG.out) ?_
  go_frame
  refine ls_ex (some 23) (.int .i64 f) rfl rfl (exec_move _ rfl (.int .i64 f) rfl) ?_
  go_frame
  refine ls_ex (some 24) (.int .i64 f2) rfl rfl (exec_add _ _ _ _ rfl f 2 f2 rfl rfl Hf2.out) ?_
  go_frame
  refine ls_ex (some 25) (.int .i64 H) rfl rfl (exec_rem _ _ _ _ rfl f2 3 H rfl rfl (by decide) HH.out) ?_
  go_frame
  refine ls_ex (some 12) (.int .i64 G) rfl rfl (exec_assign _ rfl (.int .i64 G) rfl) ?_
  go_frame
  refine ls_ex (some 13) (.int .i64 H) rfl rfl (exec_assign _ rfl (.int .i64 H) rfl) ?_
  go_frame
  refine wpList_nil ?_
  go_upto_region 3 with (fail)
  go_cut [14, 15] from 26 to 33 (fun s14 s15 wx => ∃ b14 b15 : Nat, s14 = .pointer (some ⟨b14, 0, none⟩) ∧ s15 = .pointer (some ⟨b15, 0, none⟩) ∧ (w.heap.size < b14 ∧ w.heap.size < b15 ∧ Wz2.heap.size < b14 ∧ Wz2.heap.size < b15) ∧ b14 ≠ g ∧ b15 ≠ g ∧ Below w.heap.size w wx ∧ At wx w.heap.size (.cells #[.int .i64 p, .int .i64 n, .int .i64 m, .int .i64 k, .slice (some ⟨a0, 0, none⟩) qs.length c] 28 (0, 0)) ∧ At wx Wz2.heap.size (.cells #[.int .i64 0, .int .i64 0, .int .i64 0, .int .i64 0, .slice none 0 0] 28 (0, 0)) ∧ At wx b14 (.cells (u8s (Q)) 52 (0, 0)) ∧ At wx b15 (.cells (u8s (R)) 52 (0, 0)) ∧ Own wx w.heap.size (.slice (some ⟨g, 0, none⟩) qs.length c7) (qs))
  case first =>
    refine wp_region_y (zs := []) (S := fun w' => Below w.heap.size w w' ∧ Own w' w.heap.size (.slice (some ⟨g, 0, none⟩) qs.length c7) (qs)) (S2 := fun w' => True) (by kernel_rfl) ?_
    change wpAnyY _ _ _ _ _ _ _ _ _ _ (World.drew _)
    generalize hwdz24 : World.drew _ = wdz24
    replace hB : Below w.heap.size w wdz24 := by rw [← hwdz24]; exact hB.drew
    replace hz5 : At wdz24 w.heap.size (.cells #[.int .i64 p, .int .i64 n, .int .i64 m, .int .i64 k, .slice (some ⟨a0, 0, none⟩) qs.length c] 28 (0, 0)) := by rw [← hwdz24]; exact hz5
    replace hz11 : At wdz24 Wz2.heap.size (.cells #[.int .i64 0, .int .i64 0, .int .i64 0, .int .i64 0, .slice none 0 0] 28 (0, 0)) := by rw [← hwdz24]; exact hz11
    replace ho : Own wdz24 w.heap.size (.slice (some ⟨g, 0, none⟩) qs.length c7) (qs) := by rw [← hwdz24]; exact ho.drew
    clear hwdz24
    refine y_yield 0 (some 26) (.slice (some ⟨g, 0, none⟩) qs.length c7) rfl (by kernel_rfl) (by kernel_rfl) (by kernel_rfl) (fun _ _ _ h => h) rfl rfl ⟨hB, ho⟩ (fun w' h' => exec_move _ rfl (.slice (some ⟨g, 0, none⟩) qs.length c7) rfl) ?_
    go_frame
    refine y_yield 1 (some 27) (.int .i64 i) rfl (by kernel_rfl) (by kernel_rfl) (by kernel_rfl) (fun _ _ _ h => h) rfl rfl ⟨hB, ho⟩ (fun w' h' => exec_move _ rfl (.int .i64 i) rfl) ?_
    go_frame
    refine y_yield 2 (some 28) (.pointer (some ⟨g, i * 27, none⟩)) rfl (by kernel_rfl) (by kernel_rfl) (by kernel_rfl) (fun _ _ _ h => h) rfl rfl ⟨hB, ho⟩ (fun w' h' => exec_ix0 _ 52 _ _ rfl g qs.length c7 i 27 rfl rfl Try.underlying26 (by kernel_rfl) (by omega)) ?_
    go_frame
    refine y_yield 3 (some 29) (.agg (u8s (Q))) rfl (by kernel_rfl) (by kernel_rfl) (by kernel_rfl) (fun _ _ _ h => h) rfl rfl ⟨hB, ho⟩ (fun w' h' => exec_load_cells 52 _ rfl g (i * 27) rfl (Q) _ 27 (ownF0 h'.2 HLb.out HQi.out) Try.underlying52 rfl (by kernel_rfl) (HQ.out.len)) ?_
    go_frame
    refine y_yield 4 (some 30) (.slice (some ⟨g, 0, none⟩) qs.length c7) rfl (by kernel_rfl) (by kernel_rfl) (by kernel_rfl) (fun _ _ _ h => h) rfl rfl ⟨hB, ho⟩ (fun w' h' => exec_move _ rfl (.slice (some ⟨g, 0, none⟩) qs.length c7) rfl) ?_
    go_frame
    refine y_yield 5 (some 31) (.int .i64 j) rfl (by kernel_rfl) (by kernel_rfl) (by kernel_rfl) (fun _ _ _ h => h) rfl rfl ⟨hB, ho⟩ (fun w' h' => exec_move _ rfl (.int .i64 j) rfl) ?_
    go_frame
    refine y_yield 6 (some 32) (.pointer (some ⟨g, j * 27, none⟩)) rfl (by kernel_rfl) (by kernel_rfl) (by kernel_rfl) (fun _ _ _ h => h) rfl rfl ⟨hB, ho⟩ (fun w' h' => exec_ix0 _ 52 _ _ rfl g qs.length c7 j 27 rfl rfl Try.underlying26 (by kernel_rfl) (by omega)) ?_
    go_frame
    refine y_yield 7 (some 33) (.agg (u8s (R))) rfl (by kernel_rfl) (by kernel_rfl) (by kernel_rfl) (fun _ _ _ h => h) rfl rfl ⟨hB, ho⟩ (fun w' h' => exec_load_cells 52 _ rfl g (j * 27) rfl (R) _ 27 (ownF0 h'.2 HLb.out HRj.out) Try.underlying52 rfl (by kernel_rfl) (HRb.out.len)) ?_
    go_frame
    refine y_two 8 9 (by kernel_rfl) rfl rfl rfl rfl (fun K' hK' => ?_) (fun K' hK' => ?_)
    · have lz25 := hB.size
      have lz26 := hz5.lt
      have lz27 := hz11.lt
      have lz28 : g < wdz24.heap.size := (ho.lt rfl).2
      have lz29 : w.heap.size ≤ g := (ho.lt rfl).1
      have naz34 := ho.away_new
      refine wp_new (some 14) rfl (al_impl_Product rfl) (fun Wz30 nnz31 => ?_)
      have bz32 := nnz31.below (Below.refl _ _) (Nat.le_refl _)
      replace hB := below_after hB bz32
      replace hz5 := hz5.after bz32
      replace hz11 := hz11.after bz32
      replace ho := ho.below bz32
      have hz33 : At Wz30 wdz24.heap.size (.cells (u8s (List.replicate 27 0)) 52 (0, 0)) := nnz31.at_
      refine hK' _ _ ⟨hB, ho⟩ (fun _ => trivial) ?_
      clear hK' K' nnz31 bz32
      go_frame
      refine y_oper 9 (by kernel_rfl) rfl rfl (fun K' hK' => ?_)
      have lz35 := hB.size
      have lz36 := hz5.lt
      have lz37 := hz11.lt
      have lz38 : g < Wz30.heap.size := (ho.lt rfl).2
      have lz39 : w.heap.size ≤ g := (ho.lt rfl).1
      have lz40 := hz33.lt
      have naz45 := ho.away_new
      refine wp_new (some 15) rfl (al_impl_Product rfl) (fun Wz41 nnz42 => ?_)
      have bz43 := nnz42.below (Below.refl _ _) (Nat.le_refl _)
      replace hB := below_after hB bz43
      replace hz5 := hz5.after bz43
      replace hz11 := hz11.after bz43
      replace ho := ho.below bz43
      replace hz33 := hz33.after bz43
      have hz44 : At Wz41 Wz30.heap.size (.cells (u8s (List.replicate 27 0)) 52 (0, 0)) := nnz42.at_
      refine hK' _ _ ⟨hB, ho⟩ (fun _ => trivial) ?_
      clear hK' K' nnz42 bz43
      go_frame
      refine y_oper 10 (by kernel_rfl) rfl rfl (fun K' hK' => ?_)
      refine wp_store_bytes 52 _ _ rfl rfl wdz24.heap.size rfl (Q) rfl _ _ hz33 27 (by kernel_rfl) HQ.out.len (by simp) (fun Wz46 pz47 => ?_)
      replace hB := pz47.below hB (by omega)
      replace hz5 := pz47.other hz5 (by omega)
      replace hz11 := pz47.other hz11 (by omega)
      replace ho := ho.put pz47 naz34
      replace hz44 := pz47.other hz44 (by omega)
      replace hz33 : At Wz46 wdz24.heap.size (.cells (u8s (Q)) 52 (0, 0)) := pz47.at_
      refine hK' _ _ ⟨hB, ho⟩ (fun _ => trivial) ?_
      clear hK' K' pz47
      refine y_oper 11 (by kernel_rfl) rfl rfl (fun K' hK' => ?_)
      refine wp_store_bytes 52 _ _ rfl rfl Wz30.heap.size rfl (R) rfl _ _ hz44 27 (by kernel_rfl) HRb.out.len (by simp) (fun Wz48 pz49 => ?_)
      replace hB := pz49.below hB (by omega)
      replace hz5 := pz49.other hz5 (by omega)
      replace hz11 := pz49.other hz11 (by omega)
      replace ho := ho.put pz49 naz45
      replace hz33 := pz49.other hz33 (by omega)
      replace hz44 : At Wz48 Wz30.heap.size (.cells (u8s (R)) 52 (0, 0)) := pz49.at_
      refine hK' _ _ ⟨hB, ho⟩ (fun _ => trivial) ?_
      clear hK' K' pz49
      refine y_done (by kernel_rfl) ?_ _
      go_wp2_with fail
      go_meet
      exact ⟨_, _, rfl, rfl, ⟨by omega, by omega, by omega, by omega⟩, ne_blk naz34, ne_blk naz45, hB, hz5, hz11, hz33, hz44, ho⟩
    · have lz50 := hB.size
      have lz51 := hz5.lt
      have lz52 := hz11.lt
      have lz53 : g < wdz24.heap.size := (ho.lt rfl).2
      have lz54 : w.heap.size ≤ g := (ho.lt rfl).1
      have naz59 := ho.away_new
      refine wp_new (some 15) rfl (al_impl_Product rfl) (fun Wz55 nnz56 => ?_)
      have bz57 := nnz56.below (Below.refl _ _) (Nat.le_refl _)
      replace hB := below_after hB bz57
      replace hz5 := hz5.after bz57
      replace hz11 := hz11.after bz57
      replace ho := ho.below bz57
      have hz58 : At Wz55 wdz24.heap.size (.cells (u8s (List.replicate 27 0)) 52 (0, 0)) := nnz56.at_
      refine hK' _ _ ⟨hB, ho⟩ (fun _ => trivial) ?_
      clear hK' K' nnz56 bz57
      go_frame
      refine y_oper 8 (by kernel_rfl) rfl rfl (fun K' hK' => ?_)
      have lz60 := hB.size
      have lz61 := hz5.lt
      have lz62 := hz11.lt
      have lz63 : g < Wz55.heap.size := (ho.lt rfl).2
      have lz64 : w.heap.size ≤ g := (ho.lt rfl).1
      have lz65 := hz58.lt
      have naz70 := ho.away_new
      refine wp_new (some 14) rfl (al_impl_Product rfl) (fun Wz66 nnz67 => ?_)
      have bz68 := nnz67.below (Below.refl _ _) (Nat.le_refl _)
      replace hB := below_after hB bz68
      replace hz5 := hz5.after bz68
      replace hz11 := hz11.after bz68
      replace ho := ho.below bz68
      replace hz58 := hz58.after bz68
      have hz69 : At Wz66 Wz55.heap.size (.cells (u8s (List.replicate 27 0)) 52 (0, 0)) := nnz67.at_
      refine hK' _ _ ⟨hB, ho⟩ (fun _ => trivial) ?_
      clear hK' K' nnz67 bz68
      go_frame
      refine y_oper 10 (by kernel_rfl) rfl rfl (fun K' hK' => ?_)
      refine wp_store_bytes 52 _ _ rfl rfl Wz55.heap.size rfl (Q) rfl _ _ hz69 27 (by kernel_rfl) HQ.out.len (by simp) (fun Wz71 pz72 => ?_)
      replace hB := pz72.below hB (by omega)
      replace hz5 := pz72.other hz5 (by omega)
      replace hz11 := pz72.other hz11 (by omega)
      replace ho := ho.put pz72 naz70
      replace hz58 := pz72.other hz58 (by omega)
      replace hz69 : At Wz71 Wz55.heap.size (.cells (u8s (Q)) 52 (0, 0)) := pz72.at_
      refine hK' _ _ ⟨hB, ho⟩ (fun _ => trivial) ?_
      clear hK' K' pz72
      refine y_oper 11 (by kernel_rfl) rfl rfl (fun K' hK' => ?_)
      refine wp_store_bytes 52 _ _ rfl rfl wdz24.heap.size rfl (R) rfl _ _ hz58 27 (by kernel_rfl) HRb.out.len (by simp) (fun Wz73 pz74 => ?_)
      replace hB := pz74.below hB (by omega)
      replace hz5 := pz74.other hz5 (by omega)
      replace hz11 := pz74.other hz11 (by omega)
      replace ho := ho.put pz74 naz59
      replace hz69 := pz74.other hz69 (by omega)
      replace hz58 : At Wz73 wdz24.heap.size (.cells (u8s (R)) 52 (0, 0)) := pz74.at_
      refine hK' _ _ ⟨hB, ho⟩ (fun _ => trivial) ?_
      clear hK' K' pz74
      refine y_done (by kernel_rfl) ?_ _
      go_wp2_with fail
      go_meet
      exact ⟨_, _, rfl, rfl, ⟨by omega, by omega, by omega, by omega⟩, ne_blk naz70, ne_blk naz59, hB, hz5, hz11, hz69, hz58, ho⟩
  case rest =>
  clear hB hz5 hz11 ho
  obtain ⟨b14, b15, rfl, rfl, ⟨l1, l2, l3, l4⟩, n14, n15, hB, h5, h10, h14, h15, ho⟩ := hcut
  obtain ⟨wc, rfl⟩ := cut_worldF hB
  go_upto_region 4 with (fail)
  refine wp_region_y (zs := [16]) (S := fun w' => Below w.heap.size w w' ∧ At w' b14 (.cells (u8s (Q)) 52 (0, 0)) ∧ At w' w.heap.size (.cells #[.int .i64 p, .int .i64 n, .int .i64 m, .int .i64 k, .slice (some ⟨a0, 0, none⟩) qs.length c] 28 (0, 0)) ∧ At w' b15 (.cells (u8s (R)) 52 (0, 0))) (S2 := fun w' => True) (by kernel_rfl) ?_
  change wpAnyY _ _ _ _ _ _ _ _ _ _ (World.drew _)
  generalize hwdz75 : World.drew _ = wdz75
  replace hB : Below w.heap.size w wdz75 := by rw [← hwdz75]; exact hB.drew
  replace h5 : At wdz75 w.heap.size (.cells #[.int .i64 p, .int .i64 n, .int .i64 m, .int .i64 k, .slice (some ⟨a0, 0, none⟩) qs.length c] 28 (0, 0)) := by rw [← hwdz75]; exact h5
  replace h10 : At wdz75 Wz2.heap.size (.cells #[.int .i64 0, .int .i64 0, .int .i64 0, .int .i64 0, .slice none 0 0] 28 (0, 0)) := by rw [← hwdz75]; exact h10
  replace h14 : At wdz75 b14 (.cells (u8s (Q)) 52 (0, 0)) := by rw [← hwdz75]; exact h14
  replace h15 : At wdz75 b15 (.cells (u8s (R)) 52 (0, 0)) := by rw [← hwdz75]; exact h15
  replace ho : Own wdz75 w.heap.size (.slice (some ⟨g, 0, none⟩) qs.length c7) (qs) := by rw [← hwdz75]; exact ho.drew
  clear hwdz75
  refine y_yield 0 (some 34) (.slice (some ⟨g, 0, none⟩) qs.length c7) rfl (by kernel_rfl) (by kernel_rfl) (by kernel_rfl) (fun _ _ _ h => h) rfl rfl ⟨hB, h14, h5, h15⟩ (fun w' h' => exec_move _ rfl (.slice (some ⟨g, 0, none⟩) qs.length c7) rfl) ?_
  go_frame
  refine y_yield 1 (some 35) (.int .i64 i) rfl (by kernel_rfl) (by kernel_rfl) (by kernel_rfl) (fun _ _ _ h => h) rfl rfl ⟨hB, h14, h5, h15⟩ (fun w' h' => exec_move _ rfl (.int .i64 i) rfl) ?_
  go_frame
  refine y_yield 2 (some 36) (.agg (u8s (Q))) rfl (by kernel_rfl) (by kernel_rfl) (by kernel_rfl) (fun _ _ _ h => h) rfl rfl ⟨hB, h14, h5, h15⟩ (fun w' h' => exec_load_all 52 _ rfl b14 rfl _ _ _ h'.2.1 Try.underlying52 rfl 27 (by kernel_rfl) ((u8s_size _).trans HQ.out.len)) ?_
  go_frame
  refine y_yield 3 (some 37) (.int .i64 G) rfl (by kernel_rfl) (by kernel_rfl) (by kernel_rfl) (fun _ _ _ h => h) rfl rfl ⟨hB, h14, h5, h15⟩ (fun w' h' => exec_move _ rfl (.int .i64 G) rfl) ?_
  go_frame
  refine y_yield 4 (some 38) (.pointer (some ⟨w.heap.size, 0, none⟩)) rfl (by kernel_rfl) (by kernel_rfl) (by kernel_rfl) (fun _ _ _ h => h) rfl rfl ⟨hB, h14, h5, h15⟩ (fun w' h' => exec_fieldAddr 28 _ 0 rfl _ (by kernel_rfl)) ?_
  go_frame
  refine y_yield 5 (some 39) (.int .i64 p) rfl (by kernel_rfl) (by kernel_rfl) (by kernel_rfl) (fun _ _ _ h => h) rfl rfl ⟨hB, h14, h5, h15⟩ (fun w' h' => exec_load_one 2 _ rfl w.heap.size 0 rfl (.int .i64 p) _ Try.underlying2 rfl (h'.2.2.1.at_ 0)) ?_
  go_frame
  refine y_yield 6 (some 40) (.agg (u8s (Q))) rfl (by kernel_rfl) (by kernel_rfl) (by kernel_rfl) (fun _ _ _ h => h) rfl rfl ⟨hB, h14, h5, h15⟩ (fun w' h' => exec_load_all 52 _ rfl b14 rfl _ _ _ h'.2.1 Try.underlying52 rfl 27 (by kernel_rfl) ((u8s_size _).trans HQ.out.len)) ?_
  go_frame
  refine y_yield 7 (some 41) (.int .i64 G) rfl (by kernel_rfl) (by kernel_rfl) (by kernel_rfl) (fun _ _ _ h => h) rfl rfl ⟨hB, h14, h5, h15⟩ (fun w' h' => exec_move _ rfl (.int .i64 G) rfl) ?_
  go_frame
  refine y_yield 9 (some 43) (.agg (u8s (R))) rfl (by kernel_rfl) (by kernel_rfl) (by kernel_rfl) (fun _ _ _ h => h) rfl rfl ⟨hB, h14, h5, h15⟩ (fun w' h' => exec_load_all 52 _ rfl b15 rfl _ _ _ h'.2.2.2 Try.underlying52 rfl 27 (by kernel_rfl) ((u8s_size _).trans HRb.out.len)) ?_
  go_frame
  refine y_yield 10 (some 44) (.int .i64 G) rfl (by kernel_rfl) (by kernel_rfl) (by kernel_rfl) (fun _ _ _ h => h) rfl rfl ⟨hB, h14, h5, h15⟩ (fun w' h' => exec_move _ rfl (.int .i64 G) rfl) ?_
  go_frame
  refine y_yield 12 (some 46) (.int .i64 s) rfl (by kernel_rfl) (by kernel_rfl) (by kernel_rfl) (fun _ _ _ h => h) rfl rfl ⟨hB, h14, h5, h15⟩ (fun w' h' => exec_move _ rfl (.int .i64 s) rfl) ?_
  go_frame
  refine y_oper 8 (by kernel_rfl) rfl rfl (fun K' hK' => ?_)
  have lz78 := hB.size
  have lz79 := h5.lt
  have lz80 := h10.lt
  have lz81 := h14.lt
  have lz82 := h15.lt
  have lz83 : g < wdz75.heap.size := (ho.lt rfl).2
  have lz84 : w.heap.size ≤ g := (ho.lt rfl).1
  refine wp_call2 (some 42) rfl 27 _ _ _ rfl (fun args w => by kernel_rfl) _ _ rfl rfl _ (l03Factor_c Q G HQ.out hG3 _) (fun e Wz76 h => ?_)
  obtain ⟨rfl, bz77⟩ := h
  replace hB := below_after hB bz77
  replace h5 := h5.after bz77
  replace h10 := h10.after bz77
  replace h14 := h14.after bz77
  replace h15 := h15.after bz77
  replace ho := ho.below bz77
  clear bz77
  refine ⟨_, rfl, ?_⟩
  refine hK' _ _ ⟨hB, h14, h5, h15⟩ (fun _ => trivial) ?_
  clear hK' K'
  go_frame
  refine y_oper 11 (by kernel_rfl) rfl rfl (fun K' hK' => ?_)
  have lz87 := hB.size
  have lz88 := h5.lt
  have lz89 := h10.lt
  have lz90 := h14.lt
  have lz91 := h15.lt
  have lz92 : g < Wz76.heap.size := (ho.lt rfl).2
  have lz93 : w.heap.size ≤ g := (ho.lt rfl).1
  refine wp_call2 (some 45) rfl 27 _ _ _ rfl (fun args w => by kernel_rfl) _ _ rfl rfl _ (l03Factor_c R G HRb.out hG3 _) (fun e Wz85 h => ?_)
  obtain ⟨rfl, bz86⟩ := h
  replace hB := below_after hB bz86
  replace h5 := h5.after bz86
  replace h10 := h10.after bz86
  replace h14 := h14.after bz86
  replace h15 := h15.after bz86
  replace ho := ho.below bz86
  clear bz86
  refine ⟨_, rfl, ?_⟩
  refine hK' _ _ ⟨hB, h14, h5, h15⟩ (fun _ => trivial) ?_
  clear hK' K'
  go_frame
  refine y_oper 13 (by kernel_rfl) rfl rfl (fun K' hK' => ?_)
  have lz96 := hB.size
  have lz97 := h5.lt
  have lz98 := h10.lt
  have lz99 := h14.lt
  have lz100 := h15.lt
  have lz101 : g < Wz85.heap.size := (ho.lt rfl).2
  have lz102 : w.heap.size ≤ g := (ho.lt rfl).1
  refine wp_call4 (some 47) rfl 39 _ _ _ _ _ rfl (fun args w => by kernel_rfl) _ _ _ _ rfl rfl rfl rfl _ (l01Add_c p s (facQ Q G) (facQ R G) (facQ_bytes HQ.out hG3) (facQ_bytes HRb.out hG3) _ (by omega) (by omega) (by omega) (by omega)) (fun e Wz94 h => ?_)
  obtain ⟨rfl, bz95⟩ := h
  replace hB := below_after hB bz95
  replace h5 := h5.after bz95
  replace h10 := h10.after bz95
  replace h14 := h14.after bz95
  replace h15 := h15.after bz95
  replace ho := ho.below bz95
  rw [HF1.out]
  clear bz95
  refine ⟨_, rfl, ?_⟩
  refine hK' _ _ ⟨hB, h14, h5, h15⟩ (fun _ => trivial) ?_
  clear hK' K'
  go_frame
  refine y_oper 14 (by kernel_rfl) rfl rfl (fun K' hK' => ?_)
  have lz105 := hB.size
  have lz106 := h5.lt
  have lz107 := h10.lt
  have lz108 := h14.lt
  have lz109 := h15.lt
  have lz110 : g < Wz94.heap.size := (ho.lt rfl).2
  have lz111 : w.heap.size ≤ g := (ho.lt rfl).1
  refine wp_call3 (some 48) rfl 55 _ _ _ _ rfl (fun args w => by kernel_rfl) _ _ _ rfl rfl rfl _ (l03With_c Q F1 G HQ.out HF1b.out hG3 _) (fun e Wz103 h => ?_)
  obtain ⟨rfl, bz104⟩ := h
  replace hB := below_after hB bz104
  replace h5 := h5.after bz104
  replace h10 := h10.after bz104
  replace h14 := h14.after bz104
  replace h15 := h15.after bz104
  replace ho := ho.below bz104
  rw [HQ1.out]
  clear bz104
  refine ⟨_, rfl, ?_⟩
  refine hK' _ _ ⟨hB, h14, h5, h15⟩ (fun _ => trivial) ?_
  clear hK' K'
  go_frame
  refine y_yield 15 (some 49) (.pointer (some ⟨g, i * 27, none⟩)) rfl (by kernel_rfl) (by kernel_rfl) (by kernel_rfl) (fun _ _ _ h => h) rfl rfl ⟨hB, h14, h5, h15⟩ (fun w' h' => exec_ix0 _ 52 _ _ rfl g qs.length c7 i 27 rfl rfl Try.underlying26 (by kernel_rfl) (by omega)) ?_
  go_frame
  refine y_oper 16 (by kernel_rfl) rfl rfl (fun K' hK' => ?_)
  have lz115 := hB.size
  have lz116 := h5.lt
  have lz117 := h10.lt
  have lz118 := h14.lt
  have lz119 := h15.lt
  have lz120 : g < Wz103.heap.size := (ho.lt rfl).2
  have lz121 : w.heap.size ≤ g := (ho.lt rfl).1
  have nh5 := ne_blk (ho.off h5 (by decide))
  have nh10 := ne_blk (ho.off h10 (by decide))
  refine wp_store_own 52 _ _ rfl rfl g i rfl (Q1) rfl ho HG27.out (by kernel_rfl) (hi) HQ1b.out.len (fun Wz112 hoz114 pz113 _ => ?_)
  replace hB := pz113.below hB (by omega)
  replace h5 := pz113.other h5 (by omega)
  replace h10 := pz113.other h10 (by omega)
  replace h14 := pz113.other h14 (by omega)
  replace h15 := pz113.other h15 (by omega)
  replace ho := hoz114
  refine hK' _ _ ⟨hB, h14, h5, h15⟩ (fun h => absurd (by decide) h) ?_
  clear hK' K' pz113 hoz114
  refine y_done (by kernel_rfl) ?_ _
  go_upto_region 5 with (fail)
  refine wp_region_y (zs := [17]) (S := fun w' => Below w.heap.size w w' ∧ At w' b15 (.cells (u8s (R)) 52 (0, 0)) ∧ At w' w.heap.size (.cells #[.int .i64 p, .int .i64 n, .int .i64 m, .int .i64 k, .slice (some ⟨a0, 0, none⟩) qs.length c] 28 (0, 0)) ∧ At w' b14 (.cells (u8s (Q)) 52 (0, 0))) (S2 := fun w' => True) (by kernel_rfl) ?_
  change wpAnyY _ _ _ _ _ _ _ _ _ _ (World.drew _)
  generalize hwdz122 : World.drew _ = wdz122
  replace hB : Below w.heap.size w wdz122 := by rw [← hwdz122]; exact hB.drew
  replace h5 : At wdz122 w.heap.size (.cells #[.int .i64 p, .int .i64 n, .int .i64 m, .int .i64 k, .slice (some ⟨a0, 0, none⟩) qs.length c] 28 (0, 0)) := by rw [← hwdz122]; exact h5
  replace h10 : At wdz122 Wz2.heap.size (.cells #[.int .i64 0, .int .i64 0, .int .i64 0, .int .i64 0, .slice none 0 0] 28 (0, 0)) := by rw [← hwdz122]; exact h10
  replace h14 : At wdz122 b14 (.cells (u8s (Q)) 52 (0, 0)) := by rw [← hwdz122]; exact h14
  replace h15 : At wdz122 b15 (.cells (u8s (R)) 52 (0, 0)) := by rw [← hwdz122]; exact h15
  replace ho : Own wdz122 w.heap.size (.slice (some ⟨g, 0, none⟩) qs.length c7) (qs.set i Q1) := by rw [← hwdz122]; exact ho.drew
  clear hwdz122
  refine y_yield 0 (some 50) (.slice (some ⟨g, 0, none⟩) qs.length c7) rfl (by kernel_rfl) (by kernel_rfl) (by kernel_rfl) (fun _ _ _ h => h) rfl rfl ⟨hB, h15, h5, h14⟩ (fun w' h' => exec_move _ rfl (.slice (some ⟨g, 0, none⟩) qs.length c7) rfl) ?_
  go_frame
  refine y_yield 1 (some 51) (.int .i64 j) rfl (by kernel_rfl) (by kernel_rfl) (by kernel_rfl) (fun _ _ _ h => h) rfl rfl ⟨hB, h15, h5, h14⟩ (fun w' h' => exec_move _ rfl (.int .i64 j) rfl) ?_
  go_frame
  refine y_yield 2 (some 52) (.agg (u8s (R))) rfl (by kernel_rfl) (by kernel_rfl) (by kernel_rfl) (fun _ _ _ h => h) rfl rfl ⟨hB, h15, h5, h14⟩ (fun w' h' => exec_load_all 52 _ rfl b15 rfl _ _ _ h'.2.1 Try.underlying52 rfl 27 (by kernel_rfl) ((u8s_size _).trans HRb.out.len)) ?_
  go_frame
  refine y_yield 3 (some 53) (.int .i64 H) rfl (by kernel_rfl) (by kernel_rfl) (by kernel_rfl) (fun _ _ _ h => h) rfl rfl ⟨hB, h15, h5, h14⟩ (fun w' h' => exec_move _ rfl (.int .i64 H) rfl) ?_
  go_frame
  refine y_yield 4 (some 54) (.pointer (some ⟨w.heap.size, 0, none⟩)) rfl (by kernel_rfl) (by kernel_rfl) (by kernel_rfl) (fun _ _ _ h => h) rfl rfl ⟨hB, h15, h5, h14⟩ (fun w' h' => exec_fieldAddr 28 _ 0 rfl _ (by kernel_rfl)) ?_
  go_frame
  refine y_yield 5 (some 55) (.int .i64 p) rfl (by kernel_rfl) (by kernel_rfl) (by kernel_rfl) (fun _ _ _ h => h) rfl rfl ⟨hB, h15, h5, h14⟩ (fun w' h' => exec_load_one 2 _ rfl w.heap.size 0 rfl (.int .i64 p) _ Try.underlying2 rfl (h'.2.2.1.at_ 0)) ?_
  go_frame
  refine y_yield 6 (some 56) (.agg (u8s (R))) rfl (by kernel_rfl) (by kernel_rfl) (by kernel_rfl) (fun _ _ _ h => h) rfl rfl ⟨hB, h15, h5, h14⟩ (fun w' h' => exec_load_all 52 _ rfl b15 rfl _ _ _ h'.2.1 Try.underlying52 rfl 27 (by kernel_rfl) ((u8s_size _).trans HRb.out.len)) ?_
  go_frame
  refine y_yield 7 (some 57) (.int .i64 H) rfl (by kernel_rfl) (by kernel_rfl) (by kernel_rfl) (fun _ _ _ h => h) rfl rfl ⟨hB, h15, h5, h14⟩ (fun w' h' => exec_move _ rfl (.int .i64 H) rfl) ?_
  go_frame
  refine y_yield 9 (some 59) (.agg (u8s (Q))) rfl (by kernel_rfl) (by kernel_rfl) (by kernel_rfl) (fun _ _ _ h => h) rfl rfl ⟨hB, h15, h5, h14⟩ (fun w' h' => exec_load_all 52 _ rfl b14 rfl _ _ _ h'.2.2.2 Try.underlying52 rfl 27 (by kernel_rfl) ((u8s_size _).trans HQ.out.len)) ?_
  go_frame
  refine y_yield 10 (some 60) (.int .i64 H) rfl (by kernel_rfl) (by kernel_rfl) (by kernel_rfl) (fun _ _ _ h => h) rfl rfl ⟨hB, h15, h5, h14⟩ (fun w' h' => exec_move _ rfl (.int .i64 H) rfl) ?_
  go_frame
  refine y_yield 12 (some 62) (.int .i64 s) rfl (by kernel_rfl) (by kernel_rfl) (by kernel_rfl) (fun _ _ _ h => h) rfl rfl ⟨hB, h15, h5, h14⟩ (fun w' h' => exec_move _ rfl (.int .i64 s) rfl) ?_
  go_frame
  refine y_yield 13 (some 63) (.int .i64 (-s)) rfl (by kernel_rfl) (by kernel_rfl) (by kernel_rfl) (fun _ _ _ h => h) rfl rfl ⟨hB, h15, h5, h14⟩ (fun w' h' => exec_neg _ _ rfl s (-s) rfl (by first | rfl | exact IntWalk.i64_in _ (by omega))) ?_
  go_frame
  refine y_oper 8 (by kernel_rfl) rfl rfl (fun K' hK' => ?_)
  have lz125 := hB.size
  have lz126 := h5.lt
  have lz127 := h10.lt
  have lz128 := h14.lt
  have lz129 := h15.lt
  have lz130 : g < wdz122.heap.size := (ho.lt rfl).2
  have lz131 : w.heap.size ≤ g := (ho.lt rfl).1
  refine wp_call2 (some 58) rfl 27 _ _ _ rfl (fun args w => by kernel_rfl) _ _ rfl rfl _ (l03Factor_c R H HRb.out hH3 _) (fun e Wz123 h => ?_)
  obtain ⟨rfl, bz124⟩ := h
  replace hB := below_after hB bz124
  replace h5 := h5.after bz124
  replace h10 := h10.after bz124
  replace h14 := h14.after bz124
  replace h15 := h15.after bz124
  replace ho := ho.below bz124
  clear bz124
  refine ⟨_, rfl, ?_⟩
  refine hK' _ _ ⟨hB, h15, h5, h14⟩ (fun _ => trivial) ?_
  clear hK' K'
  go_frame
  refine y_oper 11 (by kernel_rfl) rfl rfl (fun K' hK' => ?_)
  have lz134 := hB.size
  have lz135 := h5.lt
  have lz136 := h10.lt
  have lz137 := h14.lt
  have lz138 := h15.lt
  have lz139 : g < Wz123.heap.size := (ho.lt rfl).2
  have lz140 : w.heap.size ≤ g := (ho.lt rfl).1
  refine wp_call2 (some 61) rfl 27 _ _ _ rfl (fun args w => by kernel_rfl) _ _ rfl rfl _ (l03Factor_c Q H HQ.out hH3 _) (fun e Wz132 h => ?_)
  obtain ⟨rfl, bz133⟩ := h
  replace hB := below_after hB bz133
  replace h5 := h5.after bz133
  replace h10 := h10.after bz133
  replace h14 := h14.after bz133
  replace h15 := h15.after bz133
  replace ho := ho.below bz133
  clear bz133
  refine ⟨_, rfl, ?_⟩
  refine hK' _ _ ⟨hB, h15, h5, h14⟩ (fun _ => trivial) ?_
  clear hK' K'
  go_frame
  refine y_oper 14 (by kernel_rfl) rfl rfl (fun K' hK' => ?_)
  have lz143 := hB.size
  have lz144 := h5.lt
  have lz145 := h10.lt
  have lz146 := h14.lt
  have lz147 := h15.lt
  have lz148 : g < Wz132.heap.size := (ho.lt rfl).2
  have lz149 : w.heap.size ≤ g := (ho.lt rfl).1
  refine wp_call4 (some 64) rfl 39 _ _ _ _ _ rfl (fun args w => by kernel_rfl) _ _ _ _ rfl rfl rfl rfl _ (l01Add_c p (-s) (facQ R H) (facQ Q H) (facQ_bytes HRb.out hH3) (facQ_bytes HQ.out hH3) _ (by omega) (by omega) (by omega) (by omega)) (fun e Wz141 h => ?_)
  obtain ⟨rfl, bz142⟩ := h
  replace hB := below_after hB bz142
  replace h5 := h5.after bz142
  replace h10 := h10.after bz142
  replace h14 := h14.after bz142
  replace h15 := h15.after bz142
  replace ho := ho.below bz142
  rw [HF2.out]
  clear bz142
  refine ⟨_, rfl, ?_⟩
  refine hK' _ _ ⟨hB, h15, h5, h14⟩ (fun _ => trivial) ?_
  clear hK' K'
  go_frame
  refine y_oper 15 (by kernel_rfl) rfl rfl (fun K' hK' => ?_)
  have lz152 := hB.size
  have lz153 := h5.lt
  have lz154 := h10.lt
  have lz155 := h14.lt
  have lz156 := h15.lt
  have lz157 : g < Wz141.heap.size := (ho.lt rfl).2
  have lz158 : w.heap.size ≤ g := (ho.lt rfl).1
  refine wp_call3 (some 65) rfl 55 _ _ _ _ rfl (fun args w => by kernel_rfl) _ _ _ rfl rfl rfl _ (l03With_c R F2 H HRb.out HF2b.out hH3 _) (fun e Wz150 h => ?_)
  obtain ⟨rfl, bz151⟩ := h
  replace hB := below_after hB bz151
  replace h5 := h5.after bz151
  replace h10 := h10.after bz151
  replace h14 := h14.after bz151
  replace h15 := h15.after bz151
  replace ho := ho.below bz151
  rw [HR1.out]
  clear bz151
  refine ⟨_, rfl, ?_⟩
  refine hK' _ _ ⟨hB, h15, h5, h14⟩ (fun _ => trivial) ?_
  clear hK' K'
  go_frame
  refine y_yield 16 (some 66) (.pointer (some ⟨g, j * 27, none⟩)) rfl (by kernel_rfl) (by kernel_rfl) (by kernel_rfl) (fun _ _ _ h => h) rfl rfl ⟨hB, h15, h5, h14⟩ (fun w' h' => exec_ix0 _ 52 _ _ rfl g qs.length c7 j 27 rfl rfl Try.underlying26 (by kernel_rfl) (by omega)) ?_
  go_frame
  refine y_oper 17 (by kernel_rfl) rfl rfl (fun K' hK' => ?_)
  have lz162 := hB.size
  have lz163 := h5.lt
  have lz164 := h10.lt
  have lz165 := h14.lt
  have lz166 := h15.lt
  have lz167 : g < Wz150.heap.size := (ho.lt rfl).2
  have lz168 : w.heap.size ≤ g := (ho.lt rfl).1
  have nh5 := ne_blk (ho.off h5 (by decide))
  have nh10 := ne_blk (ho.off h10 (by decide))
  refine wp_store_own 52 _ _ rfl rfl g j rfl (R1) rfl ho (set_len27 HG27.out HQ1b.out.len) (by kernel_rfl) ((by rw [List.length_set]; exact hj)) HR1b.out.len (fun Wz159 hoz161 pz160 _ => ?_)
  replace hB := pz160.below hB (by omega)
  replace h5 := pz160.other h5 (by omega)
  replace h10 := pz160.other h10 (by omega)
  replace h14 := pz160.other h14 (by omega)
  replace h15 := pz160.other h15 (by omega)
  replace ho := hoz161
  refine hK' _ _ ⟨hB, h15, h5, h14⟩ (fun h => absurd (by decide) h) ?_
  clear hK' K' pz160 hoz161
  refine y_done (by kernel_rfl) ?_ _
  go_upto_region 6 with (fail)
  refine wp_region_lit ?_
  refine ls_ex (some 67) (.agg #[.int .i64 p, .int .i64 n, .int .i64 m, .int .i64 k, .slice (some ⟨a0, 0, none⟩) qs.length c]) rfl rfl (exec_load_all 28 _ rfl w.heap.size rfl _ _ _ h5 Try.underlying28 rfl 5 (by kernel_rfl) rfl) ?_
  go_frame
  refine ls_ex (some 68) (.slice (some ⟨g, 0, none⟩) qs.length c7) rfl rfl (exec_move _ rfl (.slice (some ⟨g, 0, none⟩) qs.length c7) rfl) ?_
  go_frame
  refine ls_op rfl (fun K' hK' => ?_)
  have lz171 := hB.size
  have lz172 := h5.lt
  have lz173 := h10.lt
  have lz174 := h14.lt
  have lz175 := h15.lt
  have lz176 : g < Wz159.heap.size := (ho.lt rfl).2
  have lz177 : w.heap.size ≤ g := (ho.lt rfl).1
  have lo8 := hB.size
  refine wp_call2 (some 69) rfl 56 _ _ _ rfl (fun args w => by kernel_rfl) _ _ rfl rfl _ (l03ToldN_c p n m k (some ⟨a0, 0, none⟩) qs.length c (some ⟨g, 0, none⟩) qs.length c7 ((qs.set i Q1).set j R1) _ (by rw [List.length_set, List.length_set]) (ho.rd' HL2b.out) (by rw [List.length_set, List.length_set]; omega)) (fun e Wz169 h => ?_)
  obtain ⟨v8, rfl, ho8, bz170⟩ := h
  replace hB := below_after hB bz170
  replace h5 := h5.after bz170
  replace h10 := h10.after bz170
  replace h14 := h14.after bz170
  replace h15 := h15.after bz170
  replace ho := ho.below bz170
  clear ho
  have ho := ho8
  clear ho8
  rw [HFl.out] at ho
  obtain ⟨A8, c8, rfl⟩ := Own.rdN2 ho (n := M8) HM8.out
  clear bz170
  refine ⟨_, rfl, ?_⟩
  refine hK' _ _ ?_
  clear hK' K'
  go_frame
  refine ls_op rfl (fun K' hK' => ?_)
  refine wp_store_all 28 _ _ rfl rfl Wz2.heap.size rfl #[.int .i64 p, .int .i64 n, .int .i64 m, .int .i64 k, .slice A8 M8 c8] rfl _ _ h10 5 (by kernel_rfl) rfl rfl (one5 _ _ _ _ _ _ _) (fun Wz178 pz179 => ?_)
  replace hB := pz179.below hB (by omega)
  replace h5 := pz179.other h5 (by omega)
  replace h14 := pz179.other h14 (by omega)
  replace h15 := pz179.other h15 (by omega)
  replace ho := ho.put pz179 (ho.off h10 (by decide))
  replace h10 : At Wz178 Wz2.heap.size (.cells #[.int .i64 p, .int .i64 n, .int .i64 m, .int .i64 k, .slice A8 M8 c8] 28 (0, 0)) := pz179.at_
  refine hK' _ _ ?_
  clear hK' K' pz179
  refine wpList_nil ?_
  go_wp2_with fail
  refine bodyPost_ret (results_at rfl _ _ Wz2.heap.size _ _ _ rfl h10 Try.underlying28 rfl 5 (by kernel_rfl) rfl) rfl ?_
  refine ⟨_, rfl, ?_, hB⟩
  rw [HFL.out]
  exact ho.mono (by omega)
set_option maxHeartbeats 4000000 in
theorem specFlipP_a (p n m k : Int) (a0 c : Nat) (qs : List (List Nat)) (i j f s : Int) (w : World) (hR : Rd w (some ⟨a0, 0, none⟩) qs) (hlen : qs.length ≤ 1048576) (hs : schemeB p n m k qs = false) :
    Calls Try.prog 8 #[.agg #[.int .i64 p, .int .i64 n, .int .i64 m, .int .i64 k, .slice (some ⟨a0, 0, none⟩) qs.length c], .int .i64 i, .int .i64 j, .int .i64 f, .int .i64 s] w (ResS w (fpZ (fpCode p n m k qs i j f s) p) (fpZ (fpCode p n m k qs i j f s) n) (fpZ (fpCode p n m k qs i j f s) m) (fpZ (fpCode p n m k qs i j f s) k) (fpL (fpCode p n m k qs i j f s) (fpQs p qs i j f s)) (fpCode p n m k qs i j f s)) := by
  have hB := Below.refl w.heap.size w
  have HC : Hid (fpCode p n m k qs i j f s = 1) := Lib.hid (by unfold fpCode; rw [hs]; rfl)
  have Hs := Lib.hid hs
  clear hs
  go_enter Try.func8, Try.ntmps8
  go_upto_region 0 with (fail)
  refine wp_region_lit ?_
  refine ls_op rfl (fun K' hK' => ?_)
  have lz1 := hB.size
  refine wp_new (some 5) rfl (exec_box 28 _ rfl (#[.int .i64 p, .int .i64 n, .int .i64 m, .int .i64 k, .slice (some ⟨a0, 0, none⟩) qs.length c]) rfl) (fun Wz2 nnz3 => ?_)
  have bz4 := nnz3.below (Below.refl _ _) (Nat.le_refl _)
  replace hB := below_after hB bz4
  have hz5 : At Wz2 w.heap.size (.cells #[.int .i64 p, .int .i64 n, .int .i64 m, .int .i64 k, .slice (some ⟨a0, 0, none⟩) qs.length c] 28 (0, 0)) := nnz3.at_
  refine hK' _ _ ?_
  clear hK' K' nnz3 bz4
  go_frame
  refine ls_op rfl (fun K' hK' => ?_)
  have lz6 := hB.size
  have lz7 := hz5.lt
  refine wp_new (some 10) rfl (al_impl_Scheme rfl) (fun Wz8 nnz9 => ?_)
  have bz10 := nnz9.below (Below.refl _ _) (Nat.le_refl _)
  replace hB := below_after hB bz10
  replace hz5 := hz5.after bz10
  have hz11 : At Wz8 Wz2.heap.size (.cells #[.int .i64 0, .int .i64 0, .int .i64 0, .int .i64 0, .slice none 0 0] 28 (0, 0)) := nnz9.at_
  refine hK' _ _ ?_
  clear hK' K' nnz9 bz10
  go_frame
  refine ls_ex (some 11) (.int .i64 0) rfl rfl (exec_assign _ rfl (.int .i64 0) rfl) ?_
  go_frame
  refine wpList_nil ?_
  go_upto_region 1 with (fail)
  refine wp_region_lit ?_
  refine ls_ex (some 13) (.agg #[.int .i64 p, .int .i64 n, .int .i64 m, .int .i64 k, .slice (some ⟨a0, 0, none⟩) qs.length c]) rfl rfl (exec_load_all 28 _ rfl w.heap.size rfl _ _ _ hz5 Try.underlying28 rfl 5 (by kernel_rfl) rfl) ?_
  go_frame
  refine ls_op rfl (fun K' hK' => ?_)
  have lz14 := hB.size
  have lz15 := hz5.lt
  have lz16 := hz11.lt
  refine wp_call1 (some 14) rfl 24 _ _ rfl (fun args w => by kernel_rfl) _ rfl _ (l01Is_c p n m k (some ⟨a0, 0, none⟩) c qs _ (hR.keep hB) (by omega)) (fun e Wz12 h => ?_)
  obtain ⟨rfl, bz13⟩ := h
  replace hB := below_after hB bz13
  replace hz5 := hz5.after bz13
  replace hz11 := hz11.after bz13
  rw [Hs.out]
  clear bz13
  refine ⟨_, rfl, ?_⟩
  refine hK' _ _ ?_
  clear hK' K'
  go_frame
  refine ls_ex (some 15) (.bool true) rfl rfl (exec_not _ _ rfl false rfl) ?_
  go_frame
  refine ls_ex (some 12) (.bool true) rfl rfl (exec_assign _ rfl (.bool true) rfl) ?_
  go_frame
  refine wpList_nil ?_
  go_upto_region 2 with (fail)
  refine wp_region_lit ?_
  refine ls_ex (some 16) (.agg #[.int .i64 0, .int .i64 0, .int .i64 0, .int .i64 0, .slice none 0 0]) rfl rfl (exec_build_nil 28 rfl _ (by kernel_rfl)) ?_
  go_frame
  refine ls_op rfl (fun K' hK' => ?_)
  refine wp_store_all 28 _ _ rfl rfl Wz2.heap.size rfl #[.int .i64 0, .int .i64 0, .int .i64 0, .int .i64 0, .slice none 0 0] rfl _ _ hz11 5 (by kernel_rfl) rfl rfl (one5 _ _ _ _ _ _ _) (fun Wz17 pz18 => ?_)
  replace hB := pz18.below hB (by omega)
  replace hz5 := pz18.other hz5 (by omega)
  replace hz11 : At Wz17 Wz2.heap.size (.cells #[.int .i64 0, .int .i64 0, .int .i64 0, .int .i64 0, .slice none 0 0] 28 (0, 0)) := pz18.at_
  refine hK' _ _ ?_
  clear hK' K' pz18
  refine ls_ex (some 11) (.int .i64 1) rfl rfl (exec_assign _ rfl (.int .i64 1) rfl) ?_
  go_frame
  refine wpList_nil ?_
  go_wp2_with fail
  refine bodyPost_ret (results_at2 rfl _ _ Wz2.heap.size _ _ _ rfl _ rfl hz11 Try.underlying28 rfl 5 (by kernel_rfl) rfl) rfl ?_
  unfold ResS fpZ fpL
  rw [HC.out]
  exact ⟨_, rfl, Own.nil _ _, hB⟩
set_option maxHeartbeats 4000000 in
theorem specFlipP_b (p n m k : Int) (a0 c : Nat) (qs : List (List Nat)) (i j f s : Int) (w : World) (hR : Rd w (some ⟨a0, 0, none⟩) qs) (hlen : qs.length ≤ 1048576) (hs : schemeB p n m k qs = true) (hi : inI i qs.length = false) :
    Calls Try.prog 8 #[.agg #[.int .i64 p, .int .i64 n, .int .i64 m, .int .i64 k, .slice (some ⟨a0, 0, none⟩) qs.length c], .int .i64 i, .int .i64 j, .int .i64 f, .int .i64 s] w (ResS w (fpZ (fpCode p n m k qs i j f s) p) (fpZ (fpCode p n m k qs i j f s) n) (fpZ (fpCode p n m k qs i j f s) m) (fpZ (fpCode p n m k qs i j f s) k) (fpL (fpCode p n m k qs i j f s) (fpQs p qs i j f s)) (fpCode p n m k qs i j f s)) := by
  have hB := Below.refl w.heap.size w
  have HC : Hid (fpCode p n m k qs i j f s = 2) := Lib.hid (by unfold fpCode; rw [hs, hi]; rfl)
  have Hs := Lib.hid hs
  have hp5 := primeB_5 (sizesB_parts (schemeB_sizes hs)).1
  have h30 := schemeB_len hs
  have HIi := Lib.hid hi
  have Hxs : Hid (([(i : Int), (j : Int)].all fun x => inI x qs.length) = false) := Lib.hid (by simp [hi])
  clear hs hi
  go_enter Try.func8, Try.ntmps8
  go_upto_region 0 with (fail)
  refine wp_region_lit ?_
  refine ls_op rfl (fun K' hK' => ?_)
  have lz1 := hB.size
  refine wp_new (some 5) rfl (exec_box 28 _ rfl (#[.int .i64 p, .int .i64 n, .int .i64 m, .int .i64 k, .slice (some ⟨a0, 0, none⟩) qs.length c]) rfl) (fun Wz2 nnz3 => ?_)
  have bz4 := nnz3.below (Below.refl _ _) (Nat.le_refl _)
  replace hB := below_after hB bz4
  have hz5 : At Wz2 w.heap.size (.cells #[.int .i64 p, .int .i64 n, .int .i64 m, .int .i64 k, .slice (some ⟨a0, 0, none⟩) qs.length c] 28 (0, 0)) := nnz3.at_
  refine hK' _ _ ?_
  clear hK' K' nnz3 bz4
  go_frame
  refine ls_op rfl (fun K' hK' => ?_)
  have lz6 := hB.size
  have lz7 := hz5.lt
  refine wp_new (some 10) rfl (al_impl_Scheme rfl) (fun Wz8 nnz9 => ?_)
  have bz10 := nnz9.below (Below.refl _ _) (Nat.le_refl _)
  replace hB := below_after hB bz10
  replace hz5 := hz5.after bz10
  have hz11 : At Wz8 Wz2.heap.size (.cells #[.int .i64 0, .int .i64 0, .int .i64 0, .int .i64 0, .slice none 0 0] 28 (0, 0)) := nnz9.at_
  refine hK' _ _ ?_
  clear hK' K' nnz9 bz10
  go_frame
  refine ls_ex (some 11) (.int .i64 0) rfl rfl (exec_assign _ rfl (.int .i64 0) rfl) ?_
  go_frame
  refine wpList_nil ?_
  go_upto_region 1 with (fail)
  refine wp_region_lit ?_
  refine ls_ex (some 13) (.agg #[.int .i64 p, .int .i64 n, .int .i64 m, .int .i64 k, .slice (some ⟨a0, 0, none⟩) qs.length c]) rfl rfl (exec_load_all 28 _ rfl w.heap.size rfl _ _ _ hz5 Try.underlying28 rfl 5 (by kernel_rfl) rfl) ?_
  go_frame
  refine ls_op rfl (fun K' hK' => ?_)
  have lz14 := hB.size
  have lz15 := hz5.lt
  have lz16 := hz11.lt
  refine wp_call1 (some 14) rfl 24 _ _ rfl (fun args w => by kernel_rfl) _ rfl _ (l01Is_c p n m k (some ⟨a0, 0, none⟩) c qs _ (hR.keep hB) (by omega)) (fun e Wz12 h => ?_)
  obtain ⟨rfl, bz13⟩ := h
  replace hB := below_after hB bz13
  replace hz5 := hz5.after bz13
  replace hz11 := hz11.after bz13
  rw [Hs.out]
  clear bz13
  refine ⟨_, rfl, ?_⟩
  refine hK' _ _ ?_
  clear hK' K'
  go_frame
  refine ls_ex (some 15) (.bool false) rfl rfl (exec_not _ _ rfl true rfl) ?_
  go_frame
  refine ls_ex (some 12) (.bool false) rfl rfl (exec_assign _ rfl (.bool false) rfl) ?_
  go_frame
  refine wpList_nil ?_
  go_upto_region 3 with (fail)
  refine wp_region_lit ?_
  refine ls_ex (some 18) (.agg #[.int .i64 p, .int .i64 n, .int .i64 m, .int .i64 k, .slice (some ⟨a0, 0, none⟩) qs.length c]) rfl rfl (exec_load_all 28 _ rfl w.heap.size rfl _ _ _ hz5 Try.underlying28 rfl 5 (by kernel_rfl) rfl) ?_
  go_frame
  refine ls_ex (some 19) (.int .i64 i) rfl rfl (exec_move _ rfl (.int .i64 i) rfl) ?_
  go_frame
  refine ls_ex (some 20) (.int .i64 j) rfl rfl (exec_move _ rfl (.int .i64 j) rfl) ?_
  go_frame
  refine ls_op rfl (fun K' hK' => ?_)
  have lz17 := hB.size
  have lz18 := hz5.lt
  have lz19 := hz11.lt
  refine wp_new (some 21) rfl (exec_bsi2 _ _ rfl i j rfl rfl) (fun Wz20 nnz21 => ?_)
  have bz22 := nnz21.below (Below.refl _ _) (Nat.le_refl _)
  replace hB := below_after hB bz22
  replace hz5 := hz5.after bz22
  replace hz11 := hz11.after bz22
  have hxz23 : At Wz20 Wz12.heap.size (.cells #[.int .i64 i, .int .i64 j] 2 (0, 0)) := nnz21.at_
  refine hK' _ _ ?_
  clear hK' K' nnz21 bz22
  go_frame
  refine ls_op rfl (fun K' hK' => ?_)
  have lz26 := hB.size
  have lz27 := hz5.lt
  have lz28 := hz11.lt
  have lz29 := hxz23.lt
  refine wp_call2 (some 22) rfl 25 _ _ _ rfl (fun args w => by kernel_rfl) _ _ rfl rfl _ (l03Numbers_c p n m k _ c qs.length (Wz12.heap.size) 2 [(i : Int), (j : Int)] _ (by omega) (by simp) (fun t ht => by match t, ht with | 0, _ => exact hxz23.at_ 0 | 1, _ => exact hxz23.at_ 1)) (fun e Wz24 h => ?_)
  obtain ⟨rfl, bz25⟩ := h
  replace hB := below_after hB bz25
  replace hz5 := hz5.after bz25
  replace hz11 := hz11.after bz25
  replace hxz23 := hxz23.after bz25
  rw [Hxs.out]
  clear bz25
  refine ⟨_, rfl, ?_⟩
  refine hK' _ _ ?_
  clear hK' K'
  go_frame
  refine ls_ex (some 23) (.bool true) rfl rfl (exec_not _ _ rfl false rfl) ?_
  go_frame
  refine ls_ex (some 24) (.bool true) rfl rfl (exec_move _ rfl (.bool true) rfl) ?_
  go_frame
  refine ls_skip_g (some 25) rfl rfl ?_
  go_frame
  refine ls_skip_g (some 26) rfl rfl ?_
  go_frame
  refine ls_skip_g (some 27) rfl rfl ?_
  go_frame
  refine ls_ex (some 28) (.bool true) rfl rfl (exec_pick _ _ _ rfl true rfl (.bool true) rfl) ?_
  go_frame
  refine ls_ex (some 29) (.bool true) rfl rfl (exec_move _ rfl (.bool true) rfl) ?_
  go_frame
  refine ls_skip_g (some 30) rfl rfl ?_
  go_frame
  refine ls_skip_g (some 31) rfl rfl ?_
  go_frame
  refine ls_skip_g (some 32) rfl rfl ?_
  go_frame
  refine ls_skip_g (some 33) rfl rfl ?_
  go_frame
  refine ls_skip_g (some 34) rfl rfl ?_
  go_frame
  refine ls_skip_g (some 35) rfl rfl ?_
  go_frame
  refine ls_ex (some 36) (.bool true) rfl rfl (exec_pick _ _ _ rfl true rfl (.bool true) rfl) ?_
  go_frame
  refine ls_ex (some 17) (.bool true) rfl rfl (exec_assign _ rfl (.bool true) rfl) ?_
  go_frame
  refine wpList_nil ?_
  go_upto_region 4 with (fail)
  refine wp_region_lit ?_
  refine ls_ex (some 37) (.agg #[.int .i64 0, .int .i64 0, .int .i64 0, .int .i64 0, .slice none 0 0]) rfl rfl (exec_build_nil 28 rfl _ (by kernel_rfl)) ?_
  go_frame
  refine ls_op rfl (fun K' hK' => ?_)
  refine wp_store_all 28 _ _ rfl rfl Wz2.heap.size rfl #[.int .i64 0, .int .i64 0, .int .i64 0, .int .i64 0, .slice none 0 0] rfl _ _ hz11 5 (by kernel_rfl) rfl rfl (one5 _ _ _ _ _ _ _) (fun Wz30 pz31 => ?_)
  replace hB := pz31.below hB (by omega)
  replace hz5 := pz31.other hz5 (by omega)
  replace hxz23 := pz31.other hxz23 (by omega)
  replace hz11 : At Wz30 Wz2.heap.size (.cells #[.int .i64 0, .int .i64 0, .int .i64 0, .int .i64 0, .slice none 0 0] 28 (0, 0)) := pz31.at_
  refine hK' _ _ ?_
  clear hK' K' pz31
  refine ls_ex (some 11) (.int .i64 2) rfl rfl (exec_assign _ rfl (.int .i64 2) rfl) ?_
  go_frame
  refine wpList_nil ?_
  go_wp2_with fail
  refine bodyPost_ret (results_at2 rfl _ _ Wz2.heap.size _ _ _ rfl _ rfl hz11 Try.underlying28 rfl 5 (by kernel_rfl) rfl) rfl ?_
  unfold ResS fpZ fpL
  rw [HC.out]
  exact ⟨_, rfl, Own.nil _ _, hB⟩
set_option maxHeartbeats 4000000 in
theorem specFlipP_b2 (p n m k : Int) (a0 c : Nat) (qs : List (List Nat)) (i j f s : Int) (w : World) (hR : Rd w (some ⟨a0, 0, none⟩) qs) (hlen : qs.length ≤ 1048576) (hs : schemeB p n m k qs = true) (hi : inI i qs.length = true) (hj : inI j qs.length = false) :
    Calls Try.prog 8 #[.agg #[.int .i64 p, .int .i64 n, .int .i64 m, .int .i64 k, .slice (some ⟨a0, 0, none⟩) qs.length c], .int .i64 i, .int .i64 j, .int .i64 f, .int .i64 s] w (ResS w (fpZ (fpCode p n m k qs i j f s) p) (fpZ (fpCode p n m k qs i j f s) n) (fpZ (fpCode p n m k qs i j f s) m) (fpZ (fpCode p n m k qs i j f s) k) (fpL (fpCode p n m k qs i j f s) (fpQs p qs i j f s)) (fpCode p n m k qs i j f s)) := by
  have hB := Below.refl w.heap.size w
  have HC : Hid (fpCode p n m k qs i j f s = 2) := Lib.hid (by unfold fpCode; rw [hs, hi, hj]; rfl)
  have Hs := Lib.hid hs
  have hp5 := primeB_5 (sizesB_parts (schemeB_sizes hs)).1
  have h30 := schemeB_len hs
  have HIi := Lib.hid hi
  have HIj := Lib.hid hj
  have Hxs : Hid (([(i : Int), (j : Int)].all fun x => inI x qs.length) = false) := Lib.hid (by simp [hi, hj])
  clear hs hi hj
  go_enter Try.func8, Try.ntmps8
  go_upto_region 0 with (fail)
  refine wp_region_lit ?_
  refine ls_op rfl (fun K' hK' => ?_)
  have lz1 := hB.size
  refine wp_new (some 5) rfl (exec_box 28 _ rfl (#[.int .i64 p, .int .i64 n, .int .i64 m, .int .i64 k, .slice (some ⟨a0, 0, none⟩) qs.length c]) rfl) (fun Wz2 nnz3 => ?_)
  have bz4 := nnz3.below (Below.refl _ _) (Nat.le_refl _)
  replace hB := below_after hB bz4
  have hz5 : At Wz2 w.heap.size (.cells #[.int .i64 p, .int .i64 n, .int .i64 m, .int .i64 k, .slice (some ⟨a0, 0, none⟩) qs.length c] 28 (0, 0)) := nnz3.at_
  refine hK' _ _ ?_
  clear hK' K' nnz3 bz4
  go_frame
  refine ls_op rfl (fun K' hK' => ?_)
  have lz6 := hB.size
  have lz7 := hz5.lt
  refine wp_new (some 10) rfl (al_impl_Scheme rfl) (fun Wz8 nnz9 => ?_)
  have bz10 := nnz9.below (Below.refl _ _) (Nat.le_refl _)
  replace hB := below_after hB bz10
  replace hz5 := hz5.after bz10
  have hz11 : At Wz8 Wz2.heap.size (.cells #[.int .i64 0, .int .i64 0, .int .i64 0, .int .i64 0, .slice none 0 0] 28 (0, 0)) := nnz9.at_
  refine hK' _ _ ?_
  clear hK' K' nnz9 bz10
  go_frame
  refine ls_ex (some 11) (.int .i64 0) rfl rfl (exec_assign _ rfl (.int .i64 0) rfl) ?_
  go_frame
  refine wpList_nil ?_
  go_upto_region 1 with (fail)
  refine wp_region_lit ?_
  refine ls_ex (some 13) (.agg #[.int .i64 p, .int .i64 n, .int .i64 m, .int .i64 k, .slice (some ⟨a0, 0, none⟩) qs.length c]) rfl rfl (exec_load_all 28 _ rfl w.heap.size rfl _ _ _ hz5 Try.underlying28 rfl 5 (by kernel_rfl) rfl) ?_
  go_frame
  refine ls_op rfl (fun K' hK' => ?_)
  have lz14 := hB.size
  have lz15 := hz5.lt
  have lz16 := hz11.lt
  refine wp_call1 (some 14) rfl 24 _ _ rfl (fun args w => by kernel_rfl) _ rfl _ (l01Is_c p n m k (some ⟨a0, 0, none⟩) c qs _ (hR.keep hB) (by omega)) (fun e Wz12 h => ?_)
  obtain ⟨rfl, bz13⟩ := h
  replace hB := below_after hB bz13
  replace hz5 := hz5.after bz13
  replace hz11 := hz11.after bz13
  rw [Hs.out]
  clear bz13
  refine ⟨_, rfl, ?_⟩
  refine hK' _ _ ?_
  clear hK' K'
  go_frame
  refine ls_ex (some 15) (.bool false) rfl rfl (exec_not _ _ rfl true rfl) ?_
  go_frame
  refine ls_ex (some 12) (.bool false) rfl rfl (exec_assign _ rfl (.bool false) rfl) ?_
  go_frame
  refine wpList_nil ?_
  go_upto_region 3 with (fail)
  refine wp_region_lit ?_
  refine ls_ex (some 18) (.agg #[.int .i64 p, .int .i64 n, .int .i64 m, .int .i64 k, .slice (some ⟨a0, 0, none⟩) qs.length c]) rfl rfl (exec_load_all 28 _ rfl w.heap.size rfl _ _ _ hz5 Try.underlying28 rfl 5 (by kernel_rfl) rfl) ?_
  go_frame
  refine ls_ex (some 19) (.int .i64 i) rfl rfl (exec_move _ rfl (.int .i64 i) rfl) ?_
  go_frame
  refine ls_ex (some 20) (.int .i64 j) rfl rfl (exec_move _ rfl (.int .i64 j) rfl) ?_
  go_frame
  refine ls_op rfl (fun K' hK' => ?_)
  have lz17 := hB.size
  have lz18 := hz5.lt
  have lz19 := hz11.lt
  refine wp_new (some 21) rfl (exec_bsi2 _ _ rfl i j rfl rfl) (fun Wz20 nnz21 => ?_)
  have bz22 := nnz21.below (Below.refl _ _) (Nat.le_refl _)
  replace hB := below_after hB bz22
  replace hz5 := hz5.after bz22
  replace hz11 := hz11.after bz22
  have hxz23 : At Wz20 Wz12.heap.size (.cells #[.int .i64 i, .int .i64 j] 2 (0, 0)) := nnz21.at_
  refine hK' _ _ ?_
  clear hK' K' nnz21 bz22
  go_frame
  refine ls_op rfl (fun K' hK' => ?_)
  have lz26 := hB.size
  have lz27 := hz5.lt
  have lz28 := hz11.lt
  have lz29 := hxz23.lt
  refine wp_call2 (some 22) rfl 25 _ _ _ rfl (fun args w => by kernel_rfl) _ _ rfl rfl _ (l03Numbers_c p n m k _ c qs.length (Wz12.heap.size) 2 [(i : Int), (j : Int)] _ (by omega) (by simp) (fun t ht => by match t, ht with | 0, _ => exact hxz23.at_ 0 | 1, _ => exact hxz23.at_ 1)) (fun e Wz24 h => ?_)
  obtain ⟨rfl, bz25⟩ := h
  replace hB := below_after hB bz25
  replace hz5 := hz5.after bz25
  replace hz11 := hz11.after bz25
  replace hxz23 := hxz23.after bz25
  rw [Hxs.out]
  clear bz25
  refine ⟨_, rfl, ?_⟩
  refine hK' _ _ ?_
  clear hK' K'
  go_frame
  refine ls_ex (some 23) (.bool true) rfl rfl (exec_not _ _ rfl false rfl) ?_
  go_frame
  refine ls_ex (some 24) (.bool true) rfl rfl (exec_move _ rfl (.bool true) rfl) ?_
  go_frame
  refine ls_skip_g (some 25) rfl rfl ?_
  go_frame
  refine ls_skip_g (some 26) rfl rfl ?_
  go_frame
  refine ls_skip_g (some 27) rfl rfl ?_
  go_frame
  refine ls_ex (some 28) (.bool true) rfl rfl (exec_pick _ _ _ rfl true rfl (.bool true) rfl) ?_
  go_frame
  refine ls_ex (some 29) (.bool true) rfl rfl (exec_move _ rfl (.bool true) rfl) ?_
  go_frame
  refine ls_skip_g (some 30) rfl rfl ?_
  go_frame
  refine ls_skip_g (some 31) rfl rfl ?_
  go_frame
  refine ls_skip_g (some 32) rfl rfl ?_
  go_frame
  refine ls_skip_g (some 33) rfl rfl ?_
  go_frame
  refine ls_skip_g (some 34) rfl rfl ?_
  go_frame
  refine ls_skip_g (some 35) rfl rfl ?_
  go_frame
  refine ls_ex (some 36) (.bool true) rfl rfl (exec_pick _ _ _ rfl true rfl (.bool true) rfl) ?_
  go_frame
  refine ls_ex (some 17) (.bool true) rfl rfl (exec_assign _ rfl (.bool true) rfl) ?_
  go_frame
  refine wpList_nil ?_
  go_upto_region 4 with (fail)
  refine wp_region_lit ?_
  refine ls_ex (some 37) (.agg #[.int .i64 0, .int .i64 0, .int .i64 0, .int .i64 0, .slice none 0 0]) rfl rfl (exec_build_nil 28 rfl _ (by kernel_rfl)) ?_
  go_frame
  refine ls_op rfl (fun K' hK' => ?_)
  refine wp_store_all 28 _ _ rfl rfl Wz2.heap.size rfl #[.int .i64 0, .int .i64 0, .int .i64 0, .int .i64 0, .slice none 0 0] rfl _ _ hz11 5 (by kernel_rfl) rfl rfl (one5 _ _ _ _ _ _ _) (fun Wz30 pz31 => ?_)
  replace hB := pz31.below hB (by omega)
  replace hz5 := pz31.other hz5 (by omega)
  replace hxz23 := pz31.other hxz23 (by omega)
  replace hz11 : At Wz30 Wz2.heap.size (.cells #[.int .i64 0, .int .i64 0, .int .i64 0, .int .i64 0, .slice none 0 0] 28 (0, 0)) := pz31.at_
  refine hK' _ _ ?_
  clear hK' K' pz31
  refine ls_ex (some 11) (.int .i64 2) rfl rfl (exec_assign _ rfl (.int .i64 2) rfl) ?_
  go_frame
  refine wpList_nil ?_
  go_wp2_with fail
  refine bodyPost_ret (results_at2 rfl _ _ Wz2.heap.size _ _ _ rfl _ rfl hz11 Try.underlying28 rfl 5 (by kernel_rfl) rfl) rfl ?_
  unfold ResS fpZ fpL
  rw [HC.out]
  exact ⟨_, rfl, Own.nil _ _, hB⟩
set_option maxHeartbeats 4000000 in
theorem specFlipP_c (p n m k : Int) (a0 c : Nat) (qs : List (List Nat)) (i j f s : Int) (w : World) (hR : Rd w (some ⟨a0, 0, none⟩) qs) (hlen : qs.length ≤ 1048576) (hs : schemeB p n m k qs = true) (hi : inI i qs.length = true) (hj : inI j qs.length = true) (hf : inI f 3 = false) :
    Calls Try.prog 8 #[.agg #[.int .i64 p, .int .i64 n, .int .i64 m, .int .i64 k, .slice (some ⟨a0, 0, none⟩) qs.length c], .int .i64 i, .int .i64 j, .int .i64 f, .int .i64 s] w (ResS w (fpZ (fpCode p n m k qs i j f s) p) (fpZ (fpCode p n m k qs i j f s) n) (fpZ (fpCode p n m k qs i j f s) m) (fpZ (fpCode p n m k qs i j f s) k) (fpL (fpCode p n m k qs i j f s) (fpQs p qs i j f s)) (fpCode p n m k qs i j f s)) := by
  have hB := Below.refl w.heap.size w
  have HC : Hid (fpCode p n m k qs i j f s = 2) := Lib.hid (by unfold fpCode; rw [hs, hi, hj, hf]; rfl)
  have Hs := Lib.hid hs
  have hp5 := primeB_5 (sizesB_parts (schemeB_sizes hs)).1
  have h30 := schemeB_len hs
  have HIi := Lib.hid hi
  have HIj := Lib.hid hj
  have HIf := Lib.hid hf
  have Hxs : Hid (([(i : Int), (j : Int)].all fun x => inI x qs.length) = true) := Lib.hid (by simp [hi, hj])
  have Hf2 : Hid ((decide (0 ≤ f) && decide (f ≤ 2)) = false) := Lib.hid (by rw [← hf]; exact inI_sub f 3)
  clear hs hi hj hf
  go_enter Try.func8, Try.ntmps8
  go_upto_region 0 with (fail)
  refine wp_region_lit ?_
  refine ls_op rfl (fun K' hK' => ?_)
  have lz1 := hB.size
  refine wp_new (some 5) rfl (exec_box 28 _ rfl (#[.int .i64 p, .int .i64 n, .int .i64 m, .int .i64 k, .slice (some ⟨a0, 0, none⟩) qs.length c]) rfl) (fun Wz2 nnz3 => ?_)
  have bz4 := nnz3.below (Below.refl _ _) (Nat.le_refl _)
  replace hB := below_after hB bz4
  have hz5 : At Wz2 w.heap.size (.cells #[.int .i64 p, .int .i64 n, .int .i64 m, .int .i64 k, .slice (some ⟨a0, 0, none⟩) qs.length c] 28 (0, 0)) := nnz3.at_
  refine hK' _ _ ?_
  clear hK' K' nnz3 bz4
  go_frame
  refine ls_op rfl (fun K' hK' => ?_)
  have lz6 := hB.size
  have lz7 := hz5.lt
  refine wp_new (some 10) rfl (al_impl_Scheme rfl) (fun Wz8 nnz9 => ?_)
  have bz10 := nnz9.below (Below.refl _ _) (Nat.le_refl _)
  replace hB := below_after hB bz10
  replace hz5 := hz5.after bz10
  have hz11 : At Wz8 Wz2.heap.size (.cells #[.int .i64 0, .int .i64 0, .int .i64 0, .int .i64 0, .slice none 0 0] 28 (0, 0)) := nnz9.at_
  refine hK' _ _ ?_
  clear hK' K' nnz9 bz10
  go_frame
  refine ls_ex (some 11) (.int .i64 0) rfl rfl (exec_assign _ rfl (.int .i64 0) rfl) ?_
  go_frame
  refine wpList_nil ?_
  go_upto_region 1 with (fail)
  refine wp_region_lit ?_
  refine ls_ex (some 13) (.agg #[.int .i64 p, .int .i64 n, .int .i64 m, .int .i64 k, .slice (some ⟨a0, 0, none⟩) qs.length c]) rfl rfl (exec_load_all 28 _ rfl w.heap.size rfl _ _ _ hz5 Try.underlying28 rfl 5 (by kernel_rfl) rfl) ?_
  go_frame
  refine ls_op rfl (fun K' hK' => ?_)
  have lz14 := hB.size
  have lz15 := hz5.lt
  have lz16 := hz11.lt
  refine wp_call1 (some 14) rfl 24 _ _ rfl (fun args w => by kernel_rfl) _ rfl _ (l01Is_c p n m k (some ⟨a0, 0, none⟩) c qs _ (hR.keep hB) (by omega)) (fun e Wz12 h => ?_)
  obtain ⟨rfl, bz13⟩ := h
  replace hB := below_after hB bz13
  replace hz5 := hz5.after bz13
  replace hz11 := hz11.after bz13
  rw [Hs.out]
  clear bz13
  refine ⟨_, rfl, ?_⟩
  refine hK' _ _ ?_
  clear hK' K'
  go_frame
  refine ls_ex (some 15) (.bool false) rfl rfl (exec_not _ _ rfl true rfl) ?_
  go_frame
  refine ls_ex (some 12) (.bool false) rfl rfl (exec_assign _ rfl (.bool false) rfl) ?_
  go_frame
  refine wpList_nil ?_
  go_upto_region 3 with (fail)
  refine wp_region_lit ?_
  refine ls_ex (some 18) (.agg #[.int .i64 p, .int .i64 n, .int .i64 m, .int .i64 k, .slice (some ⟨a0, 0, none⟩) qs.length c]) rfl rfl (exec_load_all 28 _ rfl w.heap.size rfl _ _ _ hz5 Try.underlying28 rfl 5 (by kernel_rfl) rfl) ?_
  go_frame
  refine ls_ex (some 19) (.int .i64 i) rfl rfl (exec_move _ rfl (.int .i64 i) rfl) ?_
  go_frame
  refine ls_ex (some 20) (.int .i64 j) rfl rfl (exec_move _ rfl (.int .i64 j) rfl) ?_
  go_frame
  refine ls_op rfl (fun K' hK' => ?_)
  have lz17 := hB.size
  have lz18 := hz5.lt
  have lz19 := hz11.lt
  refine wp_new (some 21) rfl (exec_bsi2 _ _ rfl i j rfl rfl) (fun Wz20 nnz21 => ?_)
  have bz22 := nnz21.below (Below.refl _ _) (Nat.le_refl _)
  replace hB := below_after hB bz22
  replace hz5 := hz5.after bz22
  replace hz11 := hz11.after bz22
  have hxz23 : At Wz20 Wz12.heap.size (.cells #[.int .i64 i, .int .i64 j] 2 (0, 0)) := nnz21.at_
  refine hK' _ _ ?_
  clear hK' K' nnz21 bz22
  go_frame
  refine ls_op rfl (fun K' hK' => ?_)
  have lz26 := hB.size
  have lz27 := hz5.lt
  have lz28 := hz11.lt
  have lz29 := hxz23.lt
  refine wp_call2 (some 22) rfl 25 _ _ _ rfl (fun args w => by kernel_rfl) _ _ rfl rfl _ (l03Numbers_c p n m k _ c qs.length (Wz12.heap.size) 2 [(i : Int), (j : Int)] _ (by omega) (by simp) (fun t ht => by match t, ht with | 0, _ => exact hxz23.at_ 0 | 1, _ => exact hxz23.at_ 1)) (fun e Wz24 h => ?_)
  obtain ⟨rfl, bz25⟩ := h
  replace hB := below_after hB bz25
  replace hz5 := hz5.after bz25
  replace hz11 := hz11.after bz25
  replace hxz23 := hxz23.after bz25
  rw [Hxs.out]
  clear bz25
  refine ⟨_, rfl, ?_⟩
  refine hK' _ _ ?_
  clear hK' K'
  go_frame
  refine ls_ex (some 23) (.bool false) rfl rfl (exec_not _ _ rfl true rfl) ?_
  go_frame
  refine ls_ex (some 24) (.bool false) rfl rfl (exec_move _ rfl (.bool false) rfl) ?_
  go_frame
  refine ls_ex_g (some 25) (.int .i64 f) rfl rfl (exec_move _ rfl (.int .i64 f) rfl) ?_
  go_frame
  refine ls_op_g rfl (fun K' hK' => ?_)
  have lz32 := hB.size
  have lz33 := hz5.lt
  have lz34 := hz11.lt
  have lz35 := hxz23.lt
  refine wp_call3 (some 26) rfl 26 _ _ _ _ rfl (fun args w => by kernel_rfl) _ _ _ rfl rfl rfl _ (l01In_c f 0 2 _) (fun e Wz30 h => ?_)
  obtain ⟨rfl, rfl⟩ := h
  rw [Hf2.out]
  refine ⟨_, rfl, ?_⟩
  refine hK' _ _ ?_
  clear hK' K'
  go_frame
  refine ls_ex_g (some 27) (.bool true) rfl rfl (exec_not _ _ rfl false rfl) ?_
  go_frame
  refine ls_ex (some 28) (.bool true) rfl rfl (exec_pick _ _ _ rfl false rfl (.bool true) rfl) ?_
  go_frame
  refine ls_ex (some 29) (.bool true) rfl rfl (exec_move _ rfl (.bool true) rfl) ?_
  go_frame
  refine ls_skip_g (some 30) rfl rfl ?_
  go_frame
  refine ls_skip_g (some 31) rfl rfl ?_
  go_frame
  refine ls_skip_g (some 32) rfl rfl ?_
  go_frame
  refine ls_skip_g (some 33) rfl rfl ?_
  go_frame
  refine ls_skip_g (some 34) rfl rfl ?_
  go_frame
  refine ls_skip_g (some 35) rfl rfl ?_
  go_frame
  refine ls_ex (some 36) (.bool true) rfl rfl (exec_pick _ _ _ rfl true rfl (.bool true) rfl) ?_
  go_frame
  refine ls_ex (some 17) (.bool true) rfl rfl (exec_assign _ rfl (.bool true) rfl) ?_
  go_frame
  refine wpList_nil ?_
  go_upto_region 4 with (fail)
  refine wp_region_lit ?_
  refine ls_ex (some 37) (.agg #[.int .i64 0, .int .i64 0, .int .i64 0, .int .i64 0, .slice none 0 0]) rfl rfl (exec_build_nil 28 rfl _ (by kernel_rfl)) ?_
  go_frame
  refine ls_op rfl (fun K' hK' => ?_)
  refine wp_store_all 28 _ _ rfl rfl Wz2.heap.size rfl #[.int .i64 0, .int .i64 0, .int .i64 0, .int .i64 0, .slice none 0 0] rfl _ _ hz11 5 (by kernel_rfl) rfl rfl (one5 _ _ _ _ _ _ _) (fun Wz36 pz37 => ?_)
  replace hB := pz37.below hB (by omega)
  replace hz5 := pz37.other hz5 (by omega)
  replace hxz23 := pz37.other hxz23 (by omega)
  replace hz11 : At Wz36 Wz2.heap.size (.cells #[.int .i64 0, .int .i64 0, .int .i64 0, .int .i64 0, .slice none 0 0] 28 (0, 0)) := pz37.at_
  refine hK' _ _ ?_
  clear hK' K' pz37
  refine ls_ex (some 11) (.int .i64 2) rfl rfl (exec_assign _ rfl (.int .i64 2) rfl) ?_
  go_frame
  refine wpList_nil ?_
  go_wp2_with fail
  refine bodyPost_ret (results_at2 rfl _ _ Wz2.heap.size _ _ _ rfl _ rfl hz11 Try.underlying28 rfl 5 (by kernel_rfl) rfl) rfl ?_
  unfold ResS fpZ fpL
  rw [HC.out]
  exact ⟨_, rfl, Own.nil _ _, hB⟩
set_option maxHeartbeats 4000000 in
theorem specFlipP_d (p n m k : Int) (a0 c : Nat) (qs : List (List Nat)) (i j f s : Int) (w : World) (hR : Rd w (some ⟨a0, 0, none⟩) qs) (hlen : qs.length ≤ 1048576) (hs : schemeB p n m k qs = true) (hi : inI i qs.length = true) (hj : inI j qs.length = true) (hf : inI f 3 = true) (hr : s < 1) :
    Calls Try.prog 8 #[.agg #[.int .i64 p, .int .i64 n, .int .i64 m, .int .i64 k, .slice (some ⟨a0, 0, none⟩) qs.length c], .int .i64 i, .int .i64 j, .int .i64 f, .int .i64 s] w (ResS w (fpZ (fpCode p n m k qs i j f s) p) (fpZ (fpCode p n m k qs i j f s) n) (fpZ (fpCode p n m k qs i j f s) m) (fpZ (fpCode p n m k qs i j f s) k) (fpL (fpCode p n m k qs i j f s) (fpQs p qs i j f s)) (fpCode p n m k qs i j f s)) := by
  have hB := Below.refl w.heap.size w
  have hsr : (decide (1 ≤ s) && decide (s ≤ p - 1)) = false := by rw [decide_eq_false (by omega : ¬ 1 ≤ s)]; rfl
  have HC : Hid (fpCode p n m k qs i j f s = 2) := Lib.hid (by unfold fpCode; rw [hs, hi, hj, hf, hsr]; rfl)
  have Hsn := Lib.hid hsr
  have Hs := Lib.hid hs
  have hp5 := primeB_5 (sizesB_parts (schemeB_sizes hs)).1
  have h30 := schemeB_len hs
  have HIi := Lib.hid hi
  have HIj := Lib.hid hj
  have HIf := Lib.hid hf
  have Hxs : Hid (([(i : Int), (j : Int)].all fun x => inI x qs.length) = true) := Lib.hid (by simp [hi, hj])
  have Hf2 : Hid ((decide (0 ≤ f) && decide (f ≤ 2)) = true) := Lib.hid (by rw [← hf]; exact inI_sub f 3)
  clear hs hi hj hf
  clear hsr
  go_enter Try.func8, Try.ntmps8
  go_upto_region 0 with (fail)
  refine wp_region_lit ?_
  refine ls_op rfl (fun K' hK' => ?_)
  have lz1 := hB.size
  refine wp_new (some 5) rfl (exec_box 28 _ rfl (#[.int .i64 p, .int .i64 n, .int .i64 m, .int .i64 k, .slice (some ⟨a0, 0, none⟩) qs.length c]) rfl) (fun Wz2 nnz3 => ?_)
  have bz4 := nnz3.below (Below.refl _ _) (Nat.le_refl _)
  replace hB := below_after hB bz4
  have hz5 : At Wz2 w.heap.size (.cells #[.int .i64 p, .int .i64 n, .int .i64 m, .int .i64 k, .slice (some ⟨a0, 0, none⟩) qs.length c] 28 (0, 0)) := nnz3.at_
  refine hK' _ _ ?_
  clear hK' K' nnz3 bz4
  go_frame
  refine ls_op rfl (fun K' hK' => ?_)
  have lz6 := hB.size
  have lz7 := hz5.lt
  refine wp_new (some 10) rfl (al_impl_Scheme rfl) (fun Wz8 nnz9 => ?_)
  have bz10 := nnz9.below (Below.refl _ _) (Nat.le_refl _)
  replace hB := below_after hB bz10
  replace hz5 := hz5.after bz10
  have hz11 : At Wz8 Wz2.heap.size (.cells #[.int .i64 0, .int .i64 0, .int .i64 0, .int .i64 0, .slice none 0 0] 28 (0, 0)) := nnz9.at_
  refine hK' _ _ ?_
  clear hK' K' nnz9 bz10
  go_frame
  refine ls_ex (some 11) (.int .i64 0) rfl rfl (exec_assign _ rfl (.int .i64 0) rfl) ?_
  go_frame
  refine wpList_nil ?_
  go_upto_region 1 with (fail)
  refine wp_region_lit ?_
  refine ls_ex (some 13) (.agg #[.int .i64 p, .int .i64 n, .int .i64 m, .int .i64 k, .slice (some ⟨a0, 0, none⟩) qs.length c]) rfl rfl (exec_load_all 28 _ rfl w.heap.size rfl _ _ _ hz5 Try.underlying28 rfl 5 (by kernel_rfl) rfl) ?_
  go_frame
  refine ls_op rfl (fun K' hK' => ?_)
  have lz14 := hB.size
  have lz15 := hz5.lt
  have lz16 := hz11.lt
  refine wp_call1 (some 14) rfl 24 _ _ rfl (fun args w => by kernel_rfl) _ rfl _ (l01Is_c p n m k (some ⟨a0, 0, none⟩) c qs _ (hR.keep hB) (by omega)) (fun e Wz12 h => ?_)
  obtain ⟨rfl, bz13⟩ := h
  replace hB := below_after hB bz13
  replace hz5 := hz5.after bz13
  replace hz11 := hz11.after bz13
  rw [Hs.out]
  clear bz13
  refine ⟨_, rfl, ?_⟩
  refine hK' _ _ ?_
  clear hK' K'
  go_frame
  refine ls_ex (some 15) (.bool false) rfl rfl (exec_not _ _ rfl true rfl) ?_
  go_frame
  refine ls_ex (some 12) (.bool false) rfl rfl (exec_assign _ rfl (.bool false) rfl) ?_
  go_frame
  refine wpList_nil ?_
  go_upto_region 3 with (fail)
  refine wp_region_lit ?_
  refine ls_ex (some 18) (.agg #[.int .i64 p, .int .i64 n, .int .i64 m, .int .i64 k, .slice (some ⟨a0, 0, none⟩) qs.length c]) rfl rfl (exec_load_all 28 _ rfl w.heap.size rfl _ _ _ hz5 Try.underlying28 rfl 5 (by kernel_rfl) rfl) ?_
  go_frame
  refine ls_ex (some 19) (.int .i64 i) rfl rfl (exec_move _ rfl (.int .i64 i) rfl) ?_
  go_frame
  refine ls_ex (some 20) (.int .i64 j) rfl rfl (exec_move _ rfl (.int .i64 j) rfl) ?_
  go_frame
  refine ls_op rfl (fun K' hK' => ?_)
  have lz17 := hB.size
  have lz18 := hz5.lt
  have lz19 := hz11.lt
  refine wp_new (some 21) rfl (exec_bsi2 _ _ rfl i j rfl rfl) (fun Wz20 nnz21 => ?_)
  have bz22 := nnz21.below (Below.refl _ _) (Nat.le_refl _)
  replace hB := below_after hB bz22
  replace hz5 := hz5.after bz22
  replace hz11 := hz11.after bz22
  have hxz23 : At Wz20 Wz12.heap.size (.cells #[.int .i64 i, .int .i64 j] 2 (0, 0)) := nnz21.at_
  refine hK' _ _ ?_
  clear hK' K' nnz21 bz22
  go_frame
  refine ls_op rfl (fun K' hK' => ?_)
  have lz26 := hB.size
  have lz27 := hz5.lt
  have lz28 := hz11.lt
  have lz29 := hxz23.lt
  refine wp_call2 (some 22) rfl 25 _ _ _ rfl (fun args w => by kernel_rfl) _ _ rfl rfl _ (l03Numbers_c p n m k _ c qs.length (Wz12.heap.size) 2 [(i : Int), (j : Int)] _ (by omega) (by simp) (fun t ht => by match t, ht with | 0, _ => exact hxz23.at_ 0 | 1, _ => exact hxz23.at_ 1)) (fun e Wz24 h => ?_)
  obtain ⟨rfl, bz25⟩ := h
  replace hB := below_after hB bz25
  replace hz5 := hz5.after bz25
  replace hz11 := hz11.after bz25
  replace hxz23 := hxz23.after bz25
  rw [Hxs.out]
  clear bz25
  refine ⟨_, rfl, ?_⟩
  refine hK' _ _ ?_
  clear hK' K'
  go_frame
  refine ls_ex (some 23) (.bool false) rfl rfl (exec_not _ _ rfl true rfl) ?_
  go_frame
  refine ls_ex (some 24) (.bool false) rfl rfl (exec_move _ rfl (.bool false) rfl) ?_
  go_frame
  refine ls_ex_g (some 25) (.int .i64 f) rfl rfl (exec_move _ rfl (.int .i64 f) rfl) ?_
  go_frame
  refine ls_op_g rfl (fun K' hK' => ?_)
  have lz32 := hB.size
  have lz33 := hz5.lt
  have lz34 := hz11.lt
  have lz35 := hxz23.lt
  refine wp_call3 (some 26) rfl 26 _ _ _ _ rfl (fun args w => by kernel_rfl) _ _ _ rfl rfl rfl _ (l01In_c f 0 2 _) (fun e Wz30 h => ?_)
  obtain ⟨rfl, rfl⟩ := h
  rw [Hf2.out]
  refine ⟨_, rfl, ?_⟩
  refine hK' _ _ ?_
  clear hK' K'
  go_frame
  refine ls_ex_g (some 27) (.bool false) rfl rfl (exec_not _ _ rfl true rfl) ?_
  go_frame
  refine ls_ex (some 28) (.bool false) rfl rfl (exec_pick _ _ _ rfl false rfl (.bool false) rfl) ?_
  go_frame
  refine ls_ex (some 29) (.bool false) rfl rfl (exec_move _ rfl (.bool false) rfl) ?_
  go_frame
  refine ls_ex_g (some 30) (.int .i64 s) rfl rfl (exec_move _ rfl (.int .i64 s) rfl) ?_
  go_frame
  refine ls_ex_g (some 31) (.pointer (some ⟨w.heap.size, 0, none⟩)) rfl rfl (exec_fieldAddr 28 _ 0 rfl _ (by kernel_rfl)) ?_
  go_frame
  refine ls_ex_g (some 32) (.int .i64 p) rfl rfl (exec_load_one 2 _ rfl w.heap.size 0 rfl (.int .i64 p) _ Try.underlying2 rfl (hz5.at_ 0)) ?_
  go_frame
  refine ls_ex_g (some 33) (.int .i64 (p - 1)) rfl rfl (exec_sub _ _ _ _ rfl p 1 (p - 1) rfl rfl (IntWalk.i64_in _ (by omega))) ?_
  go_frame
  refine ls_op_g rfl (fun K' hK' => ?_)
  have lz38 := hB.size
  have lz39 := hz5.lt
  have lz40 := hz11.lt
  have lz41 := hxz23.lt
  refine wp_call3 (some 34) rfl 26 _ _ _ _ rfl (fun args w => by kernel_rfl) _ _ _ rfl rfl rfl _ (l01In_c s 1 (p - 1) _) (fun e Wz36 h => ?_)
  obtain ⟨rfl, rfl⟩ := h
  rw [Hsn.out]
  refine ⟨_, rfl, ?_⟩
  refine hK' _ _ ?_
  clear hK' K'
  go_frame
  refine ls_ex_g (some 35) (.bool true) rfl rfl (exec_not _ _ rfl false rfl) ?_
  go_frame
  refine ls_ex (some 36) (.bool true) rfl rfl (exec_pick _ _ _ rfl false rfl (.bool true) rfl) ?_
  go_frame
  refine ls_ex (some 17) (.bool true) rfl rfl (exec_assign _ rfl (.bool true) rfl) ?_
  go_frame
  refine wpList_nil ?_
  go_upto_region 4 with (fail)
  refine wp_region_lit ?_
  refine ls_ex (some 37) (.agg #[.int .i64 0, .int .i64 0, .int .i64 0, .int .i64 0, .slice none 0 0]) rfl rfl (exec_build_nil 28 rfl _ (by kernel_rfl)) ?_
  go_frame
  refine ls_op rfl (fun K' hK' => ?_)
  refine wp_store_all 28 _ _ rfl rfl Wz2.heap.size rfl #[.int .i64 0, .int .i64 0, .int .i64 0, .int .i64 0, .slice none 0 0] rfl _ _ hz11 5 (by kernel_rfl) rfl rfl (one5 _ _ _ _ _ _ _) (fun Wz42 pz43 => ?_)
  replace hB := pz43.below hB (by omega)
  replace hz5 := pz43.other hz5 (by omega)
  replace hxz23 := pz43.other hxz23 (by omega)
  replace hz11 : At Wz42 Wz2.heap.size (.cells #[.int .i64 0, .int .i64 0, .int .i64 0, .int .i64 0, .slice none 0 0] 28 (0, 0)) := pz43.at_
  refine hK' _ _ ?_
  clear hK' K' pz43
  refine ls_ex (some 11) (.int .i64 2) rfl rfl (exec_assign _ rfl (.int .i64 2) rfl) ?_
  go_frame
  refine wpList_nil ?_
  go_wp2_with fail
  refine bodyPost_ret (results_at2 rfl _ _ Wz2.heap.size _ _ _ rfl _ rfl hz11 Try.underlying28 rfl 5 (by kernel_rfl) rfl) rfl ?_
  unfold ResS fpZ fpL
  rw [HC.out]
  exact ⟨_, rfl, Own.nil _ _, hB⟩
set_option maxHeartbeats 4000000 in
theorem specFlipP_d2 (p n m k : Int) (a0 c : Nat) (qs : List (List Nat)) (i j f s : Int) (w : World) (hR : Rd w (some ⟨a0, 0, none⟩) qs) (hlen : qs.length ≤ 1048576) (hs : schemeB p n m k qs = true) (hi : inI i qs.length = true) (hj : inI j qs.length = true) (hf : inI f 3 = true) (hr : p ≤ s) (hr1 : 1 ≤ s) :
    Calls Try.prog 8 #[.agg #[.int .i64 p, .int .i64 n, .int .i64 m, .int .i64 k, .slice (some ⟨a0, 0, none⟩) qs.length c], .int .i64 i, .int .i64 j, .int .i64 f, .int .i64 s] w (ResS w (fpZ (fpCode p n m k qs i j f s) p) (fpZ (fpCode p n m k qs i j f s) n) (fpZ (fpCode p n m k qs i j f s) m) (fpZ (fpCode p n m k qs i j f s) k) (fpL (fpCode p n m k qs i j f s) (fpQs p qs i j f s)) (fpCode p n m k qs i j f s)) := by
  have hB := Below.refl w.heap.size w
  have hsr : (decide (1 ≤ s) && decide (s ≤ p - 1)) = false := by rw [decide_eq_false (by omega : ¬ s ≤ p - 1), Bool.and_false]
  have HC : Hid (fpCode p n m k qs i j f s = 2) := Lib.hid (by unfold fpCode; rw [hs, hi, hj, hf, hsr]; rfl)
  have Hsn := Lib.hid hsr
  have Hs := Lib.hid hs
  have hp5 := primeB_5 (sizesB_parts (schemeB_sizes hs)).1
  have h30 := schemeB_len hs
  have HIi := Lib.hid hi
  have HIj := Lib.hid hj
  have HIf := Lib.hid hf
  have Hxs : Hid (([(i : Int), (j : Int)].all fun x => inI x qs.length) = true) := Lib.hid (by simp [hi, hj])
  have Hf2 : Hid ((decide (0 ≤ f) && decide (f ≤ 2)) = true) := Lib.hid (by rw [← hf]; exact inI_sub f 3)
  clear hs hi hj hf
  clear hsr
  go_enter Try.func8, Try.ntmps8
  go_upto_region 0 with (fail)
  refine wp_region_lit ?_
  refine ls_op rfl (fun K' hK' => ?_)
  have lz1 := hB.size
  refine wp_new (some 5) rfl (exec_box 28 _ rfl (#[.int .i64 p, .int .i64 n, .int .i64 m, .int .i64 k, .slice (some ⟨a0, 0, none⟩) qs.length c]) rfl) (fun Wz2 nnz3 => ?_)
  have bz4 := nnz3.below (Below.refl _ _) (Nat.le_refl _)
  replace hB := below_after hB bz4
  have hz5 : At Wz2 w.heap.size (.cells #[.int .i64 p, .int .i64 n, .int .i64 m, .int .i64 k, .slice (some ⟨a0, 0, none⟩) qs.length c] 28 (0, 0)) := nnz3.at_
  refine hK' _ _ ?_
  clear hK' K' nnz3 bz4
  go_frame
  refine ls_op rfl (fun K' hK' => ?_)
  have lz6 := hB.size
  have lz7 := hz5.lt
  refine wp_new (some 10) rfl (al_impl_Scheme rfl) (fun Wz8 nnz9 => ?_)
  have bz10 := nnz9.below (Below.refl _ _) (Nat.le_refl _)
  replace hB := below_after hB bz10
  replace hz5 := hz5.after bz10
  have hz11 : At Wz8 Wz2.heap.size (.cells #[.int .i64 0, .int .i64 0, .int .i64 0, .int .i64 0, .slice none 0 0] 28 (0, 0)) := nnz9.at_
  refine hK' _ _ ?_
  clear hK' K' nnz9 bz10
  go_frame
  refine ls_ex (some 11) (.int .i64 0) rfl rfl (exec_assign _ rfl (.int .i64 0) rfl) ?_
  go_frame
  refine wpList_nil ?_
  go_upto_region 1 with (fail)
  refine wp_region_lit ?_
  refine ls_ex (some 13) (.agg #[.int .i64 p, .int .i64 n, .int .i64 m, .int .i64 k, .slice (some ⟨a0, 0, none⟩) qs.length c]) rfl rfl (exec_load_all 28 _ rfl w.heap.size rfl _ _ _ hz5 Try.underlying28 rfl 5 (by kernel_rfl) rfl) ?_
  go_frame
  refine ls_op rfl (fun K' hK' => ?_)
  have lz14 := hB.size
  have lz15 := hz5.lt
  have lz16 := hz11.lt
  refine wp_call1 (some 14) rfl 24 _ _ rfl (fun args w => by kernel_rfl) _ rfl _ (l01Is_c p n m k (some ⟨a0, 0, none⟩) c qs _ (hR.keep hB) (by omega)) (fun e Wz12 h => ?_)
  obtain ⟨rfl, bz13⟩ := h
  replace hB := below_after hB bz13
  replace hz5 := hz5.after bz13
  replace hz11 := hz11.after bz13
  rw [Hs.out]
  clear bz13
  refine ⟨_, rfl, ?_⟩
  refine hK' _ _ ?_
  clear hK' K'
  go_frame
  refine ls_ex (some 15) (.bool false) rfl rfl (exec_not _ _ rfl true rfl) ?_
  go_frame
  refine ls_ex (some 12) (.bool false) rfl rfl (exec_assign _ rfl (.bool false) rfl) ?_
  go_frame
  refine wpList_nil ?_
  go_upto_region 3 with (fail)
  refine wp_region_lit ?_
  refine ls_ex (some 18) (.agg #[.int .i64 p, .int .i64 n, .int .i64 m, .int .i64 k, .slice (some ⟨a0, 0, none⟩) qs.length c]) rfl rfl (exec_load_all 28 _ rfl w.heap.size rfl _ _ _ hz5 Try.underlying28 rfl 5 (by kernel_rfl) rfl) ?_
  go_frame
  refine ls_ex (some 19) (.int .i64 i) rfl rfl (exec_move _ rfl (.int .i64 i) rfl) ?_
  go_frame
  refine ls_ex (some 20) (.int .i64 j) rfl rfl (exec_move _ rfl (.int .i64 j) rfl) ?_
  go_frame
  refine ls_op rfl (fun K' hK' => ?_)
  have lz17 := hB.size
  have lz18 := hz5.lt
  have lz19 := hz11.lt
  refine wp_new (some 21) rfl (exec_bsi2 _ _ rfl i j rfl rfl) (fun Wz20 nnz21 => ?_)
  have bz22 := nnz21.below (Below.refl _ _) (Nat.le_refl _)
  replace hB := below_after hB bz22
  replace hz5 := hz5.after bz22
  replace hz11 := hz11.after bz22
  have hxz23 : At Wz20 Wz12.heap.size (.cells #[.int .i64 i, .int .i64 j] 2 (0, 0)) := nnz21.at_
  refine hK' _ _ ?_
  clear hK' K' nnz21 bz22
  go_frame
  refine ls_op rfl (fun K' hK' => ?_)
  have lz26 := hB.size
  have lz27 := hz5.lt
  have lz28 := hz11.lt
  have lz29 := hxz23.lt
  refine wp_call2 (some 22) rfl 25 _ _ _ rfl (fun args w => by kernel_rfl) _ _ rfl rfl _ (l03Numbers_c p n m k _ c qs.length (Wz12.heap.size) 2 [(i : Int), (j : Int)] _ (by omega) (by simp) (fun t ht => by match t, ht with | 0, _ => exact hxz23.at_ 0 | 1, _ => exact hxz23.at_ 1)) (fun e Wz24 h => ?_)
  obtain ⟨rfl, bz25⟩ := h
  replace hB := below_after hB bz25
  replace hz5 := hz5.after bz25
  replace hz11 := hz11.after bz25
  replace hxz23 := hxz23.after bz25
  rw [Hxs.out]
  clear bz25
  refine ⟨_, rfl, ?_⟩
  refine hK' _ _ ?_
  clear hK' K'
  go_frame
  refine ls_ex (some 23) (.bool false) rfl rfl (exec_not _ _ rfl true rfl) ?_
  go_frame
  refine ls_ex (some 24) (.bool false) rfl rfl (exec_move _ rfl (.bool false) rfl) ?_
  go_frame
  refine ls_ex_g (some 25) (.int .i64 f) rfl rfl (exec_move _ rfl (.int .i64 f) rfl) ?_
  go_frame
  refine ls_op_g rfl (fun K' hK' => ?_)
  have lz32 := hB.size
  have lz33 := hz5.lt
  have lz34 := hz11.lt
  have lz35 := hxz23.lt
  refine wp_call3 (some 26) rfl 26 _ _ _ _ rfl (fun args w => by kernel_rfl) _ _ _ rfl rfl rfl _ (l01In_c f 0 2 _) (fun e Wz30 h => ?_)
  obtain ⟨rfl, rfl⟩ := h
  rw [Hf2.out]
  refine ⟨_, rfl, ?_⟩
  refine hK' _ _ ?_
  clear hK' K'
  go_frame
  refine ls_ex_g (some 27) (.bool false) rfl rfl (exec_not _ _ rfl true rfl) ?_
  go_frame
  refine ls_ex (some 28) (.bool false) rfl rfl (exec_pick _ _ _ rfl false rfl (.bool false) rfl) ?_
  go_frame
  refine ls_ex (some 29) (.bool false) rfl rfl (exec_move _ rfl (.bool false) rfl) ?_
  go_frame
  refine ls_ex_g (some 30) (.int .i64 s) rfl rfl (exec_move _ rfl (.int .i64 s) rfl) ?_
  go_frame
  refine ls_ex_g (some 31) (.pointer (some ⟨w.heap.size, 0, none⟩)) rfl rfl (exec_fieldAddr 28 _ 0 rfl _ (by kernel_rfl)) ?_
  go_frame
  refine ls_ex_g (some 32) (.int .i64 p) rfl rfl (exec_load_one 2 _ rfl w.heap.size 0 rfl (.int .i64 p) _ Try.underlying2 rfl (hz5.at_ 0)) ?_
  go_frame
  refine ls_ex_g (some 33) (.int .i64 (p - 1)) rfl rfl (exec_sub _ _ _ _ rfl p 1 (p - 1) rfl rfl (IntWalk.i64_in _ (by omega))) ?_
  go_frame
  refine ls_op_g rfl (fun K' hK' => ?_)
  have lz38 := hB.size
  have lz39 := hz5.lt
  have lz40 := hz11.lt
  have lz41 := hxz23.lt
  refine wp_call3 (some 34) rfl 26 _ _ _ _ rfl (fun args w => by kernel_rfl) _ _ _ rfl rfl rfl _ (l01In_c s 1 (p - 1) _) (fun e Wz36 h => ?_)
  obtain ⟨rfl, rfl⟩ := h
  rw [Hsn.out]
  refine ⟨_, rfl, ?_⟩
  refine hK' _ _ ?_
  clear hK' K'
  go_frame
  refine ls_ex_g (some 35) (.bool true) rfl rfl (exec_not _ _ rfl false rfl) ?_
  go_frame
  refine ls_ex (some 36) (.bool true) rfl rfl (exec_pick _ _ _ rfl false rfl (.bool true) rfl) ?_
  go_frame
  refine ls_ex (some 17) (.bool true) rfl rfl (exec_assign _ rfl (.bool true) rfl) ?_
  go_frame
  refine wpList_nil ?_
  go_upto_region 4 with (fail)
  refine wp_region_lit ?_
  refine ls_ex (some 37) (.agg #[.int .i64 0, .int .i64 0, .int .i64 0, .int .i64 0, .slice none 0 0]) rfl rfl (exec_build_nil 28 rfl _ (by kernel_rfl)) ?_
  go_frame
  refine ls_op rfl (fun K' hK' => ?_)
  refine wp_store_all 28 _ _ rfl rfl Wz2.heap.size rfl #[.int .i64 0, .int .i64 0, .int .i64 0, .int .i64 0, .slice none 0 0] rfl _ _ hz11 5 (by kernel_rfl) rfl rfl (one5 _ _ _ _ _ _ _) (fun Wz42 pz43 => ?_)
  replace hB := pz43.below hB (by omega)
  replace hz5 := pz43.other hz5 (by omega)
  replace hxz23 := pz43.other hxz23 (by omega)
  replace hz11 : At Wz42 Wz2.heap.size (.cells #[.int .i64 0, .int .i64 0, .int .i64 0, .int .i64 0, .slice none 0 0] 28 (0, 0)) := pz43.at_
  refine hK' _ _ ?_
  clear hK' K' pz43
  refine ls_ex (some 11) (.int .i64 2) rfl rfl (exec_assign _ rfl (.int .i64 2) rfl) ?_
  go_frame
  refine wpList_nil ?_
  go_wp2_with fail
  refine bodyPost_ret (results_at2 rfl _ _ Wz2.heap.size _ _ _ rfl _ rfl hz11 Try.underlying28 rfl 5 (by kernel_rfl) rfl) rfl ?_
  unfold ResS fpZ fpL
  rw [HC.out]
  exact ⟨_, rfl, Own.nil _ _, hB⟩
set_option maxHeartbeats 4000000 in
theorem specFlipP_e (p n m k : Int) (a0 c : Nat) (qs : List (List Nat)) (I J F : Nat) (s : Int) (Q R : List Nat) (w : World) (hR : Rd w (some ⟨a0, 0, none⟩) qs) (hQ : qs[I]? = some Q) (hRj : qs[J]? = some R) (hF3 : F < 3) (hs : schemeB p n m k qs = true) (hsr : (decide (1 ≤ s) && decide (s ≤ p - 1)) = true) (hij : I = J) :
    Calls Try.prog 8 #[.agg #[.int .i64 p, .int .i64 n, .int .i64 m, .int .i64 k, .slice (some ⟨a0, 0, none⟩) qs.length c], .int .i64 I, .int .i64 J, .int .i64 F, .int .i64 s] w (ResS w (fpZ (fpCode p n m k qs I J F s) p) (fpZ (fpCode p n m k qs I J F s) n) (fpZ (fpCode p n m k qs I J F s) m) (fpZ (fpCode p n m k qs I J F s) k) (fpL (fpCode p n m k qs I J F s) (fpQs p qs I J F s)) (fpCode p n m k qs I J F s)) := by
  have hB := Below.refl w.heap.size w
  have hp5 := primeB_5 (sizesB_parts (schemeB_sizes hs)).1
  have h30 := schemeB_len hs
  have hI := (List.getElem?_eq_some_iff.1 hQ).1
  have hJ := (List.getElem?_eq_some_iff.1 hRj).1
  have hi9 : inI (I : Int) qs.length = true := by simp [inI]; omega
  have hj9 : inI (J : Int) qs.length = true := by simp [inI]; omega
  have hf9 : inI (F : Int) 3 = true := by simp [inI]; omega
  have hfl : flB Q R I J F = false := by unfold flB; rw [decide_eq_false (fun h => h hij)]; rfl
  have HC : Hid (fpCode p n m k qs I J F s = 5) := Lib.hid (by unfold fpCode; rw [hs, hi9, hj9, hf9, hsr, Int.toNat_natCast, Int.toNat_natCast, Int.toNat_natCast, hQ, hRj, Option.getD_some, Option.getD_some, hfl]; rfl)
  have hs9 : 1 ≤ s ∧ s ≤ p - 1 := by simpa only [Bool.and_eq_true, decide_eq_true_eq] using hsr
  have Hsn := Lib.hid hsr
  have Hs := Lib.hid hs
  have HIi := Lib.hid hi9
  have HIj := Lib.hid hj9
  have HIf := Lib.hid hf9
  have Hfl := Lib.hid hfl
  have HQi := Lib.hid hQ
  have HRj := Lib.hid hRj
  have HQ := Lib.hid (hR.good _ (List.mem_of_getElem? hQ))
  have HRb := Lib.hid (hR.good _ (List.mem_of_getElem? hRj))
  have Hxs : Hid (([(I : Int), (J : Int)].all fun x => inI x qs.length) = true) := Lib.hid (by simp [hi9, hj9])
  have Hf2 : Hid ((decide (0 ≤ (F : Int)) && decide ((F : Int) ≤ 2)) = true) := Lib.hid (by rw [← hf9]; exact inI_sub F 3)
  clear hs hsr hi9 hj9 hf9 hfl hQ hRj
  go_enter Try.func8, Try.ntmps8
  go_upto_region 0 with (fail)
  refine wp_region_lit ?_
  refine ls_op rfl (fun K' hK' => ?_)
  have lz1 := hB.size
  refine wp_new (some 5) rfl (exec_box 28 _ rfl (#[.int .i64 p, .int .i64 n, .int .i64 m, .int .i64 k, .slice (some ⟨a0, 0, none⟩) qs.length c]) rfl) (fun Wz2 nnz3 => ?_)
  have bz4 := nnz3.below (Below.refl _ _) (Nat.le_refl _)
  replace hB := below_after hB bz4
  have hz5 : At Wz2 w.heap.size (.cells #[.int .i64 p, .int .i64 n, .int .i64 m, .int .i64 k, .slice (some ⟨a0, 0, none⟩) qs.length c] 28 (0, 0)) := nnz3.at_
  refine hK' _ _ ?_
  clear hK' K' nnz3 bz4
  go_frame
  refine ls_op rfl (fun K' hK' => ?_)
  have lz6 := hB.size
  have lz7 := hz5.lt
  refine wp_new (some 10) rfl (al_impl_Scheme rfl) (fun Wz8 nnz9 => ?_)
  have bz10 := nnz9.below (Below.refl _ _) (Nat.le_refl _)
  replace hB := below_after hB bz10
  replace hz5 := hz5.after bz10
  have hz11 : At Wz8 Wz2.heap.size (.cells #[.int .i64 0, .int .i64 0, .int .i64 0, .int .i64 0, .slice none 0 0] 28 (0, 0)) := nnz9.at_
  refine hK' _ _ ?_
  clear hK' K' nnz9 bz10
  go_frame
  refine ls_ex (some 11) (.int .i64 0) rfl rfl (exec_assign _ rfl (.int .i64 0) rfl) ?_
  go_frame
  refine wpList_nil ?_
  go_upto_region 1 with (fail)
  refine wp_region_lit ?_
  refine ls_ex (some 13) (.agg #[.int .i64 p, .int .i64 n, .int .i64 m, .int .i64 k, .slice (some ⟨a0, 0, none⟩) qs.length c]) rfl rfl (exec_load_all 28 _ rfl w.heap.size rfl _ _ _ hz5 Try.underlying28 rfl 5 (by kernel_rfl) rfl) ?_
  go_frame
  refine ls_op rfl (fun K' hK' => ?_)
  have lz14 := hB.size
  have lz15 := hz5.lt
  have lz16 := hz11.lt
  refine wp_call1 (some 14) rfl 24 _ _ rfl (fun args w => by kernel_rfl) _ rfl _ (l01Is_c p n m k (some ⟨a0, 0, none⟩) c qs _ (hR.keep hB) (by omega)) (fun e Wz12 h => ?_)
  obtain ⟨rfl, bz13⟩ := h
  replace hB := below_after hB bz13
  replace hz5 := hz5.after bz13
  replace hz11 := hz11.after bz13
  rw [Hs.out]
  clear bz13
  refine ⟨_, rfl, ?_⟩
  refine hK' _ _ ?_
  clear hK' K'
  go_frame
  refine ls_ex (some 15) (.bool false) rfl rfl (exec_not _ _ rfl true rfl) ?_
  go_frame
  refine ls_ex (some 12) (.bool false) rfl rfl (exec_assign _ rfl (.bool false) rfl) ?_
  go_frame
  refine wpList_nil ?_
  go_upto_region 3 with (fail)
  refine wp_region_lit ?_
  refine ls_ex (some 18) (.agg #[.int .i64 p, .int .i64 n, .int .i64 m, .int .i64 k, .slice (some ⟨a0, 0, none⟩) qs.length c]) rfl rfl (exec_load_all 28 _ rfl w.heap.size rfl _ _ _ hz5 Try.underlying28 rfl 5 (by kernel_rfl) rfl) ?_
  go_frame
  refine ls_ex (some 19) (.int .i64 I) rfl rfl (exec_move _ rfl (.int .i64 I) rfl) ?_
  go_frame
  refine ls_ex (some 20) (.int .i64 J) rfl rfl (exec_move _ rfl (.int .i64 J) rfl) ?_
  go_frame
  refine ls_op rfl (fun K' hK' => ?_)
  have lz17 := hB.size
  have lz18 := hz5.lt
  have lz19 := hz11.lt
  refine wp_new (some 21) rfl (exec_bsi2 _ _ rfl I J rfl rfl) (fun Wz20 nnz21 => ?_)
  have bz22 := nnz21.below (Below.refl _ _) (Nat.le_refl _)
  replace hB := below_after hB bz22
  replace hz5 := hz5.after bz22
  replace hz11 := hz11.after bz22
  have hxz23 : At Wz20 Wz12.heap.size (.cells #[.int .i64 I, .int .i64 J] 2 (0, 0)) := nnz21.at_
  refine hK' _ _ ?_
  clear hK' K' nnz21 bz22
  go_frame
  refine ls_op rfl (fun K' hK' => ?_)
  have lz26 := hB.size
  have lz27 := hz5.lt
  have lz28 := hz11.lt
  have lz29 := hxz23.lt
  refine wp_call2 (some 22) rfl 25 _ _ _ rfl (fun args w => by kernel_rfl) _ _ rfl rfl _ (l03Numbers_c p n m k _ c qs.length (Wz12.heap.size) 2 [(I : Int), (J : Int)] _ (by omega) (by simp) (fun t ht => by match t, ht with | 0, _ => exact hxz23.at_ 0 | 1, _ => exact hxz23.at_ 1)) (fun e Wz24 h => ?_)
  obtain ⟨rfl, bz25⟩ := h
  replace hB := below_after hB bz25
  replace hz5 := hz5.after bz25
  replace hz11 := hz11.after bz25
  replace hxz23 := hxz23.after bz25
  rw [Hxs.out]
  clear bz25
  refine ⟨_, rfl, ?_⟩
  refine hK' _ _ ?_
  clear hK' K'
  go_frame
  refine ls_ex (some 23) (.bool false) rfl rfl (exec_not _ _ rfl true rfl) ?_
  go_frame
  refine ls_ex (some 24) (.bool false) rfl rfl (exec_move _ rfl (.bool false) rfl) ?_
  go_frame
  refine ls_ex_g (some 25) (.int .i64 F) rfl rfl (exec_move _ rfl (.int .i64 F) rfl) ?_
  go_frame
  refine ls_op_g rfl (fun K' hK' => ?_)
  have lz32 := hB.size
  have lz33 := hz5.lt
  have lz34 := hz11.lt
  have lz35 := hxz23.lt
  refine wp_call3 (some 26) rfl 26 _ _ _ _ rfl (fun args w => by kernel_rfl) _ _ _ rfl rfl rfl _ (l01In_c F 0 2 _) (fun e Wz30 h => ?_)
  obtain ⟨rfl, rfl⟩ := h
  rw [Hf2.out]
  refine ⟨_, rfl, ?_⟩
  refine hK' _ _ ?_
  clear hK' K'
  go_frame
  refine ls_ex_g (some 27) (.bool false) rfl rfl (exec_not _ _ rfl true rfl) ?_
  go_frame
  refine ls_ex (some 28) (.bool false) rfl rfl (exec_pick _ _ _ rfl false rfl (.bool false) rfl) ?_
  go_frame
  refine ls_ex (some 29) (.bool false) rfl rfl (exec_move _ rfl (.bool false) rfl) ?_
  go_frame
  refine ls_ex_g (some 30) (.int .i64 s) rfl rfl (exec_move _ rfl (.int .i64 s) rfl) ?_
  go_frame
  refine ls_ex_g (some 31) (.pointer (some ⟨w.heap.size, 0, none⟩)) rfl rfl (exec_fieldAddr 28 _ 0 rfl _ (by kernel_rfl)) ?_
  go_frame
  refine ls_ex_g (some 32) (.int .i64 p) rfl rfl (exec_load_one 2 _ rfl w.heap.size 0 rfl (.int .i64 p) _ Try.underlying2 rfl (hz5.at_ 0)) ?_
  go_frame
  refine ls_ex_g (some 33) (.int .i64 (p - 1)) rfl rfl (exec_sub _ _ _ _ rfl p 1 (p - 1) rfl rfl (IntWalk.i64_in _ (by omega))) ?_
  go_frame
  refine ls_op_g rfl (fun K' hK' => ?_)
  have lz38 := hB.size
  have lz39 := hz5.lt
  have lz40 := hz11.lt
  have lz41 := hxz23.lt
  refine wp_call3 (some 34) rfl 26 _ _ _ _ rfl (fun args w => by kernel_rfl) _ _ _ rfl rfl rfl _ (l01In_c s 1 (p - 1) _) (fun e Wz36 h => ?_)
  obtain ⟨rfl, rfl⟩ := h
  rw [Hsn.out]
  refine ⟨_, rfl, ?_⟩
  refine hK' _ _ ?_
  clear hK' K'
  go_frame
  refine ls_ex_g (some 35) (.bool false) rfl rfl (exec_not _ _ rfl true rfl) ?_
  go_frame
  refine ls_ex (some 36) (.bool false) rfl rfl (exec_pick _ _ _ rfl false rfl (.bool false) rfl) ?_
  go_frame
  refine ls_ex (some 17) (.bool false) rfl rfl (exec_assign _ rfl (.bool false) rfl) ?_
  go_frame
  refine wpList_nil ?_
  go_upto_region 5 with (fail)
  refine wp_region_y (zs := []) (S := fun w' => Below w.heap.size w w') (S2 := fun w' => True) (by kernel_rfl) ?_
  change wpAnyY _ _ _ _ _ _ _ _ _ _ (World.drew _)
  generalize hwdz42 : World.drew _ = wdz42
  replace hB : Below w.heap.size w wdz42 := by rw [← hwdz42]; exact hB.drew
  replace hz5 : At wdz42 w.heap.size (.cells #[.int .i64 p, .int .i64 n, .int .i64 m, .int .i64 k, .slice (some ⟨a0, 0, none⟩) qs.length c] 28 (0, 0)) := by rw [← hwdz42]; exact hz5
  replace hz11 : At wdz42 Wz2.heap.size (.cells #[.int .i64 0, .int .i64 0, .int .i64 0, .int .i64 0, .slice none 0 0] 28 (0, 0)) := by rw [← hwdz42]; exact hz11
  replace hxz23 : At wdz42 Wz12.heap.size (.cells #[.int .i64 I, .int .i64 J] 2 (0, 0)) := by rw [← hwdz42]; exact hxz23
  clear hwdz42
  refine y_yield 0 (some 39) (.int .i64 I) rfl (by kernel_rfl) (by kernel_rfl) (by kernel_rfl) (fun _ _ _ h => h) rfl rfl hB (fun w' h' => exec_move _ rfl (.int .i64 I) rfl) ?_
  go_frame
  refine y_yield 1 (some 40) (.int .i64 J) rfl (by kernel_rfl) (by kernel_rfl) (by kernel_rfl) (fun _ _ _ h => h) rfl rfl hB (fun w' h' => exec_move _ rfl (.int .i64 J) rfl) ?_
  go_frame
  refine y_yield 2 (some 41) (.bool true) rfl (by kernel_rfl) (by kernel_rfl) (by kernel_rfl) (fun _ _ _ h => h) rfl rfl hB (fun w' h' => exec_eql _ _ _ _ rfl I J rfl rfl true (by rw [hij]; exact beq_self_eq_true _)) ?_
  go_frame
  refine y_yield 3 (some 42) (.bool true) rfl (by kernel_rfl) (by kernel_rfl) (by kernel_rfl) (fun _ _ _ h => h) rfl rfl hB (fun w' h' => exec_move _ rfl (.bool true) rfl) ?_
  go_frame
  refine y_skip 4 (some 43) rfl (by kernel_rfl) (by kernel_rfl) (by kernel_rfl) (fun _ _ _ h => h) rfl rfl hB ?_
  go_frame
  refine y_skip 5 (some 44) rfl (by kernel_rfl) (by kernel_rfl) (by kernel_rfl) (fun _ _ _ h => h) rfl rfl hB ?_
  go_frame
  refine y_skip 6 (some 45) rfl (by kernel_rfl) (by kernel_rfl) (by kernel_rfl) (fun _ _ _ h => h) rfl rfl hB ?_
  go_frame
  refine y_skip 7 (some 46) rfl (by kernel_rfl) (by kernel_rfl) (by kernel_rfl) (fun _ _ _ h => h) rfl rfl hB ?_
  go_frame
  refine y_skip 8 (some 47) rfl (by kernel_rfl) (by kernel_rfl) (by kernel_rfl) (fun _ _ _ h => h) rfl rfl hB ?_
  go_frame
  refine y_skip 9 (some 48) rfl (by kernel_rfl) (by kernel_rfl) (by kernel_rfl) (fun _ _ _ h => h) rfl rfl hB ?_
  go_frame
  refine y_skip 11 (some 50) rfl (by kernel_rfl) (by kernel_rfl) (by kernel_rfl) (fun _ _ _ h => h) rfl rfl hB ?_
  go_frame
  refine y_skip 12 (some 51) rfl (by kernel_rfl) (by kernel_rfl) (by kernel_rfl) (fun _ _ _ h => h) rfl rfl hB ?_
  go_frame
  refine y_skip 13 (some 52) rfl (by kernel_rfl) (by kernel_rfl) (by kernel_rfl) (fun _ _ _ h => h) rfl rfl hB ?_
  go_frame
  refine y_skip 14 (some 53) rfl (by kernel_rfl) (by kernel_rfl) (by kernel_rfl) (fun _ _ _ h => h) rfl rfl hB ?_
  go_frame
  refine y_skip 15 (some 54) rfl (by kernel_rfl) (by kernel_rfl) (by kernel_rfl) (fun _ _ _ h => h) rfl rfl hB ?_
  go_frame
  refine y_skip 16 (some 55) rfl (by kernel_rfl) (by kernel_rfl) (by kernel_rfl) (fun _ _ _ h => h) rfl rfl hB ?_
  go_frame
  refine y_pass 10 (some 49) (by kernel_rfl) rfl rfl rfl hB ?_
  go_frame
  refine y_pass 17 (some 56) (by kernel_rfl) rfl rfl rfl hB ?_
  go_frame
  refine y_skip 18 (some 57) rfl (by kernel_rfl) (by kernel_rfl) (by kernel_rfl) (fun _ _ _ h => h) rfl rfl hB ?_
  go_frame
  refine y_yield 19 (some 58) (.bool true) rfl (by kernel_rfl) (by kernel_rfl) (by kernel_rfl) (fun _ _ _ h => h) rfl rfl hB (fun w' h' => exec_pick _ _ _ rfl true rfl (.bool true) rfl) ?_
  go_frame
  refine y_oper 20 (by kernel_rfl) rfl rfl (fun K' hK' => ?_)
  refine wp_exec (some 38) rfl (.bool true) (exec_assign _ rfl (.bool true) rfl) ?_
  refine hK' _ _ hB (fun _ => trivial) ?_
  clear hK' K'
  go_frame
  refine y_done (by kernel_rfl) ?_ _
  go_upto_region 6 with (fail)
  refine wp_region_lit ?_
  refine ls_ex (some 59) (.agg #[.int .i64 0, .int .i64 0, .int .i64 0, .int .i64 0, .slice none 0 0]) rfl rfl (exec_build_nil 28 rfl _ (by kernel_rfl)) ?_
  go_frame
  refine ls_op rfl (fun K' hK' => ?_)
  refine wp_store_all 28 _ _ rfl rfl Wz2.heap.size rfl #[.int .i64 0, .int .i64 0, .int .i64 0, .int .i64 0, .slice none 0 0] rfl _ _ hz11 5 (by kernel_rfl) rfl rfl (one5 _ _ _ _ _ _ _) (fun Wz43 pz44 => ?_)
  replace hB := pz44.below hB (by omega)
  replace hz5 := pz44.other hz5 (by omega)
  replace hxz23 := pz44.other hxz23 (by omega)
  replace hz11 : At Wz43 Wz2.heap.size (.cells #[.int .i64 0, .int .i64 0, .int .i64 0, .int .i64 0, .slice none 0 0] 28 (0, 0)) := pz44.at_
  refine hK' _ _ ?_
  clear hK' K' pz44
  refine ls_ex (some 11) (.int .i64 5) rfl rfl (exec_assign _ rfl (.int .i64 5) rfl) ?_
  go_frame
  refine wpList_nil ?_
  go_wp2_with fail
  refine bodyPost_ret (results_at2 rfl _ _ Wz2.heap.size _ _ _ rfl _ rfl hz11 Try.underlying28 rfl 5 (by kernel_rfl) rfl) rfl ?_
  unfold ResS fpZ fpL
  rw [HC.out]
  exact ⟨_, rfl, Own.nil _ _, hB⟩
set_option maxHeartbeats 4000000 in
theorem specFlipP_g (p n m k : Int) (a0 c : Nat) (qs : List (List Nat)) (I J F : Nat) (s : Int) (Q R : List Nat) (w : World) (hR : Rd w (some ⟨a0, 0, none⟩) qs) (hQ : qs[I]? = some Q) (hRj : qs[J]? = some R) (hF3 : F < 3) (hs : schemeB p n m k qs = true) (hsr : (decide (1 ≤ s) && decide (s ≤ p - 1)) = true) (hne : I ≠ J) (hq : (facQ Q F == facQ R F) = false) :
    Calls Try.prog 8 #[.agg #[.int .i64 p, .int .i64 n, .int .i64 m, .int .i64 k, .slice (some ⟨a0, 0, none⟩) qs.length c], .int .i64 I, .int .i64 J, .int .i64 F, .int .i64 s] w (ResS w (fpZ (fpCode p n m k qs I J F s) p) (fpZ (fpCode p n m k qs I J F s) n) (fpZ (fpCode p n m k qs I J F s) m) (fpZ (fpCode p n m k qs I J F s) k) (fpL (fpCode p n m k qs I J F s) (fpQs p qs I J F s)) (fpCode p n m k qs I J F s)) := by
  have hB := Below.refl w.heap.size w
  have hp5 := primeB_5 (sizesB_parts (schemeB_sizes hs)).1
  have h30 := schemeB_len hs
  have hI := (List.getElem?_eq_some_iff.1 hQ).1
  have hJ := (List.getElem?_eq_some_iff.1 hRj).1
  have hi9 : inI (I : Int) qs.length = true := by simp [inI]; omega
  have hj9 : inI (J : Int) qs.length = true := by simp [inI]; omega
  have hf9 : inI (F : Int) 3 = true := by simp [inI]; omega
  have hfl : flB Q R I J F = false := by unfold flB; rw [hq, Bool.and_false]
  have HC : Hid (fpCode p n m k qs I J F s = 5) := Lib.hid (by unfold fpCode; rw [hs, hi9, hj9, hf9, hsr, Int.toNat_natCast, Int.toNat_natCast, Int.toNat_natCast, hQ, hRj, Option.getD_some, Option.getD_some, hfl]; rfl)
  have hs9 : 1 ≤ s ∧ s ≤ p - 1 := by simpa only [Bool.and_eq_true, decide_eq_true_eq] using hsr
  have Hsn := Lib.hid hsr
  have Hs := Lib.hid hs
  have HIi := Lib.hid hi9
  have HIj := Lib.hid hj9
  have HIf := Lib.hid hf9
  have Hfl := Lib.hid hfl
  have HQi := Lib.hid hQ
  have HRj := Lib.hid hRj
  have HQ := Lib.hid (hR.good _ (List.mem_of_getElem? hQ))
  have HRb := Lib.hid (hR.good _ (List.mem_of_getElem? hRj))
  have Hxs : Hid (([(I : Int), (J : Int)].all fun x => inI x qs.length) = true) := Lib.hid (by simp [hi9, hj9])
  have Hf2 : Hid ((decide (0 ≤ (F : Int)) && decide ((F : Int) ≤ 2)) = true) := Lib.hid (by rw [← hf9]; exact inI_sub F 3)
  have HNE : Hid ((!(facQ Q F == facQ R F)) = true) := Lib.hid (by rw [hq]; rfl)
  clear hq
  clear hs hsr hi9 hj9 hf9 hfl hQ hRj
  go_enter Try.func8, Try.ntmps8
  go_upto_region 0 with (fail)
  refine wp_region_lit ?_
  refine ls_op rfl (fun K' hK' => ?_)
  have lz1 := hB.size
  refine wp_new (some 5) rfl (exec_box 28 _ rfl (#[.int .i64 p, .int .i64 n, .int .i64 m, .int .i64 k, .slice (some ⟨a0, 0, none⟩) qs.length c]) rfl) (fun Wz2 nnz3 => ?_)
  have bz4 := nnz3.below (Below.refl _ _) (Nat.le_refl _)
  replace hB := below_after hB bz4
  have hz5 : At Wz2 w.heap.size (.cells #[.int .i64 p, .int .i64 n, .int .i64 m, .int .i64 k, .slice (some ⟨a0, 0, none⟩) qs.length c] 28 (0, 0)) := nnz3.at_
  refine hK' _ _ ?_
  clear hK' K' nnz3 bz4
  go_frame
  refine ls_op rfl (fun K' hK' => ?_)
  have lz6 := hB.size
  have lz7 := hz5.lt
  refine wp_new (some 10) rfl (al_impl_Scheme rfl) (fun Wz8 nnz9 => ?_)
  have bz10 := nnz9.below (Below.refl _ _) (Nat.le_refl _)
  replace hB := below_after hB bz10
  replace hz5 := hz5.after bz10
  have hz11 : At Wz8 Wz2.heap.size (.cells #[.int .i64 0, .int .i64 0, .int .i64 0, .int .i64 0, .slice none 0 0] 28 (0, 0)) := nnz9.at_
  refine hK' _ _ ?_
  clear hK' K' nnz9 bz10
  go_frame
  refine ls_ex (some 11) (.int .i64 0) rfl rfl (exec_assign _ rfl (.int .i64 0) rfl) ?_
  go_frame
  refine wpList_nil ?_
  go_upto_region 1 with (fail)
  refine wp_region_lit ?_
  refine ls_ex (some 13) (.agg #[.int .i64 p, .int .i64 n, .int .i64 m, .int .i64 k, .slice (some ⟨a0, 0, none⟩) qs.length c]) rfl rfl (exec_load_all 28 _ rfl w.heap.size rfl _ _ _ hz5 Try.underlying28 rfl 5 (by kernel_rfl) rfl) ?_
  go_frame
  refine ls_op rfl (fun K' hK' => ?_)
  have lz14 := hB.size
  have lz15 := hz5.lt
  have lz16 := hz11.lt
  refine wp_call1 (some 14) rfl 24 _ _ rfl (fun args w => by kernel_rfl) _ rfl _ (l01Is_c p n m k (some ⟨a0, 0, none⟩) c qs _ (hR.keep hB) (by omega)) (fun e Wz12 h => ?_)
  obtain ⟨rfl, bz13⟩ := h
  replace hB := below_after hB bz13
  replace hz5 := hz5.after bz13
  replace hz11 := hz11.after bz13
  rw [Hs.out]
  clear bz13
  refine ⟨_, rfl, ?_⟩
  refine hK' _ _ ?_
  clear hK' K'
  go_frame
  refine ls_ex (some 15) (.bool false) rfl rfl (exec_not _ _ rfl true rfl) ?_
  go_frame
  refine ls_ex (some 12) (.bool false) rfl rfl (exec_assign _ rfl (.bool false) rfl) ?_
  go_frame
  refine wpList_nil ?_
  go_upto_region 3 with (fail)
  refine wp_region_lit ?_
  refine ls_ex (some 18) (.agg #[.int .i64 p, .int .i64 n, .int .i64 m, .int .i64 k, .slice (some ⟨a0, 0, none⟩) qs.length c]) rfl rfl (exec_load_all 28 _ rfl w.heap.size rfl _ _ _ hz5 Try.underlying28 rfl 5 (by kernel_rfl) rfl) ?_
  go_frame
  refine ls_ex (some 19) (.int .i64 I) rfl rfl (exec_move _ rfl (.int .i64 I) rfl) ?_
  go_frame
  refine ls_ex (some 20) (.int .i64 J) rfl rfl (exec_move _ rfl (.int .i64 J) rfl) ?_
  go_frame
  refine ls_op rfl (fun K' hK' => ?_)
  have lz17 := hB.size
  have lz18 := hz5.lt
  have lz19 := hz11.lt
  refine wp_new (some 21) rfl (exec_bsi2 _ _ rfl I J rfl rfl) (fun Wz20 nnz21 => ?_)
  have bz22 := nnz21.below (Below.refl _ _) (Nat.le_refl _)
  replace hB := below_after hB bz22
  replace hz5 := hz5.after bz22
  replace hz11 := hz11.after bz22
  have hxz23 : At Wz20 Wz12.heap.size (.cells #[.int .i64 I, .int .i64 J] 2 (0, 0)) := nnz21.at_
  refine hK' _ _ ?_
  clear hK' K' nnz21 bz22
  go_frame
  refine ls_op rfl (fun K' hK' => ?_)
  have lz26 := hB.size
  have lz27 := hz5.lt
  have lz28 := hz11.lt
  have lz29 := hxz23.lt
  refine wp_call2 (some 22) rfl 25 _ _ _ rfl (fun args w => by kernel_rfl) _ _ rfl rfl _ (l03Numbers_c p n m k _ c qs.length (Wz12.heap.size) 2 [(I : Int), (J : Int)] _ (by omega) (by simp) (fun t ht => by match t, ht with | 0, _ => exact hxz23.at_ 0 | 1, _ => exact hxz23.at_ 1)) (fun e Wz24 h => ?_)
  obtain ⟨rfl, bz25⟩ := h
  replace hB := below_after hB bz25
  replace hz5 := hz5.after bz25
  replace hz11 := hz11.after bz25
  replace hxz23 := hxz23.after bz25
  rw [Hxs.out]
  clear bz25
  refine ⟨_, rfl, ?_⟩
  refine hK' _ _ ?_
  clear hK' K'
  go_frame
  refine ls_ex (some 23) (.bool false) rfl rfl (exec_not _ _ rfl true rfl) ?_
  go_frame
  refine ls_ex (some 24) (.bool false) rfl rfl (exec_move _ rfl (.bool false) rfl) ?_
  go_frame
  refine ls_ex_g (some 25) (.int .i64 F) rfl rfl (exec_move _ rfl (.int .i64 F) rfl) ?_
  go_frame
  refine ls_op_g rfl (fun K' hK' => ?_)
  have lz32 := hB.size
  have lz33 := hz5.lt
  have lz34 := hz11.lt
  have lz35 := hxz23.lt
  refine wp_call3 (some 26) rfl 26 _ _ _ _ rfl (fun args w => by kernel_rfl) _ _ _ rfl rfl rfl _ (l01In_c F 0 2 _) (fun e Wz30 h => ?_)
  obtain ⟨rfl, rfl⟩ := h
  rw [Hf2.out]
  refine ⟨_, rfl, ?_⟩
  refine hK' _ _ ?_
  clear hK' K'
  go_frame
  refine ls_ex_g (some 27) (.bool false) rfl rfl (exec_not _ _ rfl true rfl) ?_
  go_frame
  refine ls_ex (some 28) (.bool false) rfl rfl (exec_pick _ _ _ rfl false rfl (.bool false) rfl) ?_
  go_frame
  refine ls_ex (some 29) (.bool false) rfl rfl (exec_move _ rfl (.bool false) rfl) ?_
  go_frame
  refine ls_ex_g (some 30) (.int .i64 s) rfl rfl (exec_move _ rfl (.int .i64 s) rfl) ?_
  go_frame
  refine ls_ex_g (some 31) (.pointer (some ⟨w.heap.size, 0, none⟩)) rfl rfl (exec_fieldAddr 28 _ 0 rfl _ (by kernel_rfl)) ?_
  go_frame
  refine ls_ex_g (some 32) (.int .i64 p) rfl rfl (exec_load_one 2 _ rfl w.heap.size 0 rfl (.int .i64 p) _ Try.underlying2 rfl (hz5.at_ 0)) ?_
  go_frame
  refine ls_ex_g (some 33) (.int .i64 (p - 1)) rfl rfl (exec_sub _ _ _ _ rfl p 1 (p - 1) rfl rfl (IntWalk.i64_in _ (by omega))) ?_
  go_frame
  refine ls_op_g rfl (fun K' hK' => ?_)
  have lz38 := hB.size
  have lz39 := hz5.lt
  have lz40 := hz11.lt
  have lz41 := hxz23.lt
  refine wp_call3 (some 34) rfl 26 _ _ _ _ rfl (fun args w => by kernel_rfl) _ _ _ rfl rfl rfl _ (l01In_c s 1 (p - 1) _) (fun e Wz36 h => ?_)
  obtain ⟨rfl, rfl⟩ := h
  rw [Hsn.out]
  refine ⟨_, rfl, ?_⟩
  refine hK' _ _ ?_
  clear hK' K'
  go_frame
  refine ls_ex_g (some 35) (.bool false) rfl rfl (exec_not _ _ rfl true rfl) ?_
  go_frame
  refine ls_ex (some 36) (.bool false) rfl rfl (exec_pick _ _ _ rfl false rfl (.bool false) rfl) ?_
  go_frame
  refine ls_ex (some 17) (.bool false) rfl rfl (exec_assign _ rfl (.bool false) rfl) ?_
  go_frame
  refine wpList_nil ?_
  go_upto_region 5 with (fail)
  refine wp_region_y (zs := []) (S := fun w' => Below w.heap.size w w' ∧ At w' w.heap.size (.cells #[.int .i64 p, .int .i64 n, .int .i64 m, .int .i64 k, .slice (some ⟨a0, 0, none⟩) qs.length c] 28 (0, 0))) (S2 := fun w' => True) (by kernel_rfl) ?_
  change wpAnyY _ _ _ _ _ _ _ _ _ _ (World.drew _)
  generalize hwdz42 : World.drew _ = wdz42
  replace hB : Below w.heap.size w wdz42 := by rw [← hwdz42]; exact hB.drew
  replace hz5 : At wdz42 w.heap.size (.cells #[.int .i64 p, .int .i64 n, .int .i64 m, .int .i64 k, .slice (some ⟨a0, 0, none⟩) qs.length c] 28 (0, 0)) := by rw [← hwdz42]; exact hz5
  replace hz11 : At wdz42 Wz2.heap.size (.cells #[.int .i64 0, .int .i64 0, .int .i64 0, .int .i64 0, .slice none 0 0] 28 (0, 0)) := by rw [← hwdz42]; exact hz11
  replace hxz23 : At wdz42 Wz12.heap.size (.cells #[.int .i64 I, .int .i64 J] 2 (0, 0)) := by rw [← hwdz42]; exact hxz23
  clear hwdz42
  refine y_yield 0 (some 39) (.int .i64 I) rfl (by kernel_rfl) (by kernel_rfl) (by kernel_rfl) (fun _ _ _ h => h) rfl rfl ⟨hB, hz5⟩ (fun w' h' => exec_move _ rfl (.int .i64 I) rfl) ?_
  go_frame
  refine y_yield 1 (some 40) (.int .i64 J) rfl (by kernel_rfl) (by kernel_rfl) (by kernel_rfl) (fun _ _ _ h => h) rfl rfl ⟨hB, hz5⟩ (fun w' h' => exec_move _ rfl (.int .i64 J) rfl) ?_
  go_frame
  refine y_yield 2 (some 41) (.bool false) rfl (by kernel_rfl) (by kernel_rfl) (by kernel_rfl) (fun _ _ _ h => h) rfl rfl ⟨hB, hz5⟩ (fun w' h' => exec_eql _ _ _ _ rfl I J rfl rfl false (beq_eq_false_iff_ne.2 (by omega))) ?_
  go_frame
  refine y_yield 3 (some 42) (.bool false) rfl (by kernel_rfl) (by kernel_rfl) (by kernel_rfl) (fun _ _ _ h => h) rfl rfl ⟨hB, hz5⟩ (fun w' h' => exec_move _ rfl (.bool false) rfl) ?_
  go_frame
  refine y_yield 4 (some 43) (.pointer (some ⟨w.heap.size, 4, none⟩)) rfl (by kernel_rfl) (by kernel_rfl) (by kernel_rfl) (fun _ _ _ h => h) rfl rfl ⟨hB, hz5⟩ (fun w' h' => exec_fieldAddr 28 _ 4 rfl _ (by kernel_rfl)) ?_
  go_frame
  refine y_yield 5 (some 44) (.slice (some ⟨a0, 0, none⟩) qs.length c) rfl (by kernel_rfl) (by kernel_rfl) (by kernel_rfl) (fun _ _ _ h => h) rfl rfl ⟨hB, hz5⟩ (fun w' h' => exec_load_one 26 _ rfl w.heap.size 4 rfl (.slice (some ⟨a0, 0, none⟩) qs.length c) _ Try.underlying26 rfl (h'.2.at_ 4)) ?_
  go_frame
  refine y_yield 6 (some 45) (.int .i64 I) rfl (by kernel_rfl) (by kernel_rfl) (by kernel_rfl) (fun _ _ _ h => h) rfl rfl ⟨hB, hz5⟩ (fun w' h' => exec_move _ rfl (.int .i64 I) rfl) ?_
  go_frame
  refine y_yield 7 (some 46) (.pointer (some ⟨a0, I * 27, none⟩)) rfl (by kernel_rfl) (by kernel_rfl) (by kernel_rfl) (fun _ _ _ h => h) rfl rfl ⟨hB, hz5⟩ (fun w' h' => exec_ix0 _ 52 _ _ rfl a0 qs.length c I 27 rfl rfl Try.underlying26 (by kernel_rfl) (by omega)) ?_
  go_frame
  refine y_yield 8 (some 47) (.agg (u8s (Q))) rfl (by kernel_rfl) (by kernel_rfl) (by kernel_rfl) (fun _ _ _ h => h) rfl rfl ⟨hB, hz5⟩ (fun w' h' => exec_load_cells 52 _ rfl a0 (I * 27) rfl (Q) _ 27 (rdF0 (hR.keep h'.1) HQi.out) Try.underlying52 rfl (by kernel_rfl) (HQ.out.len)) ?_
  go_frame
  refine y_yield 9 (some 48) (.int .i64 F) rfl (by kernel_rfl) (by kernel_rfl) (by kernel_rfl) (fun _ _ _ h => h) rfl rfl ⟨hB, hz5⟩ (fun w' h' => exec_move _ rfl (.int .i64 F) rfl) ?_
  go_frame
  refine y_yield 11 (some 50) (.pointer (some ⟨w.heap.size, 4, none⟩)) rfl (by kernel_rfl) (by kernel_rfl) (by kernel_rfl) (fun _ _ _ h => h) rfl rfl ⟨hB, hz5⟩ (fun w' h' => exec_fieldAddr 28 _ 4 rfl _ (by kernel_rfl)) ?_
  go_frame
  refine y_yield 12 (some 51) (.slice (some ⟨a0, 0, none⟩) qs.length c) rfl (by kernel_rfl) (by kernel_rfl) (by kernel_rfl) (fun _ _ _ h => h) rfl rfl ⟨hB, hz5⟩ (fun w' h' => exec_load_one 26 _ rfl w.heap.size 4 rfl (.slice (some ⟨a0, 0, none⟩) qs.length c) _ Try.underlying26 rfl (h'.2.at_ 4)) ?_
  go_frame
  refine y_yield 13 (some 52) (.int .i64 J) rfl (by kernel_rfl) (by kernel_rfl) (by kernel_rfl) (fun _ _ _ h => h) rfl rfl ⟨hB, hz5⟩ (fun w' h' => exec_move _ rfl (.int .i64 J) rfl) ?_
  go_frame
  refine y_yield 14 (some 53) (.pointer (some ⟨a0, J * 27, none⟩)) rfl (by kernel_rfl) (by kernel_rfl) (by kernel_rfl) (fun _ _ _ h => h) rfl rfl ⟨hB, hz5⟩ (fun w' h' => exec_ix0 _ 52 _ _ rfl a0 qs.length c J 27 rfl rfl Try.underlying26 (by kernel_rfl) (by omega)) ?_
  go_frame
  refine y_yield 15 (some 54) (.agg (u8s (R))) rfl (by kernel_rfl) (by kernel_rfl) (by kernel_rfl) (fun _ _ _ h => h) rfl rfl ⟨hB, hz5⟩ (fun w' h' => exec_load_cells 52 _ rfl a0 (J * 27) rfl (R) _ 27 (rdF0 (hR.keep h'.1) HRj.out) Try.underlying52 rfl (by kernel_rfl) (HRb.out.len)) ?_
  go_frame
  refine y_yield 16 (some 55) (.int .i64 F) rfl (by kernel_rfl) (by kernel_rfl) (by kernel_rfl) (fun _ _ _ h => h) rfl rfl ⟨hB, hz5⟩ (fun w' h' => exec_move _ rfl (.int .i64 F) rfl) ?_
  go_frame
  refine y_oper 10 (by kernel_rfl) rfl rfl (fun K' hK' => ?_)
  have lz45 := hB.size
  have lz46 := hz5.lt
  have lz47 := hz11.lt
  have lz48 := hxz23.lt
  refine wp_call2 (some 49) rfl 27 _ _ _ rfl (fun args w => by kernel_rfl) _ _ rfl rfl _ (l03Factor_c Q F HQ.out hF3 _) (fun e Wz43 h => ?_)
  obtain ⟨rfl, bz44⟩ := h
  replace hB := below_after hB bz44
  replace hz5 := hz5.after bz44
  replace hz11 := hz11.after bz44
  replace hxz23 := hxz23.after bz44
  clear bz44
  refine ⟨_, rfl, ?_⟩
  refine hK' _ _ ⟨hB, hz5⟩ (fun _ => trivial) ?_
  clear hK' K'
  go_frame
  refine y_oper 17 (by kernel_rfl) rfl rfl (fun K' hK' => ?_)
  have lz51 := hB.size
  have lz52 := hz5.lt
  have lz53 := hz11.lt
  have lz54 := hxz23.lt
  refine wp_call2 (some 56) rfl 27 _ _ _ rfl (fun args w => by kernel_rfl) _ _ rfl rfl _ (l03Factor_c R F HRb.out hF3 _) (fun e Wz49 h => ?_)
  obtain ⟨rfl, bz50⟩ := h
  replace hB := below_after hB bz50
  replace hz5 := hz5.after bz50
  replace hz11 := hz11.after bz50
  replace hxz23 := hxz23.after bz50
  clear bz50
  refine ⟨_, rfl, ?_⟩
  refine hK' _ _ ⟨hB, hz5⟩ (fun _ => trivial) ?_
  clear hK' K'
  go_frame
  refine y_yield 18 (some 57) (.bool true) rfl (by kernel_rfl) (by kernel_rfl) (by kernel_rfl) (fun _ _ _ h => h) rfl rfl ⟨hB, hz5⟩ (fun w' h' => exec_neqFc _ _ _ rfl (facQ Q F) (facQ R F) rfl rfl (facQ_bytes HQ.out hF3).len (facQ_bytes HRb.out hF3).len true HNE.out) ?_
  go_frame
  refine y_yield 19 (some 58) (.bool true) rfl (by kernel_rfl) (by kernel_rfl) (by kernel_rfl) (fun _ _ _ h => h) rfl rfl ⟨hB, hz5⟩ (fun w' h' => exec_pick _ _ _ rfl false rfl (.bool true) rfl) ?_
  go_frame
  refine y_oper 20 (by kernel_rfl) rfl rfl (fun K' hK' => ?_)
  refine wp_exec (some 38) rfl (.bool true) (exec_assign _ rfl (.bool true) rfl) ?_
  refine hK' _ _ ⟨hB, hz5⟩ (fun _ => trivial) ?_
  clear hK' K'
  go_frame
  refine y_done (by kernel_rfl) ?_ _
  go_upto_region 6 with (fail)
  refine wp_region_lit ?_
  refine ls_ex (some 59) (.agg #[.int .i64 0, .int .i64 0, .int .i64 0, .int .i64 0, .slice none 0 0]) rfl rfl (exec_build_nil 28 rfl _ (by kernel_rfl)) ?_
  go_frame
  refine ls_op rfl (fun K' hK' => ?_)
  refine wp_store_all 28 _ _ rfl rfl Wz2.heap.size rfl #[.int .i64 0, .int .i64 0, .int .i64 0, .int .i64 0, .slice none 0 0] rfl _ _ hz11 5 (by kernel_rfl) rfl rfl (one5 _ _ _ _ _ _ _) (fun Wz55 pz56 => ?_)
  replace hB := pz56.below hB (by omega)
  replace hz5 := pz56.other hz5 (by omega)
  replace hxz23 := pz56.other hxz23 (by omega)
  replace hz11 : At Wz55 Wz2.heap.size (.cells #[.int .i64 0, .int .i64 0, .int .i64 0, .int .i64 0, .slice none 0 0] 28 (0, 0)) := pz56.at_
  refine hK' _ _ ?_
  clear hK' K' pz56
  refine ls_ex (some 11) (.int .i64 5) rfl rfl (exec_assign _ rfl (.int .i64 5) rfl) ?_
  go_frame
  refine wpList_nil ?_
  go_wp2_with fail
  refine bodyPost_ret (results_at2 rfl _ _ Wz2.heap.size _ _ _ rfl _ rfl hz11 Try.underlying28 rfl 5 (by kernel_rfl) rfl) rfl ?_
  unfold ResS fpZ fpL
  rw [HC.out]
  exact ⟨_, rfl, Own.nil _ _, hB⟩
set_option maxHeartbeats 4000000 in
theorem specFlipP_y (p n m k : Int) (a0 c : Nat) (qs : List (List Nat)) (I J F : Nat) (s : Int) (Q R : List Nat) (w : World) (hR : Rd w (some ⟨a0, 0, none⟩) qs) (hQ : qs[I]? = some Q) (hRj : qs[J]? = some R) (hF3 : F < 3) (hs : schemeB p n m k qs = true) (hsr : (decide (1 ≤ s) && decide (s ≤ p - 1)) = true) (hne : I ≠ J) (hq : (facQ Q F == facQ R F) = true) :
    Calls Try.prog 8 #[.agg #[.int .i64 p, .int .i64 n, .int .i64 m, .int .i64 k, .slice (some ⟨a0, 0, none⟩) qs.length c], .int .i64 I, .int .i64 J, .int .i64 F, .int .i64 s] w (ResS w (fpZ (fpCode p n m k qs I J F s) p) (fpZ (fpCode p n m k qs I J F s) n) (fpZ (fpCode p n m k qs I J F s) m) (fpZ (fpCode p n m k qs I J F s) k) (fpL (fpCode p n m k qs I J F s) (fpQs p qs I J F s)) (fpCode p n m k qs I J F s)) := by
  have hB := Below.refl w.heap.size w
  have hp5 := primeB_5 (sizesB_parts (schemeB_sizes hs)).1
  have h30 := schemeB_len hs
  have hI := (List.getElem?_eq_some_iff.1 hQ).1
  have hJ := (List.getElem?_eq_some_iff.1 hRj).1
  have hi9 : inI (I : Int) qs.length = true := by simp [inI]; omega
  have hj9 : inI (J : Int) qs.length = true := by simp [inI]; omega
  have hf9 : inI (F : Int) 3 = true := by simp [inI]; omega
  have hfl : flB Q R I J F = true := by unfold flB; rw [hq, decide_eq_true hne]; rfl
  have HC : Hid (fpCode p n m k qs I J F s = 0) := Lib.hid (by unfold fpCode; rw [hs, hi9, hj9, hf9, hsr, Int.toNat_natCast, Int.toNat_natCast, Int.toNat_natCast, hQ, hRj, Option.getD_some, Option.getD_some, hfl]; rfl)
  obtain ⟨FL, hFL⟩ : ∃ z9, flL p s qs I J F Q R = z9 := ⟨_, rfl⟩
  have HFQ : Hid (fpQs p qs I J F s = FL) := Lib.hid (by unfold fpQs; rw [Int.toNat_natCast, Int.toNat_natCast, Int.toNat_natCast, hQ, hRj, Option.getD_some, Option.getD_some, hFL])
  have HFL8 := Lib.hid hFL
  obtain ⟨M8, hM8⟩ : ∃ z9, FL.length = z9 := ⟨_, rfl⟩
  have HM8 := Lib.hid hM8
  have hp2 := prime_two (sizesB_parts (schemeB_sizes hs)).1
  have hs9 : 1 ≤ s ∧ s ≤ p - 1 := by simpa only [Bool.and_eq_true, decide_eq_true_eq] using hsr
  have Hsn := Lib.hid hsr
  have Hs := Lib.hid hs
  have HIi := Lib.hid hi9
  have HIj := Lib.hid hj9
  have HIf := Lib.hid hf9
  have Hfl := Lib.hid hfl
  have HQi := Lib.hid hQ
  have HRj := Lib.hid hRj
  have HQ := Lib.hid (hR.good _ (List.mem_of_getElem? hQ))
  have HRb := Lib.hid (hR.good _ (List.mem_of_getElem? hRj))
  have Hxs : Hid (([(I : Int), (J : Int)].all fun x => inI x qs.length) = true) := Lib.hid (by simp [hi9, hj9])
  have Hf2 : Hid ((decide (0 ≤ (F : Int)) && decide ((F : Int) ≤ 2)) = true) := Lib.hid (by rw [← hf9]; exact inI_sub F 3)
  have HNE : Hid ((!(facQ Q F == facQ R F)) = false) := Lib.hid (by rw [hq]; rfl)
  clear hq
  clear hs hsr hi9 hj9 hf9 hfl hQ hRj hFL hM8
  go_enter Try.func8, Try.ntmps8
  go_upto_region 0 with (fail)
  refine wp_region_lit ?_
  refine ls_op rfl (fun K' hK' => ?_)
  have lz1 := hB.size
  refine wp_new (some 5) rfl (exec_box 28 _ rfl (#[.int .i64 p, .int .i64 n, .int .i64 m, .int .i64 k, .slice (some ⟨a0, 0, none⟩) qs.length c]) rfl) (fun Wz2 nnz3 => ?_)
  have bz4 := nnz3.below (Below.refl _ _) (Nat.le_refl _)
  replace hB := below_after hB bz4
  have hz5 : At Wz2 w.heap.size (.cells #[.int .i64 p, .int .i64 n, .int .i64 m, .int .i64 k, .slice (some ⟨a0, 0, none⟩) qs.length c] 28 (0, 0)) := nnz3.at_
  refine hK' _ _ ?_
  clear hK' K' nnz3 bz4
  go_frame
  refine ls_op rfl (fun K' hK' => ?_)
  have lz6 := hB.size
  have lz7 := hz5.lt
  refine wp_new (some 10) rfl (al_impl_Scheme rfl) (fun Wz8 nnz9 => ?_)
  have bz10 := nnz9.below (Below.refl _ _) (Nat.le_refl _)
  replace hB := below_after hB bz10
  replace hz5 := hz5.after bz10
  have hz11 : At Wz8 Wz2.heap.size (.cells #[.int .i64 0, .int .i64 0, .int .i64 0, .int .i64 0, .slice none 0 0] 28 (0, 0)) := nnz9.at_
  refine hK' _ _ ?_
  clear hK' K' nnz9 bz10
  go_frame
  refine ls_ex (some 11) (.int .i64 0) rfl rfl (exec_assign _ rfl (.int .i64 0) rfl) ?_
  go_frame
  refine wpList_nil ?_
  go_upto_region 1 with (fail)
  refine wp_region_lit ?_
  refine ls_ex (some 13) (.agg #[.int .i64 p, .int .i64 n, .int .i64 m, .int .i64 k, .slice (some ⟨a0, 0, none⟩) qs.length c]) rfl rfl (exec_load_all 28 _ rfl w.heap.size rfl _ _ _ hz5 Try.underlying28 rfl 5 (by kernel_rfl) rfl) ?_
  go_frame
  refine ls_op rfl (fun K' hK' => ?_)
  have lz14 := hB.size
  have lz15 := hz5.lt
  have lz16 := hz11.lt
  refine wp_call1 (some 14) rfl 24 _ _ rfl (fun args w => by kernel_rfl) _ rfl _ (l01Is_c p n m k (some ⟨a0, 0, none⟩) c qs _ (hR.keep hB) (by omega)) (fun e Wz12 h => ?_)
  obtain ⟨rfl, bz13⟩ := h
  replace hB := below_after hB bz13
  replace hz5 := hz5.after bz13
  replace hz11 := hz11.after bz13
  rw [Hs.out]
  clear bz13
  refine ⟨_, rfl, ?_⟩
  refine hK' _ _ ?_
  clear hK' K'
  go_frame
  refine ls_ex (some 15) (.bool false) rfl rfl (exec_not _ _ rfl true rfl) ?_
  go_frame
  refine ls_ex (some 12) (.bool false) rfl rfl (exec_assign _ rfl (.bool false) rfl) ?_
  go_frame
  refine wpList_nil ?_
  go_upto_region 3 with (fail)
  refine wp_region_lit ?_
  refine ls_ex (some 18) (.agg #[.int .i64 p, .int .i64 n, .int .i64 m, .int .i64 k, .slice (some ⟨a0, 0, none⟩) qs.length c]) rfl rfl (exec_load_all 28 _ rfl w.heap.size rfl _ _ _ hz5 Try.underlying28 rfl 5 (by kernel_rfl) rfl) ?_
  go_frame
  refine ls_ex (some 19) (.int .i64 I) rfl rfl (exec_move _ rfl (.int .i64 I) rfl) ?_
  go_frame
  refine ls_ex (some 20) (.int .i64 J) rfl rfl (exec_move _ rfl (.int .i64 J) rfl) ?_
  go_frame
  refine ls_op rfl (fun K' hK' => ?_)
  have lz17 := hB.size
  have lz18 := hz5.lt
  have lz19 := hz11.lt
  refine wp_new (some 21) rfl (exec_bsi2 _ _ rfl I J rfl rfl) (fun Wz20 nnz21 => ?_)
  have bz22 := nnz21.below (Below.refl _ _) (Nat.le_refl _)
  replace hB := below_after hB bz22
  replace hz5 := hz5.after bz22
  replace hz11 := hz11.after bz22
  have hxz23 : At Wz20 Wz12.heap.size (.cells #[.int .i64 I, .int .i64 J] 2 (0, 0)) := nnz21.at_
  refine hK' _ _ ?_
  clear hK' K' nnz21 bz22
  go_frame
  refine ls_op rfl (fun K' hK' => ?_)
  have lz26 := hB.size
  have lz27 := hz5.lt
  have lz28 := hz11.lt
  have lz29 := hxz23.lt
  refine wp_call2 (some 22) rfl 25 _ _ _ rfl (fun args w => by kernel_rfl) _ _ rfl rfl _ (l03Numbers_c p n m k _ c qs.length (Wz12.heap.size) 2 [(I : Int), (J : Int)] _ (by omega) (by simp) (fun t ht => by match t, ht with | 0, _ => exact hxz23.at_ 0 | 1, _ => exact hxz23.at_ 1)) (fun e Wz24 h => ?_)
  obtain ⟨rfl, bz25⟩ := h
  replace hB := below_after hB bz25
  replace hz5 := hz5.after bz25
  replace hz11 := hz11.after bz25
  replace hxz23 := hxz23.after bz25
  rw [Hxs.out]
  clear bz25
  refine ⟨_, rfl, ?_⟩
  refine hK' _ _ ?_
  clear hK' K'
  go_frame
  refine ls_ex (some 23) (.bool false) rfl rfl (exec_not _ _ rfl true rfl) ?_
  go_frame
  refine ls_ex (some 24) (.bool false) rfl rfl (exec_move _ rfl (.bool false) rfl) ?_
  go_frame
  refine ls_ex_g (some 25) (.int .i64 F) rfl rfl (exec_move _ rfl (.int .i64 F) rfl) ?_
  go_frame
  refine ls_op_g rfl (fun K' hK' => ?_)
  have lz32 := hB.size
  have lz33 := hz5.lt
  have lz34 := hz11.lt
  have lz35 := hxz23.lt
  refine wp_call3 (some 26) rfl 26 _ _ _ _ rfl (fun args w => by kernel_rfl) _ _ _ rfl rfl rfl _ (l01In_c F 0 2 _) (fun e Wz30 h => ?_)
  obtain ⟨rfl, rfl⟩ := h
  rw [Hf2.out]
  refine ⟨_, rfl, ?_⟩
  refine hK' _ _ ?_
  clear hK' K'
  go_frame
  refine ls_ex_g (some 27) (.bool false) rfl rfl (exec_not _ _ rfl true rfl) ?_
  go_frame
  refine ls_ex (some 28) (.bool false) rfl rfl (exec_pick _ _ _ rfl false rfl (.bool false) rfl) ?_
  go_frame
  refine ls_ex (some 29) (.bool false) rfl rfl (exec_move _ rfl (.bool false) rfl) ?_
  go_frame
  refine ls_ex_g (some 30) (.int .i64 s) rfl rfl (exec_move _ rfl (.int .i64 s) rfl) ?_
  go_frame
  refine ls_ex_g (some 31) (.pointer (some ⟨w.heap.size, 0, none⟩)) rfl rfl (exec_fieldAddr 28 _ 0 rfl _ (by kernel_rfl)) ?_
  go_frame
  refine ls_ex_g (some 32) (.int .i64 p) rfl rfl (exec_load_one 2 _ rfl w.heap.size 0 rfl (.int .i64 p) _ Try.underlying2 rfl (hz5.at_ 0)) ?_
  go_frame
  refine ls_ex_g (some 33) (.int .i64 (p - 1)) rfl rfl (exec_sub _ _ _ _ rfl p 1 (p - 1) rfl rfl (IntWalk.i64_in _ (by omega))) ?_
  go_frame
  refine ls_op_g rfl (fun K' hK' => ?_)
  have lz38 := hB.size
  have lz39 := hz5.lt
  have lz40 := hz11.lt
  have lz41 := hxz23.lt
  refine wp_call3 (some 34) rfl 26 _ _ _ _ rfl (fun args w => by kernel_rfl) _ _ _ rfl rfl rfl _ (l01In_c s 1 (p - 1) _) (fun e Wz36 h => ?_)
  obtain ⟨rfl, rfl⟩ := h
  rw [Hsn.out]
  refine ⟨_, rfl, ?_⟩
  refine hK' _ _ ?_
  clear hK' K'
  go_frame
  refine ls_ex_g (some 35) (.bool false) rfl rfl (exec_not _ _ rfl true rfl) ?_
  go_frame
  refine ls_ex (some 36) (.bool false) rfl rfl (exec_pick _ _ _ rfl false rfl (.bool false) rfl) ?_
  go_frame
  refine ls_ex (some 17) (.bool false) rfl rfl (exec_assign _ rfl (.bool false) rfl) ?_
  go_frame
  refine wpList_nil ?_
  go_upto_region 5 with (fail)
  refine wp_region_y (zs := []) (S := fun w' => Below w.heap.size w w' ∧ At w' w.heap.size (.cells #[.int .i64 p, .int .i64 n, .int .i64 m, .int .i64 k, .slice (some ⟨a0, 0, none⟩) qs.length c] 28 (0, 0))) (S2 := fun w' => True) (by kernel_rfl) ?_
  change wpAnyY _ _ _ _ _ _ _ _ _ _ (World.drew _)
  generalize hwdz42 : World.drew _ = wdz42
  replace hB : Below w.heap.size w wdz42 := by rw [← hwdz42]; exact hB.drew
  replace hz5 : At wdz42 w.heap.size (.cells #[.int .i64 p, .int .i64 n, .int .i64 m, .int .i64 k, .slice (some ⟨a0, 0, none⟩) qs.length c] 28 (0, 0)) := by rw [← hwdz42]; exact hz5
  replace hz11 : At wdz42 Wz2.heap.size (.cells #[.int .i64 0, .int .i64 0, .int .i64 0, .int .i64 0, .slice none 0 0] 28 (0, 0)) := by rw [← hwdz42]; exact hz11
  replace hxz23 : At wdz42 Wz12.heap.size (.cells #[.int .i64 I, .int .i64 J] 2 (0, 0)) := by rw [← hwdz42]; exact hxz23
  clear hwdz42
  refine y_yield 0 (some 39) (.int .i64 I) rfl (by kernel_rfl) (by kernel_rfl) (by kernel_rfl) (fun _ _ _ h => h) rfl rfl ⟨hB, hz5⟩ (fun w' h' => exec_move _ rfl (.int .i64 I) rfl) ?_
  go_frame
  refine y_yield 1 (some 40) (.int .i64 J) rfl (by kernel_rfl) (by kernel_rfl) (by kernel_rfl) (fun _ _ _ h => h) rfl rfl ⟨hB, hz5⟩ (fun w' h' => exec_move _ rfl (.int .i64 J) rfl) ?_
  go_frame
  refine y_yield 2 (some 41) (.bool false) rfl (by kernel_rfl) (by kernel_rfl) (by kernel_rfl) (fun _ _ _ h => h) rfl rfl ⟨hB, hz5⟩ (fun w' h' => exec_eql _ _ _ _ rfl I J rfl rfl false (beq_eq_false_iff_ne.2 (by omega))) ?_
  go_frame
  refine y_yield 3 (some 42) (.bool false) rfl (by kernel_rfl) (by kernel_rfl) (by kernel_rfl) (fun _ _ _ h => h) rfl rfl ⟨hB, hz5⟩ (fun w' h' => exec_move _ rfl (.bool false) rfl) ?_
  go_frame
  refine y_yield 4 (some 43) (.pointer (some ⟨w.heap.size, 4, none⟩)) rfl (by kernel_rfl) (by kernel_rfl) (by kernel_rfl) (fun _ _ _ h => h) rfl rfl ⟨hB, hz5⟩ (fun w' h' => exec_fieldAddr 28 _ 4 rfl _ (by kernel_rfl)) ?_
  go_frame
  refine y_yield 5 (some 44) (.slice (some ⟨a0, 0, none⟩) qs.length c) rfl (by kernel_rfl) (by kernel_rfl) (by kernel_rfl) (fun _ _ _ h => h) rfl rfl ⟨hB, hz5⟩ (fun w' h' => exec_load_one 26 _ rfl w.heap.size 4 rfl (.slice (some ⟨a0, 0, none⟩) qs.length c) _ Try.underlying26 rfl (h'.2.at_ 4)) ?_
  go_frame
  refine y_yield 6 (some 45) (.int .i64 I) rfl (by kernel_rfl) (by kernel_rfl) (by kernel_rfl) (fun _ _ _ h => h) rfl rfl ⟨hB, hz5⟩ (fun w' h' => exec_move _ rfl (.int .i64 I) rfl) ?_
  go_frame
  refine y_yield 7 (some 46) (.pointer (some ⟨a0, I * 27, none⟩)) rfl (by kernel_rfl) (by kernel_rfl) (by kernel_rfl) (fun _ _ _ h => h) rfl rfl ⟨hB, hz5⟩ (fun w' h' => exec_ix0 _ 52 _ _ rfl a0 qs.length c I 27 rfl rfl Try.underlying26 (by kernel_rfl) (by omega)) ?_
  go_frame
  refine y_yield 8 (some 47) (.agg (u8s (Q))) rfl (by kernel_rfl) (by kernel_rfl) (by kernel_rfl) (fun _ _ _ h => h) rfl rfl ⟨hB, hz5⟩ (fun w' h' => exec_load_cells 52 _ rfl a0 (I * 27) rfl (Q) _ 27 (rdF0 (hR.keep h'.1) HQi.out) Try.underlying52 rfl (by kernel_rfl) (HQ.out.len)) ?_
  go_frame
  refine y_yield 9 (some 48) (.int .i64 F) rfl (by kernel_rfl) (by kernel_rfl) (by kernel_rfl) (fun _ _ _ h => h) rfl rfl ⟨hB, hz5⟩ (fun w' h' => exec_move _ rfl (.int .i64 F) rfl) ?_
  go_frame
  refine y_yield 11 (some 50) (.pointer (some ⟨w.heap.size, 4, none⟩)) rfl (by kernel_rfl) (by kernel_rfl) (by kernel_rfl) (fun _ _ _ h => h) rfl rfl ⟨hB, hz5⟩ (fun w' h' => exec_fieldAddr 28 _ 4 rfl _ (by kernel_rfl)) ?_
  go_frame
  refine y_yield 12 (some 51) (.slice (some ⟨a0, 0, none⟩) qs.length c) rfl (by kernel_rfl) (by kernel_rfl) (by kernel_rfl) (fun _ _ _ h => h) rfl rfl ⟨hB, hz5⟩ (fun w' h' => exec_load_one 26 _ rfl w.heap.size 4 rfl (.slice (some ⟨a0, 0, none⟩) qs.length c) _ Try.underlying26 rfl (h'.2.at_ 4)) ?_
  go_frame
  refine y_yield 13 (some 52) (.int .i64 J) rfl (by kernel_rfl) (by kernel_rfl) (by kernel_rfl) (fun _ _ _ h => h) rfl rfl ⟨hB, hz5⟩ (fun w' h' => exec_move _ rfl (.int .i64 J) rfl) ?_
  go_frame
  refine y_yield 14 (some 53) (.pointer (some ⟨a0, J * 27, none⟩)) rfl (by kernel_rfl) (by kernel_rfl) (by kernel_rfl) (fun _ _ _ h => h) rfl rfl ⟨hB, hz5⟩ (fun w' h' => exec_ix0 _ 52 _ _ rfl a0 qs.length c J 27 rfl rfl Try.underlying26 (by kernel_rfl) (by omega)) ?_
  go_frame
  refine y_yield 15 (some 54) (.agg (u8s (R))) rfl (by kernel_rfl) (by kernel_rfl) (by kernel_rfl) (fun _ _ _ h => h) rfl rfl ⟨hB, hz5⟩ (fun w' h' => exec_load_cells 52 _ rfl a0 (J * 27) rfl (R) _ 27 (rdF0 (hR.keep h'.1) HRj.out) Try.underlying52 rfl (by kernel_rfl) (HRb.out.len)) ?_
  go_frame
  refine y_yield 16 (some 55) (.int .i64 F) rfl (by kernel_rfl) (by kernel_rfl) (by kernel_rfl) (fun _ _ _ h => h) rfl rfl ⟨hB, hz5⟩ (fun w' h' => exec_move _ rfl (.int .i64 F) rfl) ?_
  go_frame
  refine y_oper 10 (by kernel_rfl) rfl rfl (fun K' hK' => ?_)
  have lz45 := hB.size
  have lz46 := hz5.lt
  have lz47 := hz11.lt
  have lz48 := hxz23.lt
  refine wp_call2 (some 49) rfl 27 _ _ _ rfl (fun args w => by kernel_rfl) _ _ rfl rfl _ (l03Factor_c Q F HQ.out hF3 _) (fun e Wz43 h => ?_)
  obtain ⟨rfl, bz44⟩ := h
  replace hB := below_after hB bz44
  replace hz5 := hz5.after bz44
  replace hz11 := hz11.after bz44
  replace hxz23 := hxz23.after bz44
  clear bz44
  refine ⟨_, rfl, ?_⟩
  refine hK' _ _ ⟨hB, hz5⟩ (fun _ => trivial) ?_
  clear hK' K'
  go_frame
  refine y_oper 17 (by kernel_rfl) rfl rfl (fun K' hK' => ?_)
  have lz51 := hB.size
  have lz52 := hz5.lt
  have lz53 := hz11.lt
  have lz54 := hxz23.lt
  refine wp_call2 (some 56) rfl 27 _ _ _ rfl (fun args w => by kernel_rfl) _ _ rfl rfl _ (l03Factor_c R F HRb.out hF3 _) (fun e Wz49 h => ?_)
  obtain ⟨rfl, bz50⟩ := h
  replace hB := below_after hB bz50
  replace hz5 := hz5.after bz50
  replace hz11 := hz11.after bz50
  replace hxz23 := hxz23.after bz50
  clear bz50
  refine ⟨_, rfl, ?_⟩
  refine hK' _ _ ⟨hB, hz5⟩ (fun _ => trivial) ?_
  clear hK' K'
  go_frame
  refine y_yield 18 (some 57) (.bool false) rfl (by kernel_rfl) (by kernel_rfl) (by kernel_rfl) (fun _ _ _ h => h) rfl rfl ⟨hB, hz5⟩ (fun w' h' => exec_neqFc _ _ _ rfl (facQ Q F) (facQ R F) rfl rfl (facQ_bytes HQ.out hF3).len (facQ_bytes HRb.out hF3).len false HNE.out) ?_
  go_frame
  refine y_yield 19 (some 58) (.bool false) rfl (by kernel_rfl) (by kernel_rfl) (by kernel_rfl) (fun _ _ _ h => h) rfl rfl ⟨hB, hz5⟩ (fun w' h' => exec_pick _ _ _ rfl false rfl (.bool false) rfl) ?_
  go_frame
  refine y_oper 20 (by kernel_rfl) rfl rfl (fun K' hK' => ?_)
  refine wp_exec (some 38) rfl (.bool false) (exec_assign _ rfl (.bool false) rfl) ?_
  refine hK' _ _ ⟨hB, hz5⟩ (fun _ => trivial) ?_
  clear hK' K'
  go_frame
  refine y_done (by kernel_rfl) ?_ _
  go_upto_region 7 with (fail)
  refine wp_region_lit ?_
  refine ls_ex (some 60) (.agg #[.int .i64 p, .int .i64 n, .int .i64 m, .int .i64 k, .slice (some ⟨a0, 0, none⟩) qs.length c]) rfl rfl (exec_load_all 28 _ rfl w.heap.size rfl _ _ _ hz5 Try.underlying28 rfl 5 (by kernel_rfl) rfl) ?_
  go_frame
  refine ls_ex (some 61) (.int .i64 I) rfl rfl (exec_move _ rfl (.int .i64 I) rfl) ?_
  go_frame
  refine ls_ex (some 62) (.int .i64 J) rfl rfl (exec_move _ rfl (.int .i64 J) rfl) ?_
  go_frame
  refine ls_ex (some 63) (.int .i64 F) rfl rfl (exec_move _ rfl (.int .i64 F) rfl) ?_
  go_frame
  refine ls_ex (some 64) (.int .i64 s) rfl rfl (exec_move _ rfl (.int .i64 s) rfl) ?_
  go_frame
  refine ls_op rfl (fun K' hK' => ?_)
  have lz57 := hB.size
  have lz58 := hz5.lt
  have lz59 := hz11.lt
  have lz60 := hxz23.lt
  have lo8 := hB.size
  refine wp_call5 (some 65) rfl 28 _ _ _ _ _ _ rfl (fun args w => by kernel_rfl) _ _ _ _ _ rfl rfl rfl rfl rfl _ (l03Flip_c p n m k s a0 c qs I J F Q R _ (hR.keep hB) HQi.out HRj.out hF3 hne (by omega) (by omega) (by omega)) (fun e Wz55 h => ?_)
  obtain ⟨v8, rfl, ho, bz56⟩ := h
  replace hB := below_after hB bz56
  replace hz5 := hz5.after bz56
  replace hz11 := hz11.after bz56
  replace hxz23 := hxz23.after bz56
  rw [HFL8.out] at ho
  obtain ⟨A8, c8, rfl⟩ := Own.rdN2 ho (n := M8) HM8.out
  clear bz56
  refine ⟨_, rfl, ?_⟩
  refine hK' _ _ ?_
  clear hK' K'
  go_frame
  refine ls_op rfl (fun K' hK' => ?_)
  refine wp_store_all 28 _ _ rfl rfl Wz2.heap.size rfl #[.int .i64 p, .int .i64 n, .int .i64 m, .int .i64 k, .slice A8 M8 c8] rfl _ _ hz11 5 (by kernel_rfl) rfl rfl (one5 _ _ _ _ _ _ _) (fun Wz61 pz62 => ?_)
  replace hB := pz62.below hB (by omega)
  replace hz5 := pz62.other hz5 (by omega)
  replace hxz23 := pz62.other hxz23 (by omega)
  replace ho := ho.put pz62 (ho.off hz11 (by decide))
  replace hz11 : At Wz61 Wz2.heap.size (.cells #[.int .i64 p, .int .i64 n, .int .i64 m, .int .i64 k, .slice A8 M8 c8] 28 (0, 0)) := pz62.at_
  refine hK' _ _ ?_
  clear hK' K' pz62
  refine ls_ex (some 11) (.int .i64 0) rfl rfl (exec_assign _ rfl (.int .i64 0) rfl) ?_
  go_frame
  refine wpList_nil ?_
  go_wp2_with fail
  refine bodyPost_ret (results_at2 rfl _ _ Wz2.heap.size _ _ _ rfl _ rfl hz11 Try.underlying28 rfl 5 (by kernel_rfl) rfl) rfl ?_
  unfold ResS fpZ fpL
  rw [HC.out]
  exact ⟨_, rfl, by rw [if_pos rfl, HFQ.out]; exact ho.mono (by omega), hB⟩
theorem specFlipProducts_c (p n m k : Int) (a0 c : Nat) (qs : List (List Nat)) (i j f s : Int) (w : World) (hR : Rd w (some ⟨a0, 0, none⟩) qs) (hlen : qs.length ≤ 1048576) : Calls Try.prog 8 #[.agg #[.int .i64 p, .int .i64 n, .int .i64 m, .int .i64 k, .slice (some ⟨a0, 0, none⟩) qs.length c], .int .i64 i, .int .i64 j, .int .i64 f, .int .i64 s] w (ResS w (fpZ (fpCode p n m k qs i j f s) p) (fpZ (fpCode p n m k qs i j f s) n) (fpZ (fpCode p n m k qs i j f s) m) (fpZ (fpCode p n m k qs i j f s) k) (fpL (fpCode p n m k qs i j f s) (fpQs p qs i j f s)) (fpCode p n m k qs i j f s)) := by
  rcases Bool.eq_false_or_eq_true (schemeB p n m k qs) with hs | hs
  · rcases Bool.eq_false_or_eq_true (inI i qs.length) with hi | hi
    · rcases Bool.eq_false_or_eq_true (inI j qs.length) with hj | hj
      · rcases Bool.eq_false_or_eq_true (inI f 3) with hf | hf
        · by_cases hr1 : 1 ≤ s
          · by_cases hr : p ≤ s
            · exact specFlipP_d2 p n m k a0 c qs i j f s w hR hlen hs hi hj hf hr hr1
            · have hsr : (decide (1 ≤ s) && decide (s ≤ p - 1)) = true := by rw [decide_eq_true hr1, decide_eq_true (by omega : s ≤ p - 1)]; rfl
              have hi' := hi
              have hj' := hj
              have hf' := hf
              simp only [inI, Bool.and_eq_true, decide_eq_true_eq] at hi' hj' hf'
              obtain ⟨I, rfl⟩ := Int.eq_ofNat_of_zero_le hi'.1
              obtain ⟨J, rfl⟩ := Int.eq_ofNat_of_zero_le hj'.1
              obtain ⟨F, rfl⟩ := Int.eq_ofNat_of_zero_le hf'.1
              have hI : I < qs.length := by omega
              have hJ : J < qs.length := by omega
              have hQ := List.getElem?_eq_getElem hI
              have hRj := List.getElem?_eq_getElem hJ
              by_cases hij : I = J
              · exact specFlipP_e p n m k a0 c qs I J F s _ _ w hR hQ hRj (by omega) hs hsr hij
              · rcases Bool.eq_false_or_eq_true (facQ qs[I] F == facQ qs[J] F) with hq | hq
                · exact specFlipP_y p n m k a0 c qs I J F s _ _ w hR hQ hRj (by omega) hs hsr hij hq
                · exact specFlipP_g p n m k a0 c qs I J F s _ _ w hR hQ hRj (by omega) hs hsr hij hq
          · exact specFlipP_d p n m k a0 c qs i j f s w hR hlen hs hi hj hf (by omega)
        · exact specFlipP_c p n m k a0 c qs i j f s w hR hlen hs hi hj hf
      · exact specFlipP_b2 p n m k a0 c qs i j f s w hR hlen hs hi hj
    · exact specFlipP_b p n m k a0 c qs i j f s w hR hlen hs hi
  · exact specFlipP_a p n m k a0 c qs i j f s w hR hlen hs
set_option maxHeartbeats 4000000 in
theorem implFlipP_a (p n m k : Int) (a0 c : Nat) (qs : List (List Nat)) (i j f s : Int) (w : World) (hR : Rd w (some ⟨a0, 0, none⟩) qs) (hlen : qs.length ≤ 1048576) (hs : schemeB p n m k qs = false) :
    Calls Try.prog 10 #[.agg #[.int .i64 p, .int .i64 n, .int .i64 m, .int .i64 k, .slice (some ⟨a0, 0, none⟩) qs.length c], .int .i64 i, .int .i64 j, .int .i64 f, .int .i64 s] w (ResS w (fpZ (fpCode p n m k qs i j f s) p) (fpZ (fpCode p n m k qs i j f s) n) (fpZ (fpCode p n m k qs i j f s) m) (fpZ (fpCode p n m k qs i j f s) k) (fpL (fpCode p n m k qs i j f s) (fpQs p qs i j f s)) (fpCode p n m k qs i j f s)) := by
  have hB := Below.refl w.heap.size w
  have HC : Hid (fpCode p n m k qs i j f s = 1) := Lib.hid (by unfold fpCode; rw [hs]; rfl)
  have Hs := Lib.hid hs
  clear hs
  go_enter Try.func10, Try.ntmps10
  go_upto_region 0 with (fail)
  refine wp_region_lit ?_
  refine ls_op rfl (fun K' hK' => ?_)
  have lz1 := hB.size
  refine wp_new (some 5) rfl (exec_box 28 _ rfl (#[.int .i64 p, .int .i64 n, .int .i64 m, .int .i64 k, .slice (some ⟨a0, 0, none⟩) qs.length c]) rfl) (fun Wz2 nnz3 => ?_)
  have bz4 := nnz3.below (Below.refl _ _) (Nat.le_refl _)
  replace hB := below_after hB bz4
  have hz5 : At Wz2 w.heap.size (.cells #[.int .i64 p, .int .i64 n, .int .i64 m, .int .i64 k, .slice (some ⟨a0, 0, none⟩) qs.length c] 28 (0, 0)) := nnz3.at_
  refine hK' _ _ ?_
  clear hK' K' nnz3 bz4
  go_frame
  refine ls_op rfl (fun K' hK' => ?_)
  have lz6 := hB.size
  have lz7 := hz5.lt
  refine wp_new (some 10) rfl (al_impl_Scheme rfl) (fun Wz8 nnz9 => ?_)
  have bz10 := nnz9.below (Below.refl _ _) (Nat.le_refl _)
  replace hB := below_after hB bz10
  replace hz5 := hz5.after bz10
  have hz11 : At Wz8 Wz2.heap.size (.cells #[.int .i64 0, .int .i64 0, .int .i64 0, .int .i64 0, .slice none 0 0] 28 (0, 0)) := nnz9.at_
  refine hK' _ _ ?_
  clear hK' K' nnz9 bz10
  go_frame
  refine ls_ex (some 11) (.int .i64 0) rfl rfl (exec_assign _ rfl (.int .i64 0) rfl) ?_
  go_frame
  refine wpList_nil ?_
  go_upto_region 1 with (fail)
  refine wp_region_lit ?_
  refine ls_ex (some 13) (.agg #[.int .i64 p, .int .i64 n, .int .i64 m, .int .i64 k, .slice (some ⟨a0, 0, none⟩) qs.length c]) rfl rfl (exec_load_all 28 _ rfl w.heap.size rfl _ _ _ hz5 Try.underlying28 rfl 5 (by kernel_rfl) rfl) ?_
  go_frame
  refine ls_op rfl (fun K' hK' => ?_)
  have lz14 := hB.size
  have lz15 := hz5.lt
  have lz16 := hz11.lt
  refine wp_call1 (some 14) rfl 30 _ _ rfl (fun args w => by kernel_rfl) _ rfl _ (implIsScheme_c p n m k (some ⟨a0, 0, none⟩) c qs _ (hR.keep hB) (by omega)) (fun e Wz12 h => ?_)
  obtain ⟨rfl, bz13⟩ := h
  replace hB := below_after hB bz13
  replace hz5 := hz5.after bz13
  replace hz11 := hz11.after bz13
  rw [Hs.out]
  clear bz13
  refine ⟨_, rfl, ?_⟩
  refine hK' _ _ ?_
  clear hK' K'
  go_frame
  refine ls_ex (some 15) (.bool true) rfl rfl (exec_not _ _ rfl false rfl) ?_
  go_frame
  refine wpList_nil ?_
  go_upto_region 2 with (fail)
  refine wp_region_lit ?_
  refine ls_ex (some 16) (.agg #[.int .i64 0, .int .i64 0, .int .i64 0, .int .i64 0, .slice none 0 0]) rfl rfl (exec_build_nil 28 rfl _ (by kernel_rfl)) ?_
  go_frame
  refine ls_op rfl (fun K' hK' => ?_)
  refine wp_store_all 28 _ _ rfl rfl Wz2.heap.size rfl #[.int .i64 0, .int .i64 0, .int .i64 0, .int .i64 0, .slice none 0 0] rfl _ _ hz11 5 (by kernel_rfl) rfl rfl (one5 _ _ _ _ _ _ _) (fun Wz17 pz18 => ?_)
  replace hB := pz18.below hB (by omega)
  replace hz5 := pz18.other hz5 (by omega)
  replace hz11 : At Wz17 Wz2.heap.size (.cells #[.int .i64 0, .int .i64 0, .int .i64 0, .int .i64 0, .slice none 0 0] 28 (0, 0)) := pz18.at_
  refine hK' _ _ ?_
  clear hK' K' pz18
  refine ls_ex (some 11) (.int .i64 1) rfl rfl (exec_assign _ rfl (.int .i64 1) rfl) ?_
  go_frame
  refine wpList_nil ?_
  go_wp2_with fail
  refine bodyPost_ret (results_at2 rfl _ _ Wz2.heap.size _ _ _ rfl _ rfl hz11 Try.underlying28 rfl 5 (by kernel_rfl) rfl) rfl ?_
  unfold ResS fpZ fpL
  rw [HC.out]
  exact ⟨_, rfl, Own.nil _ _, hB⟩
set_option maxHeartbeats 4000000 in
theorem implFlipP_b (p n m k : Int) (a0 c : Nat) (qs : List (List Nat)) (i j f s : Int) (w : World) (hR : Rd w (some ⟨a0, 0, none⟩) qs) (hlen : qs.length ≤ 1048576) (hs : schemeB p n m k qs = true) (hi : inI i qs.length = false) :
    Calls Try.prog 10 #[.agg #[.int .i64 p, .int .i64 n, .int .i64 m, .int .i64 k, .slice (some ⟨a0, 0, none⟩) qs.length c], .int .i64 i, .int .i64 j, .int .i64 f, .int .i64 s] w (ResS w (fpZ (fpCode p n m k qs i j f s) p) (fpZ (fpCode p n m k qs i j f s) n) (fpZ (fpCode p n m k qs i j f s) m) (fpZ (fpCode p n m k qs i j f s) k) (fpL (fpCode p n m k qs i j f s) (fpQs p qs i j f s)) (fpCode p n m k qs i j f s)) := by
  have hB := Below.refl w.heap.size w
  have HC : Hid (fpCode p n m k qs i j f s = 2) := Lib.hid (by unfold fpCode; rw [hs, hi]; rfl)
  have Hs := Lib.hid hs
  have hp5 := primeB_5 (sizesB_parts (schemeB_sizes hs)).1
  have h30 := schemeB_len hs
  have HIi := Lib.hid hi
  have Hxs : Hid (([(i : Int), (j : Int)].all fun x => inI x qs.length) = false) := Lib.hid (by simp [hi])
  clear hs hi
  go_enter Try.func10, Try.ntmps10
  go_upto_region 0 with (fail)
  refine wp_region_lit ?_
  refine ls_op rfl (fun K' hK' => ?_)
  have lz1 := hB.size
  refine wp_new (some 5) rfl (exec_box 28 _ rfl (#[.int .i64 p, .int .i64 n, .int .i64 m, .int .i64 k, .slice (some ⟨a0, 0, none⟩) qs.length c]) rfl) (fun Wz2 nnz3 => ?_)
  have bz4 := nnz3.below (Below.refl _ _) (Nat.le_refl _)
  replace hB := below_after hB bz4
  have hz5 : At Wz2 w.heap.size (.cells #[.int .i64 p, .int .i64 n, .int .i64 m, .int .i64 k, .slice (some ⟨a0, 0, none⟩) qs.length c] 28 (0, 0)) := nnz3.at_
  refine hK' _ _ ?_
  clear hK' K' nnz3 bz4
  go_frame
  refine ls_op rfl (fun K' hK' => ?_)
  have lz6 := hB.size
  have lz7 := hz5.lt
  refine wp_new (some 10) rfl (al_impl_Scheme rfl) (fun Wz8 nnz9 => ?_)
  have bz10 := nnz9.below (Below.refl _ _) (Nat.le_refl _)
  replace hB := below_after hB bz10
  replace hz5 := hz5.after bz10
  have hz11 : At Wz8 Wz2.heap.size (.cells #[.int .i64 0, .int .i64 0, .int .i64 0, .int .i64 0, .slice none 0 0] 28 (0, 0)) := nnz9.at_
  refine hK' _ _ ?_
  clear hK' K' nnz9 bz10
  go_frame
  refine ls_ex (some 11) (.int .i64 0) rfl rfl (exec_assign _ rfl (.int .i64 0) rfl) ?_
  go_frame
  refine wpList_nil ?_
  go_upto_region 1 with (fail)
  refine wp_region_lit ?_
  refine ls_ex (some 13) (.agg #[.int .i64 p, .int .i64 n, .int .i64 m, .int .i64 k, .slice (some ⟨a0, 0, none⟩) qs.length c]) rfl rfl (exec_load_all 28 _ rfl w.heap.size rfl _ _ _ hz5 Try.underlying28 rfl 5 (by kernel_rfl) rfl) ?_
  go_frame
  refine ls_op rfl (fun K' hK' => ?_)
  have lz14 := hB.size
  have lz15 := hz5.lt
  have lz16 := hz11.lt
  refine wp_call1 (some 14) rfl 30 _ _ rfl (fun args w => by kernel_rfl) _ rfl _ (implIsScheme_c p n m k (some ⟨a0, 0, none⟩) c qs _ (hR.keep hB) (by omega)) (fun e Wz12 h => ?_)
  obtain ⟨rfl, bz13⟩ := h
  replace hB := below_after hB bz13
  replace hz5 := hz5.after bz13
  replace hz11 := hz11.after bz13
  rw [Hs.out]
  clear bz13
  refine ⟨_, rfl, ?_⟩
  refine hK' _ _ ?_
  clear hK' K'
  go_frame
  refine ls_ex (some 15) (.bool false) rfl rfl (exec_not _ _ rfl true rfl) ?_
  go_frame
  refine wpList_nil ?_
  go_upto_region 3 with (fail)
  refine wp_region_lit ?_
  refine ls_ex (some 17) (.agg #[.int .i64 p, .int .i64 n, .int .i64 m, .int .i64 k, .slice (some ⟨a0, 0, none⟩) qs.length c]) rfl rfl (exec_load_all 28 _ rfl w.heap.size rfl _ _ _ hz5 Try.underlying28 rfl 5 (by kernel_rfl) rfl) ?_
  go_frame
  refine ls_ex (some 18) (.int .i64 i) rfl rfl (exec_move _ rfl (.int .i64 i) rfl) ?_
  go_frame
  refine ls_op rfl (fun K' hK' => ?_)
  have lz19 := hB.size
  have lz20 := hz5.lt
  have lz21 := hz11.lt
  refine wp_call2 (some 19) rfl 31 _ _ _ rfl (fun args w => by kernel_rfl) _ _ rfl rfl _ (isProductIndex_c p n m k _ c qs.length i _) (fun e Wz17 h => ?_)
  obtain ⟨rfl, bz18⟩ := h
  replace hB := below_after hB bz18
  replace hz5 := hz5.after bz18
  replace hz11 := hz11.after bz18
  rw [HIi.out]
  clear bz18
  refine ⟨_, rfl, ?_⟩
  refine hK' _ _ ?_
  clear hK' K'
  go_frame
  refine ls_ex (some 20) (.bool true) rfl rfl (exec_not _ _ rfl false rfl) ?_
  go_frame
  refine ls_ex (some 21) (.bool true) rfl rfl (exec_move _ rfl (.bool true) rfl) ?_
  go_frame
  refine ls_skip_g (some 22) rfl rfl ?_
  go_frame
  refine ls_skip_g (some 23) rfl rfl ?_
  go_frame
  refine ls_skip_g (some 24) rfl rfl ?_
  go_frame
  refine ls_skip_g (some 25) rfl rfl ?_
  go_frame
  refine ls_ex (some 26) (.bool true) rfl rfl (exec_pick _ _ _ rfl true rfl (.bool true) rfl) ?_
  go_frame
  refine ls_ex (some 27) (.bool true) rfl rfl (exec_move _ rfl (.bool true) rfl) ?_
  go_frame
  refine ls_skip_g (some 28) rfl rfl ?_
  go_frame
  refine ls_skip_g (some 29) rfl rfl ?_
  go_frame
  refine ls_skip_g (some 30) rfl rfl ?_
  go_frame
  refine ls_ex (some 31) (.bool true) rfl rfl (exec_pick _ _ _ rfl true rfl (.bool true) rfl) ?_
  go_frame
  refine ls_ex (some 32) (.bool true) rfl rfl (exec_move _ rfl (.bool true) rfl) ?_
  go_frame
  refine ls_skip_g (some 33) rfl rfl ?_
  go_frame
  refine ls_skip_g (some 34) rfl rfl ?_
  go_frame
  refine ls_ex (some 35) (.bool true) rfl rfl (exec_pick _ _ _ rfl true rfl (.bool true) rfl) ?_
  go_frame
  refine ls_ex (some 36) (.bool true) rfl rfl (exec_move _ rfl (.bool true) rfl) ?_
  go_frame
  refine ls_skip_g (some 37) rfl rfl ?_
  go_frame
  refine ls_skip_g (some 38) rfl rfl ?_
  go_frame
  refine ls_skip_g (some 39) rfl rfl ?_
  go_frame
  refine ls_skip_g (some 40) rfl rfl ?_
  go_frame
  refine ls_ex (some 41) (.bool true) rfl rfl (exec_pick _ _ _ rfl true rfl (.bool true) rfl) ?_
  go_frame
  refine wpList_nil ?_
  go_upto_region 4 with (fail)
  refine wp_region_lit ?_
  refine ls_ex (some 42) (.agg #[.int .i64 0, .int .i64 0, .int .i64 0, .int .i64 0, .slice none 0 0]) rfl rfl (exec_build_nil 28 rfl _ (by kernel_rfl)) ?_
  go_frame
  refine ls_op rfl (fun K' hK' => ?_)
  refine wp_store_all 28 _ _ rfl rfl Wz2.heap.size rfl #[.int .i64 0, .int .i64 0, .int .i64 0, .int .i64 0, .slice none 0 0] rfl _ _ hz11 5 (by kernel_rfl) rfl rfl (one5 _ _ _ _ _ _ _) (fun Wz22 pz23 => ?_)
  replace hB := pz23.below hB (by omega)
  replace hz5 := pz23.other hz5 (by omega)
  replace hz11 : At Wz22 Wz2.heap.size (.cells #[.int .i64 0, .int .i64 0, .int .i64 0, .int .i64 0, .slice none 0 0] 28 (0, 0)) := pz23.at_
  refine hK' _ _ ?_
  clear hK' K' pz23
  refine ls_ex (some 11) (.int .i64 2) rfl rfl (exec_assign _ rfl (.int .i64 2) rfl) ?_
  go_frame
  refine wpList_nil ?_
  go_wp2_with fail
  refine bodyPost_ret (results_at2 rfl _ _ Wz2.heap.size _ _ _ rfl _ rfl hz11 Try.underlying28 rfl 5 (by kernel_rfl) rfl) rfl ?_
  unfold ResS fpZ fpL
  rw [HC.out]
  exact ⟨_, rfl, Own.nil _ _, hB⟩
set_option maxHeartbeats 4000000 in
theorem implFlipP_b2 (p n m k : Int) (a0 c : Nat) (qs : List (List Nat)) (i j f s : Int) (w : World) (hR : Rd w (some ⟨a0, 0, none⟩) qs) (hlen : qs.length ≤ 1048576) (hs : schemeB p n m k qs = true) (hi : inI i qs.length = true) (hj : inI j qs.length = false) :
    Calls Try.prog 10 #[.agg #[.int .i64 p, .int .i64 n, .int .i64 m, .int .i64 k, .slice (some ⟨a0, 0, none⟩) qs.length c], .int .i64 i, .int .i64 j, .int .i64 f, .int .i64 s] w (ResS w (fpZ (fpCode p n m k qs i j f s) p) (fpZ (fpCode p n m k qs i j f s) n) (fpZ (fpCode p n m k qs i j f s) m) (fpZ (fpCode p n m k qs i j f s) k) (fpL (fpCode p n m k qs i j f s) (fpQs p qs i j f s)) (fpCode p n m k qs i j f s)) := by
  have hB := Below.refl w.heap.size w
  have HC : Hid (fpCode p n m k qs i j f s = 2) := Lib.hid (by unfold fpCode; rw [hs, hi, hj]; rfl)
  have Hs := Lib.hid hs
  have hp5 := primeB_5 (sizesB_parts (schemeB_sizes hs)).1
  have h30 := schemeB_len hs
  have HIi := Lib.hid hi
  have HIj := Lib.hid hj
  have Hxs : Hid (([(i : Int), (j : Int)].all fun x => inI x qs.length) = false) := Lib.hid (by simp [hi, hj])
  clear hs hi hj
  go_enter Try.func10, Try.ntmps10
  go_upto_region 0 with (fail)
  refine wp_region_lit ?_
  refine ls_op rfl (fun K' hK' => ?_)
  have lz1 := hB.size
  refine wp_new (some 5) rfl (exec_box 28 _ rfl (#[.int .i64 p, .int .i64 n, .int .i64 m, .int .i64 k, .slice (some ⟨a0, 0, none⟩) qs.length c]) rfl) (fun Wz2 nnz3 => ?_)
  have bz4 := nnz3.below (Below.refl _ _) (Nat.le_refl _)
  replace hB := below_after hB bz4
  have hz5 : At Wz2 w.heap.size (.cells #[.int .i64 p, .int .i64 n, .int .i64 m, .int .i64 k, .slice (some ⟨a0, 0, none⟩) qs.length c] 28 (0, 0)) := nnz3.at_
  refine hK' _ _ ?_
  clear hK' K' nnz3 bz4
  go_frame
  refine ls_op rfl (fun K' hK' => ?_)
  have lz6 := hB.size
  have lz7 := hz5.lt
  refine wp_new (some 10) rfl (al_impl_Scheme rfl) (fun Wz8 nnz9 => ?_)
  have bz10 := nnz9.below (Below.refl _ _) (Nat.le_refl _)
  replace hB := below_after hB bz10
  replace hz5 := hz5.after bz10
  have hz11 : At Wz8 Wz2.heap.size (.cells #[.int .i64 0, .int .i64 0, .int .i64 0, .int .i64 0, .slice none 0 0] 28 (0, 0)) := nnz9.at_
  refine hK' _ _ ?_
  clear hK' K' nnz9 bz10
  go_frame
  refine ls_ex (some 11) (.int .i64 0) rfl rfl (exec_assign _ rfl (.int .i64 0) rfl) ?_
  go_frame
  refine wpList_nil ?_
  go_upto_region 1 with (fail)
  refine wp_region_lit ?_
  refine ls_ex (some 13) (.agg #[.int .i64 p, .int .i64 n, .int .i64 m, .int .i64 k, .slice (some ⟨a0, 0, none⟩) qs.length c]) rfl rfl (exec_load_all 28 _ rfl w.heap.size rfl _ _ _ hz5 Try.underlying28 rfl 5 (by kernel_rfl) rfl) ?_
  go_frame
  refine ls_op rfl (fun K' hK' => ?_)
  have lz14 := hB.size
  have lz15 := hz5.lt
  have lz16 := hz11.lt
  refine wp_call1 (some 14) rfl 30 _ _ rfl (fun args w => by kernel_rfl) _ rfl _ (implIsScheme_c p n m k (some ⟨a0, 0, none⟩) c qs _ (hR.keep hB) (by omega)) (fun e Wz12 h => ?_)
  obtain ⟨rfl, bz13⟩ := h
  replace hB := below_after hB bz13
  replace hz5 := hz5.after bz13
  replace hz11 := hz11.after bz13
  rw [Hs.out]
  clear bz13
  refine ⟨_, rfl, ?_⟩
  refine hK' _ _ ?_
  clear hK' K'
  go_frame
  refine ls_ex (some 15) (.bool false) rfl rfl (exec_not _ _ rfl true rfl) ?_
  go_frame
  refine wpList_nil ?_
  go_upto_region 3 with (fail)
  refine wp_region_lit ?_
  refine ls_ex (some 17) (.agg #[.int .i64 p, .int .i64 n, .int .i64 m, .int .i64 k, .slice (some ⟨a0, 0, none⟩) qs.length c]) rfl rfl (exec_load_all 28 _ rfl w.heap.size rfl _ _ _ hz5 Try.underlying28 rfl 5 (by kernel_rfl) rfl) ?_
  go_frame
  refine ls_ex (some 18) (.int .i64 i) rfl rfl (exec_move _ rfl (.int .i64 i) rfl) ?_
  go_frame
  refine ls_op rfl (fun K' hK' => ?_)
  have lz19 := hB.size
  have lz20 := hz5.lt
  have lz21 := hz11.lt
  refine wp_call2 (some 19) rfl 31 _ _ _ rfl (fun args w => by kernel_rfl) _ _ rfl rfl _ (isProductIndex_c p n m k _ c qs.length i _) (fun e Wz17 h => ?_)
  obtain ⟨rfl, bz18⟩ := h
  replace hB := below_after hB bz18
  replace hz5 := hz5.after bz18
  replace hz11 := hz11.after bz18
  rw [HIi.out]
  clear bz18
  refine ⟨_, rfl, ?_⟩
  refine hK' _ _ ?_
  clear hK' K'
  go_frame
  refine ls_ex (some 20) (.bool false) rfl rfl (exec_not _ _ rfl true rfl) ?_
  go_frame
  refine ls_ex (some 21) (.bool false) rfl rfl (exec_move _ rfl (.bool false) rfl) ?_
  go_frame
  refine ls_ex_g (some 22) (.agg #[.int .i64 p, .int .i64 n, .int .i64 m, .int .i64 k, .slice (some ⟨a0, 0, none⟩) qs.length c]) rfl rfl (exec_load_all 28 _ rfl w.heap.size rfl _ _ _ hz5 Try.underlying28 rfl 5 (by kernel_rfl) rfl) ?_
  go_frame
  refine ls_ex_g (some 23) (.int .i64 j) rfl rfl (exec_move _ rfl (.int .i64 j) rfl) ?_
  go_frame
  refine ls_op_g rfl (fun K' hK' => ?_)
  have lz24 := hB.size
  have lz25 := hz5.lt
  have lz26 := hz11.lt
  refine wp_call2 (some 24) rfl 31 _ _ _ rfl (fun args w => by kernel_rfl) _ _ rfl rfl _ (isProductIndex_c p n m k _ c qs.length j _) (fun e Wz22 h => ?_)
  obtain ⟨rfl, bz23⟩ := h
  replace hB := below_after hB bz23
  replace hz5 := hz5.after bz23
  replace hz11 := hz11.after bz23
  rw [HIj.out]
  clear bz23
  refine ⟨_, rfl, ?_⟩
  refine hK' _ _ ?_
  clear hK' K'
  go_frame
  refine ls_ex_g (some 25) (.bool true) rfl rfl (exec_not _ _ rfl false rfl) ?_
  go_frame
  refine ls_ex (some 26) (.bool true) rfl rfl (exec_pick _ _ _ rfl false rfl (.bool true) rfl) ?_
  go_frame
  refine ls_ex (some 27) (.bool true) rfl rfl (exec_move _ rfl (.bool true) rfl) ?_
  go_frame
  refine ls_skip_g (some 28) rfl rfl ?_
  go_frame
  refine ls_skip_g (some 29) rfl rfl ?_
  go_frame
  refine ls_skip_g (some 30) rfl rfl ?_
  go_frame
  refine ls_ex (some 31) (.bool true) rfl rfl (exec_pick _ _ _ rfl true rfl (.bool true) rfl) ?_
  go_frame
  refine ls_ex (some 32) (.bool true) rfl rfl (exec_move _ rfl (.bool true) rfl) ?_
  go_frame
  refine ls_skip_g (some 33) rfl rfl ?_
  go_frame
  refine ls_skip_g (some 34) rfl rfl ?_
  go_frame
  refine ls_ex (some 35) (.bool true) rfl rfl (exec_pick _ _ _ rfl true rfl (.bool true) rfl) ?_
  go_frame
  refine ls_ex (some 36) (.bool true) rfl rfl (exec_move _ rfl (.bool true) rfl) ?_
  go_frame
  refine ls_skip_g (some 37) rfl rfl ?_
  go_frame
  refine ls_skip_g (some 38) rfl rfl ?_
  go_frame
  refine ls_skip_g (some 39) rfl rfl ?_
  go_frame
  refine ls_skip_g (some 40) rfl rfl ?_
  go_frame
  refine ls_ex (some 41) (.bool true) rfl rfl (exec_pick _ _ _ rfl true rfl (.bool true) rfl) ?_
  go_frame
  refine wpList_nil ?_
  go_upto_region 4 with (fail)
  refine wp_region_lit ?_
  refine ls_ex (some 42) (.agg #[.int .i64 0, .int .i64 0, .int .i64 0, .int .i64 0, .slice none 0 0]) rfl rfl (exec_build_nil 28 rfl _ (by kernel_rfl)) ?_
  go_frame
  refine ls_op rfl (fun K' hK' => ?_)
  refine wp_store_all 28 _ _ rfl rfl Wz2.heap.size rfl #[.int .i64 0, .int .i64 0, .int .i64 0, .int .i64 0, .slice none 0 0] rfl _ _ hz11 5 (by kernel_rfl) rfl rfl (one5 _ _ _ _ _ _ _) (fun Wz27 pz28 => ?_)
  replace hB := pz28.below hB (by omega)
  replace hz5 := pz28.other hz5 (by omega)
  replace hz11 : At Wz27 Wz2.heap.size (.cells #[.int .i64 0, .int .i64 0, .int .i64 0, .int .i64 0, .slice none 0 0] 28 (0, 0)) := pz28.at_
  refine hK' _ _ ?_
  clear hK' K' pz28
  refine ls_ex (some 11) (.int .i64 2) rfl rfl (exec_assign _ rfl (.int .i64 2) rfl) ?_
  go_frame
  refine wpList_nil ?_
  go_wp2_with fail
  refine bodyPost_ret (results_at2 rfl _ _ Wz2.heap.size _ _ _ rfl _ rfl hz11 Try.underlying28 rfl 5 (by kernel_rfl) rfl) rfl ?_
  unfold ResS fpZ fpL
  rw [HC.out]
  exact ⟨_, rfl, Own.nil _ _, hB⟩
set_option maxHeartbeats 4000000 in
theorem implFlipP_c (p n m k : Int) (a0 c : Nat) (qs : List (List Nat)) (i j f s : Int) (w : World) (hR : Rd w (some ⟨a0, 0, none⟩) qs) (hlen : qs.length ≤ 1048576) (hs : schemeB p n m k qs = true) (hi : inI i qs.length = true) (hj : inI j qs.length = true) (hf : inI f 3 = false) :
    Calls Try.prog 10 #[.agg #[.int .i64 p, .int .i64 n, .int .i64 m, .int .i64 k, .slice (some ⟨a0, 0, none⟩) qs.length c], .int .i64 i, .int .i64 j, .int .i64 f, .int .i64 s] w (ResS w (fpZ (fpCode p n m k qs i j f s) p) (fpZ (fpCode p n m k qs i j f s) n) (fpZ (fpCode p n m k qs i j f s) m) (fpZ (fpCode p n m k qs i j f s) k) (fpL (fpCode p n m k qs i j f s) (fpQs p qs i j f s)) (fpCode p n m k qs i j f s)) := by
  have hB := Below.refl w.heap.size w
  have HC : Hid (fpCode p n m k qs i j f s = 2) := Lib.hid (by unfold fpCode; rw [hs, hi, hj, hf]; rfl)
  have Hs := Lib.hid hs
  have hp5 := primeB_5 (sizesB_parts (schemeB_sizes hs)).1
  have h30 := schemeB_len hs
  have HIi := Lib.hid hi
  have HIj := Lib.hid hj
  have HIf := Lib.hid hf
  have Hxs : Hid (([(i : Int), (j : Int)].all fun x => inI x qs.length) = true) := Lib.hid (by simp [hi, hj])
  have Hf2 : Hid ((decide (0 ≤ f) && decide (f ≤ 2)) = false) := Lib.hid (by rw [← hf]; exact inI_sub f 3)
  clear hs hi hj hf
  go_enter Try.func10, Try.ntmps10
  go_upto_region 0 with (fail)
  refine wp_region_lit ?_
  refine ls_op rfl (fun K' hK' => ?_)
  have lz1 := hB.size
  refine wp_new (some 5) rfl (exec_box 28 _ rfl (#[.int .i64 p, .int .i64 n, .int .i64 m, .int .i64 k, .slice (some ⟨a0, 0, none⟩) qs.length c]) rfl) (fun Wz2 nnz3 => ?_)
  have bz4 := nnz3.below (Below.refl _ _) (Nat.le_refl _)
  replace hB := below_after hB bz4
  have hz5 : At Wz2 w.heap.size (.cells #[.int .i64 p, .int .i64 n, .int .i64 m, .int .i64 k, .slice (some ⟨a0, 0, none⟩) qs.length c] 28 (0, 0)) := nnz3.at_
  refine hK' _ _ ?_
  clear hK' K' nnz3 bz4
  go_frame
  refine ls_op rfl (fun K' hK' => ?_)
  have lz6 := hB.size
  have lz7 := hz5.lt
  refine wp_new (some 10) rfl (al_impl_Scheme rfl) (fun Wz8 nnz9 => ?_)
  have bz10 := nnz9.below (Below.refl _ _) (Nat.le_refl _)
  replace hB := below_after hB bz10
  replace hz5 := hz5.after bz10
  have hz11 : At Wz8 Wz2.heap.size (.cells #[.int .i64 0, .int .i64 0, .int .i64 0, .int .i64 0, .slice none 0 0] 28 (0, 0)) := nnz9.at_
  refine hK' _ _ ?_
  clear hK' K' nnz9 bz10
  go_frame
  refine ls_ex (some 11) (.int .i64 0) rfl rfl (exec_assign _ rfl (.int .i64 0) rfl) ?_
  go_frame
  refine wpList_nil ?_
  go_upto_region 1 with (fail)
  refine wp_region_lit ?_
  refine ls_ex (some 13) (.agg #[.int .i64 p, .int .i64 n, .int .i64 m, .int .i64 k, .slice (some ⟨a0, 0, none⟩) qs.length c]) rfl rfl (exec_load_all 28 _ rfl w.heap.size rfl _ _ _ hz5 Try.underlying28 rfl 5 (by kernel_rfl) rfl) ?_
  go_frame
  refine ls_op rfl (fun K' hK' => ?_)
  have lz14 := hB.size
  have lz15 := hz5.lt
  have lz16 := hz11.lt
  refine wp_call1 (some 14) rfl 30 _ _ rfl (fun args w => by kernel_rfl) _ rfl _ (implIsScheme_c p n m k (some ⟨a0, 0, none⟩) c qs _ (hR.keep hB) (by omega)) (fun e Wz12 h => ?_)
  obtain ⟨rfl, bz13⟩ := h
  replace hB := below_after hB bz13
  replace hz5 := hz5.after bz13
  replace hz11 := hz11.after bz13
  rw [Hs.out]
  clear bz13
  refine ⟨_, rfl, ?_⟩
  refine hK' _ _ ?_
  clear hK' K'
  go_frame
  refine ls_ex (some 15) (.bool false) rfl rfl (exec_not _ _ rfl true rfl) ?_
  go_frame
  refine wpList_nil ?_
  go_upto_region 3 with (fail)
  refine wp_region_lit ?_
  refine ls_ex (some 17) (.agg #[.int .i64 p, .int .i64 n, .int .i64 m, .int .i64 k, .slice (some ⟨a0, 0, none⟩) qs.length c]) rfl rfl (exec_load_all 28 _ rfl w.heap.size rfl _ _ _ hz5 Try.underlying28 rfl 5 (by kernel_rfl) rfl) ?_
  go_frame
  refine ls_ex (some 18) (.int .i64 i) rfl rfl (exec_move _ rfl (.int .i64 i) rfl) ?_
  go_frame
  refine ls_op rfl (fun K' hK' => ?_)
  have lz19 := hB.size
  have lz20 := hz5.lt
  have lz21 := hz11.lt
  refine wp_call2 (some 19) rfl 31 _ _ _ rfl (fun args w => by kernel_rfl) _ _ rfl rfl _ (isProductIndex_c p n m k _ c qs.length i _) (fun e Wz17 h => ?_)
  obtain ⟨rfl, bz18⟩ := h
  replace hB := below_after hB bz18
  replace hz5 := hz5.after bz18
  replace hz11 := hz11.after bz18
  rw [HIi.out]
  clear bz18
  refine ⟨_, rfl, ?_⟩
  refine hK' _ _ ?_
  clear hK' K'
  go_frame
  refine ls_ex (some 20) (.bool false) rfl rfl (exec_not _ _ rfl true rfl) ?_
  go_frame
  refine ls_ex (some 21) (.bool false) rfl rfl (exec_move _ rfl (.bool false) rfl) ?_
  go_frame
  refine ls_ex_g (some 22) (.agg #[.int .i64 p, .int .i64 n, .int .i64 m, .int .i64 k, .slice (some ⟨a0, 0, none⟩) qs.length c]) rfl rfl (exec_load_all 28 _ rfl w.heap.size rfl _ _ _ hz5 Try.underlying28 rfl 5 (by kernel_rfl) rfl) ?_
  go_frame
  refine ls_ex_g (some 23) (.int .i64 j) rfl rfl (exec_move _ rfl (.int .i64 j) rfl) ?_
  go_frame
  refine ls_op_g rfl (fun K' hK' => ?_)
  have lz24 := hB.size
  have lz25 := hz5.lt
  have lz26 := hz11.lt
  refine wp_call2 (some 24) rfl 31 _ _ _ rfl (fun args w => by kernel_rfl) _ _ rfl rfl _ (isProductIndex_c p n m k _ c qs.length j _) (fun e Wz22 h => ?_)
  obtain ⟨rfl, bz23⟩ := h
  replace hB := below_after hB bz23
  replace hz5 := hz5.after bz23
  replace hz11 := hz11.after bz23
  rw [HIj.out]
  clear bz23
  refine ⟨_, rfl, ?_⟩
  refine hK' _ _ ?_
  clear hK' K'
  go_frame
  refine ls_ex_g (some 25) (.bool false) rfl rfl (exec_not _ _ rfl true rfl) ?_
  go_frame
  refine ls_ex (some 26) (.bool false) rfl rfl (exec_pick _ _ _ rfl false rfl (.bool false) rfl) ?_
  go_frame
  refine ls_ex (some 27) (.bool false) rfl rfl (exec_move _ rfl (.bool false) rfl) ?_
  go_frame
  refine ls_ex_g (some 28) (.int .i64 f) rfl rfl (exec_move _ rfl (.int .i64 f) rfl) ?_
  go_frame
  refine ls_op_g rfl (fun K' hK' => ?_)
  have lz29 := hB.size
  have lz30 := hz5.lt
  have lz31 := hz11.lt
  refine wp_call2 (some 29) rfl 32 _ _ _ rfl (fun args w => by kernel_rfl) _ _ rfl rfl _ (isIdx_c f 3 _) (fun e Wz27 h => ?_)
  obtain ⟨rfl, rfl⟩ := h
  rw [HIf.out]
  refine ⟨_, rfl, ?_⟩
  refine hK' _ _ ?_
  clear hK' K'
  go_frame
  refine ls_ex_g (some 30) (.bool true) rfl rfl (exec_not _ _ rfl false rfl) ?_
  go_frame
  refine ls_ex (some 31) (.bool true) rfl rfl (exec_pick _ _ _ rfl false rfl (.bool true) rfl) ?_
  go_frame
  refine ls_ex (some 32) (.bool true) rfl rfl (exec_move _ rfl (.bool true) rfl) ?_
  go_frame
  refine ls_skip_g (some 33) rfl rfl ?_
  go_frame
  refine ls_skip_g (some 34) rfl rfl ?_
  go_frame
  refine ls_ex (some 35) (.bool true) rfl rfl (exec_pick _ _ _ rfl true rfl (.bool true) rfl) ?_
  go_frame
  refine ls_ex (some 36) (.bool true) rfl rfl (exec_move _ rfl (.bool true) rfl) ?_
  go_frame
  refine ls_skip_g (some 37) rfl rfl ?_
  go_frame
  refine ls_skip_g (some 38) rfl rfl ?_
  go_frame
  refine ls_skip_g (some 39) rfl rfl ?_
  go_frame
  refine ls_skip_g (some 40) rfl rfl ?_
  go_frame
  refine ls_ex (some 41) (.bool true) rfl rfl (exec_pick _ _ _ rfl true rfl (.bool true) rfl) ?_
  go_frame
  refine wpList_nil ?_
  go_upto_region 4 with (fail)
  refine wp_region_lit ?_
  refine ls_ex (some 42) (.agg #[.int .i64 0, .int .i64 0, .int .i64 0, .int .i64 0, .slice none 0 0]) rfl rfl (exec_build_nil 28 rfl _ (by kernel_rfl)) ?_
  go_frame
  refine ls_op rfl (fun K' hK' => ?_)
  refine wp_store_all 28 _ _ rfl rfl Wz2.heap.size rfl #[.int .i64 0, .int .i64 0, .int .i64 0, .int .i64 0, .slice none 0 0] rfl _ _ hz11 5 (by kernel_rfl) rfl rfl (one5 _ _ _ _ _ _ _) (fun Wz32 pz33 => ?_)
  replace hB := pz33.below hB (by omega)
  replace hz5 := pz33.other hz5 (by omega)
  replace hz11 : At Wz32 Wz2.heap.size (.cells #[.int .i64 0, .int .i64 0, .int .i64 0, .int .i64 0, .slice none 0 0] 28 (0, 0)) := pz33.at_
  refine hK' _ _ ?_
  clear hK' K' pz33
  refine ls_ex (some 11) (.int .i64 2) rfl rfl (exec_assign _ rfl (.int .i64 2) rfl) ?_
  go_frame
  refine wpList_nil ?_
  go_wp2_with fail
  refine bodyPost_ret (results_at2 rfl _ _ Wz2.heap.size _ _ _ rfl _ rfl hz11 Try.underlying28 rfl 5 (by kernel_rfl) rfl) rfl ?_
  unfold ResS fpZ fpL
  rw [HC.out]
  exact ⟨_, rfl, Own.nil _ _, hB⟩
set_option maxHeartbeats 4000000 in
theorem implFlipP_d (p n m k : Int) (a0 c : Nat) (qs : List (List Nat)) (i j f s : Int) (w : World) (hR : Rd w (some ⟨a0, 0, none⟩) qs) (hlen : qs.length ≤ 1048576) (hs : schemeB p n m k qs = true) (hi : inI i qs.length = true) (hj : inI j qs.length = true) (hf : inI f 3 = true) (hr : s < 1) :
    Calls Try.prog 10 #[.agg #[.int .i64 p, .int .i64 n, .int .i64 m, .int .i64 k, .slice (some ⟨a0, 0, none⟩) qs.length c], .int .i64 i, .int .i64 j, .int .i64 f, .int .i64 s] w (ResS w (fpZ (fpCode p n m k qs i j f s) p) (fpZ (fpCode p n m k qs i j f s) n) (fpZ (fpCode p n m k qs i j f s) m) (fpZ (fpCode p n m k qs i j f s) k) (fpL (fpCode p n m k qs i j f s) (fpQs p qs i j f s)) (fpCode p n m k qs i j f s)) := by
  have hB := Below.refl w.heap.size w
  have hsr : (decide (1 ≤ s) && decide (s ≤ p - 1)) = false := by rw [decide_eq_false (by omega : ¬ 1 ≤ s)]; rfl
  have HC : Hid (fpCode p n m k qs i j f s = 2) := Lib.hid (by unfold fpCode; rw [hs, hi, hj, hf, hsr]; rfl)
  have Hsn := Lib.hid hsr
  have Hs := Lib.hid hs
  have hp5 := primeB_5 (sizesB_parts (schemeB_sizes hs)).1
  have h30 := schemeB_len hs
  have HIi := Lib.hid hi
  have HIj := Lib.hid hj
  have HIf := Lib.hid hf
  have Hxs : Hid (([(i : Int), (j : Int)].all fun x => inI x qs.length) = true) := Lib.hid (by simp [hi, hj])
  have Hf2 : Hid ((decide (0 ≤ f) && decide (f ≤ 2)) = true) := Lib.hid (by rw [← hf]; exact inI_sub f 3)
  clear hs hi hj hf
  clear hsr
  go_enter Try.func10, Try.ntmps10
  go_upto_region 0 with (fail)
  refine wp_region_lit ?_
  refine ls_op rfl (fun K' hK' => ?_)
  have lz1 := hB.size
  refine wp_new (some 5) rfl (exec_box 28 _ rfl (#[.int .i64 p, .int .i64 n, .int .i64 m, .int .i64 k, .slice (some ⟨a0, 0, none⟩) qs.length c]) rfl) (fun Wz2 nnz3 => ?_)
  have bz4 := nnz3.below (Below.refl _ _) (Nat.le_refl _)
  replace hB := below_after hB bz4
  have hz5 : At Wz2 w.heap.size (.cells #[.int .i64 p, .int .i64 n, .int .i64 m, .int .i64 k, .slice (some ⟨a0, 0, none⟩) qs.length c] 28 (0, 0)) := nnz3.at_
  refine hK' _ _ ?_
  clear hK' K' nnz3 bz4
  go_frame
  refine ls_op rfl (fun K' hK' => ?_)
  have lz6 := hB.size
  have lz7 := hz5.lt
  refine wp_new (some 10) rfl (al_impl_Scheme rfl) (fun Wz8 nnz9 => ?_)
  have bz10 := nnz9.below (Below.refl _ _) (Nat.le_refl _)
  replace hB := below_after hB bz10
  replace hz5 := hz5.after bz10
  have hz11 : At Wz8 Wz2.heap.size (.cells #[.int .i64 0, .int .i64 0, .int .i64 0, .int .i64 0, .slice none 0 0] 28 (0, 0)) := nnz9.at_
  refine hK' _ _ ?_
  clear hK' K' nnz9 bz10
  go_frame
  refine ls_ex (some 11) (.int .i64 0) rfl rfl (exec_assign _ rfl (.int .i64 0) rfl) ?_
  go_frame
  refine wpList_nil ?_
  go_upto_region 1 with (fail)
  refine wp_region_lit ?_
  refine ls_ex (some 13) (.agg #[.int .i64 p, .int .i64 n, .int .i64 m, .int .i64 k, .slice (some ⟨a0, 0, none⟩) qs.length c]) rfl rfl (exec_load_all 28 _ rfl w.heap.size rfl _ _ _ hz5 Try.underlying28 rfl 5 (by kernel_rfl) rfl) ?_
  go_frame
  refine ls_op rfl (fun K' hK' => ?_)
  have lz14 := hB.size
  have lz15 := hz5.lt
  have lz16 := hz11.lt
  refine wp_call1 (some 14) rfl 30 _ _ rfl (fun args w => by kernel_rfl) _ rfl _ (implIsScheme_c p n m k (some ⟨a0, 0, none⟩) c qs _ (hR.keep hB) (by omega)) (fun e Wz12 h => ?_)
  obtain ⟨rfl, bz13⟩ := h
  replace hB := below_after hB bz13
  replace hz5 := hz5.after bz13
  replace hz11 := hz11.after bz13
  rw [Hs.out]
  clear bz13
  refine ⟨_, rfl, ?_⟩
  refine hK' _ _ ?_
  clear hK' K'
  go_frame
  refine ls_ex (some 15) (.bool false) rfl rfl (exec_not _ _ rfl true rfl) ?_
  go_frame
  refine wpList_nil ?_
  go_upto_region 3 with (fail)
  refine wp_region_lit ?_
  refine ls_ex (some 17) (.agg #[.int .i64 p, .int .i64 n, .int .i64 m, .int .i64 k, .slice (some ⟨a0, 0, none⟩) qs.length c]) rfl rfl (exec_load_all 28 _ rfl w.heap.size rfl _ _ _ hz5 Try.underlying28 rfl 5 (by kernel_rfl) rfl) ?_
  go_frame
  refine ls_ex (some 18) (.int .i64 i) rfl rfl (exec_move _ rfl (.int .i64 i) rfl) ?_
  go_frame
  refine ls_op rfl (fun K' hK' => ?_)
  have lz19 := hB.size
  have lz20 := hz5.lt
  have lz21 := hz11.lt
  refine wp_call2 (some 19) rfl 31 _ _ _ rfl (fun args w => by kernel_rfl) _ _ rfl rfl _ (isProductIndex_c p n m k _ c qs.length i _) (fun e Wz17 h => ?_)
  obtain ⟨rfl, bz18⟩ := h
  replace hB := below_after hB bz18
  replace hz5 := hz5.after bz18
  replace hz11 := hz11.after bz18
  rw [HIi.out]
  clear bz18
  refine ⟨_, rfl, ?_⟩
  refine hK' _ _ ?_
  clear hK' K'
  go_frame
  refine ls_ex (some 20) (.bool false) rfl rfl (exec_not _ _ rfl true rfl) ?_
  go_frame
  refine ls_ex (some 21) (.bool false) rfl rfl (exec_move _ rfl (.bool false) rfl) ?_
  go_frame
  refine ls_ex_g (some 22) (.agg #[.int .i64 p, .int .i64 n, .int .i64 m, .int .i64 k, .slice (some ⟨a0, 0, none⟩) qs.length c]) rfl rfl (exec_load_all 28 _ rfl w.heap.size rfl _ _ _ hz5 Try.underlying28 rfl 5 (by kernel_rfl) rfl) ?_
  go_frame
  refine ls_ex_g (some 23) (.int .i64 j) rfl rfl (exec_move _ rfl (.int .i64 j) rfl) ?_
  go_frame
  refine ls_op_g rfl (fun K' hK' => ?_)
  have lz24 := hB.size
  have lz25 := hz5.lt
  have lz26 := hz11.lt
  refine wp_call2 (some 24) rfl 31 _ _ _ rfl (fun args w => by kernel_rfl) _ _ rfl rfl _ (isProductIndex_c p n m k _ c qs.length j _) (fun e Wz22 h => ?_)
  obtain ⟨rfl, bz23⟩ := h
  replace hB := below_after hB bz23
  replace hz5 := hz5.after bz23
  replace hz11 := hz11.after bz23
  rw [HIj.out]
  clear bz23
  refine ⟨_, rfl, ?_⟩
  refine hK' _ _ ?_
  clear hK' K'
  go_frame
  refine ls_ex_g (some 25) (.bool false) rfl rfl (exec_not _ _ rfl true rfl) ?_
  go_frame
  refine ls_ex (some 26) (.bool false) rfl rfl (exec_pick _ _ _ rfl false rfl (.bool false) rfl) ?_
  go_frame
  refine ls_ex (some 27) (.bool false) rfl rfl (exec_move _ rfl (.bool false) rfl) ?_
  go_frame
  refine ls_ex_g (some 28) (.int .i64 f) rfl rfl (exec_move _ rfl (.int .i64 f) rfl) ?_
  go_frame
  refine ls_op_g rfl (fun K' hK' => ?_)
  have lz29 := hB.size
  have lz30 := hz5.lt
  have lz31 := hz11.lt
  refine wp_call2 (some 29) rfl 32 _ _ _ rfl (fun args w => by kernel_rfl) _ _ rfl rfl _ (isIdx_c f 3 _) (fun e Wz27 h => ?_)
  obtain ⟨rfl, rfl⟩ := h
  rw [HIf.out]
  refine ⟨_, rfl, ?_⟩
  refine hK' _ _ ?_
  clear hK' K'
  go_frame
  refine ls_ex_g (some 30) (.bool false) rfl rfl (exec_not _ _ rfl true rfl) ?_
  go_frame
  refine ls_ex (some 31) (.bool false) rfl rfl (exec_pick _ _ _ rfl false rfl (.bool false) rfl) ?_
  go_frame
  refine ls_ex (some 32) (.bool false) rfl rfl (exec_move _ rfl (.bool false) rfl) ?_
  go_frame
  refine ls_ex_g (some 33) (.int .i64 s) rfl rfl (exec_move _ rfl (.int .i64 s) rfl) ?_
  go_frame
  refine ls_ex_g (some 34) (.bool true) rfl rfl (exec_lss _ _ _ _ rfl s 1 rfl rfl true (decide_eq_true (by omega))) ?_
  go_frame
  refine ls_ex (some 35) (.bool true) rfl rfl (exec_pick _ _ _ rfl false rfl (.bool true) rfl) ?_
  go_frame
  refine ls_ex (some 36) (.bool true) rfl rfl (exec_move _ rfl (.bool true) rfl) ?_
  go_frame
  refine ls_skip_g (some 37) rfl rfl ?_
  go_frame
  refine ls_skip_g (some 38) rfl rfl ?_
  go_frame
  refine ls_skip_g (some 39) rfl rfl ?_
  go_frame
  refine ls_skip_g (some 40) rfl rfl ?_
  go_frame
  refine ls_ex (some 41) (.bool true) rfl rfl (exec_pick _ _ _ rfl true rfl (.bool true) rfl) ?_
  go_frame
  refine wpList_nil ?_
  go_upto_region 4 with (fail)
  refine wp_region_lit ?_
  refine ls_ex (some 42) (.agg #[.int .i64 0, .int .i64 0, .int .i64 0, .int .i64 0, .slice none 0 0]) rfl rfl (exec_build_nil 28 rfl _ (by kernel_rfl)) ?_
  go_frame
  refine ls_op rfl (fun K' hK' => ?_)
  refine wp_store_all 28 _ _ rfl rfl Wz2.heap.size rfl #[.int .i64 0, .int .i64 0, .int .i64 0, .int .i64 0, .slice none 0 0] rfl _ _ hz11 5 (by kernel_rfl) rfl rfl (one5 _ _ _ _ _ _ _) (fun Wz32 pz33 => ?_)
  replace hB := pz33.below hB (by omega)
  replace hz5 := pz33.other hz5 (by omega)
  replace hz11 : At Wz32 Wz2.heap.size (.cells #[.int .i64 0, .int .i64 0, .int .i64 0, .int .i64 0, .slice none 0 0] 28 (0, 0)) := pz33.at_
  refine hK' _ _ ?_
  clear hK' K' pz33
  refine ls_ex (some 11) (.int .i64 2) rfl rfl (exec_assign _ rfl (.int .i64 2) rfl) ?_
  go_frame
  refine wpList_nil ?_
  go_wp2_with fail
  refine bodyPost_ret (results_at2 rfl _ _ Wz2.heap.size _ _ _ rfl _ rfl hz11 Try.underlying28 rfl 5 (by kernel_rfl) rfl) rfl ?_
  unfold ResS fpZ fpL
  rw [HC.out]
  exact ⟨_, rfl, Own.nil _ _, hB⟩
set_option maxHeartbeats 4000000 in
theorem implFlipP_d2 (p n m k : Int) (a0 c : Nat) (qs : List (List Nat)) (i j f s : Int) (w : World) (hR : Rd w (some ⟨a0, 0, none⟩) qs) (hlen : qs.length ≤ 1048576) (hs : schemeB p n m k qs = true) (hi : inI i qs.length = true) (hj : inI j qs.length = true) (hf : inI f 3 = true) (hr : p ≤ s) (hr1 : 1 ≤ s) :
    Calls Try.prog 10 #[.agg #[.int .i64 p, .int .i64 n, .int .i64 m, .int .i64 k, .slice (some ⟨a0, 0, none⟩) qs.length c], .int .i64 i, .int .i64 j, .int .i64 f, .int .i64 s] w (ResS w (fpZ (fpCode p n m k qs i j f s) p) (fpZ (fpCode p n m k qs i j f s) n) (fpZ (fpCode p n m k qs i j f s) m) (fpZ (fpCode p n m k qs i j f s) k) (fpL (fpCode p n m k qs i j f s) (fpQs p qs i j f s)) (fpCode p n m k qs i j f s)) := by
  have hB := Below.refl w.heap.size w
  have hsr : (decide (1 ≤ s) && decide (s ≤ p - 1)) = false := by rw [decide_eq_false (by omega : ¬ s ≤ p - 1), Bool.and_false]
  have HC : Hid (fpCode p n m k qs i j f s = 2) := Lib.hid (by unfold fpCode; rw [hs, hi, hj, hf, hsr]; rfl)
  have Hsn := Lib.hid hsr
  have Hs := Lib.hid hs
  have hp5 := primeB_5 (sizesB_parts (schemeB_sizes hs)).1
  have h30 := schemeB_len hs
  have HIi := Lib.hid hi
  have HIj := Lib.hid hj
  have HIf := Lib.hid hf
  have Hxs : Hid (([(i : Int), (j : Int)].all fun x => inI x qs.length) = true) := Lib.hid (by simp [hi, hj])
  have Hf2 : Hid ((decide (0 ≤ f) && decide (f ≤ 2)) = true) := Lib.hid (by rw [← hf]; exact inI_sub f 3)
  clear hs hi hj hf
  clear hsr
  go_enter Try.func10, Try.ntmps10
  go_upto_region 0 with (fail)
  refine wp_region_lit ?_
  refine ls_op rfl (fun K' hK' => ?_)
  have lz1 := hB.size
  refine wp_new (some 5) rfl (exec_box 28 _ rfl (#[.int .i64 p, .int .i64 n, .int .i64 m, .int .i64 k, .slice (some ⟨a0, 0, none⟩) qs.length c]) rfl) (fun Wz2 nnz3 => ?_)
  have bz4 := nnz3.below (Below.refl _ _) (Nat.le_refl _)
  replace hB := below_after hB bz4
  have hz5 : At Wz2 w.heap.size (.cells #[.int .i64 p, .int .i64 n, .int .i64 m, .int .i64 k, .slice (some ⟨a0, 0, none⟩) qs.length c] 28 (0, 0)) := nnz3.at_
  refine hK' _ _ ?_
  clear hK' K' nnz3 bz4
  go_frame
  refine ls_op rfl (fun K' hK' => ?_)
  have lz6 := hB.size
  have lz7 := hz5.lt
  refine wp_new (some 10) rfl (al_impl_Scheme rfl) (fun Wz8 nnz9 => ?_)
  have bz10 := nnz9.below (Below.refl _ _) (Nat.le_refl _)
  replace hB := below_after hB bz10
  replace hz5 := hz5.after bz10
  have hz11 : At Wz8 Wz2.heap.size (.cells #[.int .i64 0, .int .i64 0, .int .i64 0, .int .i64 0, .slice none 0 0] 28 (0, 0)) := nnz9.at_
  refine hK' _ _ ?_
  clear hK' K' nnz9 bz10
  go_frame
  refine ls_ex (some 11) (.int .i64 0) rfl rfl (exec_assign _ rfl (.int .i64 0) rfl) ?_
  go_frame
  refine wpList_nil ?_
  go_upto_region 1 with (fail)
  refine wp_region_lit ?_
  refine ls_ex (some 13) (.agg #[.int .i64 p, .int .i64 n, .int .i64 m, .int .i64 k, .slice (some ⟨a0, 0, none⟩) qs.length c]) rfl rfl (exec_load_all 28 _ rfl w.heap.size rfl _ _ _ hz5 Try.underlying28 rfl 5 (by kernel_rfl) rfl) ?_
  go_frame
  refine ls_op rfl (fun K' hK' => ?_)
  have lz14 := hB.size
  have lz15 := hz5.lt
  have lz16 := hz11.lt
  refine wp_call1 (some 14) rfl 30 _ _ rfl (fun args w => by kernel_rfl) _ rfl _ (implIsScheme_c p n m k (some ⟨a0, 0, none⟩) c qs _ (hR.keep hB) (by omega)) (fun e Wz12 h => ?_)
  obtain ⟨rfl, bz13⟩ := h
  replace hB := below_after hB bz13
  replace hz5 := hz5.after bz13
  replace hz11 := hz11.after bz13
  rw [Hs.out]
  clear bz13
  refine ⟨_, rfl, ?_⟩
  refine hK' _ _ ?_
  clear hK' K'
  go_frame
  refine ls_ex (some 15) (.bool false) rfl rfl (exec_not _ _ rfl true rfl) ?_
  go_frame
  refine wpList_nil ?_
  go_upto_region 3 with (fail)
  refine wp_region_lit ?_
  refine ls_ex (some 17) (.agg #[.int .i64 p, .int .i64 n, .int .i64 m, .int .i64 k, .slice (some ⟨a0, 0, none⟩) qs.length c]) rfl rfl (exec_load_all 28 _ rfl w.heap.size rfl _ _ _ hz5 Try.underlying28 rfl 5 (by kernel_rfl) rfl) ?_
  go_frame
  refine ls_ex (some 18) (.int .i64 i) rfl rfl (exec_move _ rfl (.int .i64 i) rfl) ?_
  go_frame
  refine ls_op rfl (fun K' hK' => ?_)
  have lz19 := hB.size
  have lz20 := hz5.lt
  have lz21 := hz11.lt
  refine wp_call2 (some 19) rfl 31 _ _ _ rfl (fun args w => by kernel_rfl) _ _ rfl rfl _ (isProductIndex_c p n m k _ c qs.length i _) (fun e Wz17 h => ?_)
  obtain ⟨rfl, bz18⟩ := h
  replace hB := below_after hB bz18
  replace hz5 := hz5.after bz18
  replace hz11 := hz11.after bz18
  rw [HIi.out]
  clear bz18
  refine ⟨_, rfl, ?_⟩
  refine hK' _ _ ?_
  clear hK' K'
  go_frame
  refine ls_ex (some 20) (.bool false) rfl rfl (exec_not _ _ rfl true rfl) ?_
  go_frame
  refine ls_ex (some 21) (.bool false) rfl rfl (exec_move _ rfl (.bool false) rfl) ?_
  go_frame
  refine ls_ex_g (some 22) (.agg #[.int .i64 p, .int .i64 n, .int .i64 m, .int .i64 k, .slice (some ⟨a0, 0, none⟩) qs.length c]) rfl rfl (exec_load_all 28 _ rfl w.heap.size rfl _ _ _ hz5 Try.underlying28 rfl 5 (by kernel_rfl) rfl) ?_
  go_frame
  refine ls_ex_g (some 23) (.int .i64 j) rfl rfl (exec_move _ rfl (.int .i64 j) rfl) ?_
  go_frame
  refine ls_op_g rfl (fun K' hK' => ?_)
  have lz24 := hB.size
  have lz25 := hz5.lt
  have lz26 := hz11.lt
  refine wp_call2 (some 24) rfl 31 _ _ _ rfl (fun args w => by kernel_rfl) _ _ rfl rfl _ (isProductIndex_c p n m k _ c qs.length j _) (fun e Wz22 h => ?_)
  obtain ⟨rfl, bz23⟩ := h
  replace hB := below_after hB bz23
  replace hz5 := hz5.after bz23
  replace hz11 := hz11.after bz23
  rw [HIj.out]
  clear bz23
  refine ⟨_, rfl, ?_⟩
  refine hK' _ _ ?_
  clear hK' K'
  go_frame
  refine ls_ex_g (some 25) (.bool false) rfl rfl (exec_not _ _ rfl true rfl) ?_
  go_frame
  refine ls_ex (some 26) (.bool false) rfl rfl (exec_pick _ _ _ rfl false rfl (.bool false) rfl) ?_
  go_frame
  refine ls_ex (some 27) (.bool false) rfl rfl (exec_move _ rfl (.bool false) rfl) ?_
  go_frame
  refine ls_ex_g (some 28) (.int .i64 f) rfl rfl (exec_move _ rfl (.int .i64 f) rfl) ?_
  go_frame
  refine ls_op_g rfl (fun K' hK' => ?_)
  have lz29 := hB.size
  have lz30 := hz5.lt
  have lz31 := hz11.lt
  refine wp_call2 (some 29) rfl 32 _ _ _ rfl (fun args w => by kernel_rfl) _ _ rfl rfl _ (isIdx_c f 3 _) (fun e Wz27 h => ?_)
  obtain ⟨rfl, rfl⟩ := h
  rw [HIf.out]
  refine ⟨_, rfl, ?_⟩
  refine hK' _ _ ?_
  clear hK' K'
  go_frame
  refine ls_ex_g (some 30) (.bool false) rfl rfl (exec_not _ _ rfl true rfl) ?_
  go_frame
  refine ls_ex (some 31) (.bool false) rfl rfl (exec_pick _ _ _ rfl false rfl (.bool false) rfl) ?_
  go_frame
  refine ls_ex (some 32) (.bool false) rfl rfl (exec_move _ rfl (.bool false) rfl) ?_
  go_frame
  refine ls_ex_g (some 33) (.int .i64 s) rfl rfl (exec_move _ rfl (.int .i64 s) rfl) ?_
  go_frame
  refine ls_ex_g (some 34) (.bool false) rfl rfl (exec_lss _ _ _ _ rfl s 1 rfl rfl false (decide_eq_false (by omega))) ?_
  go_frame
  refine ls_ex (some 35) (.bool false) rfl rfl (exec_pick _ _ _ rfl false rfl (.bool false) rfl) ?_
  go_frame
  refine ls_ex (some 36) (.bool false) rfl rfl (exec_move _ rfl (.bool false) rfl) ?_
  go_frame
  refine ls_ex_g (some 37) (.int .i64 s) rfl rfl (exec_move _ rfl (.int .i64 s) rfl) ?_
  go_frame
  refine ls_ex_g (some 38) (.pointer (some ⟨w.heap.size, 0, none⟩)) rfl rfl (exec_fieldAddr 28 _ 0 rfl _ (by kernel_rfl)) ?_
  go_frame
  refine ls_ex_g (some 39) (.int .i64 p) rfl rfl (exec_load_one 2 _ rfl w.heap.size 0 rfl (.int .i64 p) _ Try.underlying2 rfl (hz5.at_ 0)) ?_
  go_frame
  refine ls_ex_g (some 40) (.bool true) rfl rfl (exec_geq _ _ _ _ rfl s p rfl rfl true (decide_eq_true (by omega))) ?_
  go_frame
  refine ls_ex (some 41) (.bool true) rfl rfl (exec_pick _ _ _ rfl false rfl (.bool true) rfl) ?_
  go_frame
  refine wpList_nil ?_
  go_upto_region 4 with (fail)
  refine wp_region_lit ?_
  refine ls_ex (some 42) (.agg #[.int .i64 0, .int .i64 0, .int .i64 0, .int .i64 0, .slice none 0 0]) rfl rfl (exec_build_nil 28 rfl _ (by kernel_rfl)) ?_
  go_frame
  refine ls_op rfl (fun K' hK' => ?_)
  refine wp_store_all 28 _ _ rfl rfl Wz2.heap.size rfl #[.int .i64 0, .int .i64 0, .int .i64 0, .int .i64 0, .slice none 0 0] rfl _ _ hz11 5 (by kernel_rfl) rfl rfl (one5 _ _ _ _ _ _ _) (fun Wz32 pz33 => ?_)
  replace hB := pz33.below hB (by omega)
  replace hz5 := pz33.other hz5 (by omega)
  replace hz11 : At Wz32 Wz2.heap.size (.cells #[.int .i64 0, .int .i64 0, .int .i64 0, .int .i64 0, .slice none 0 0] 28 (0, 0)) := pz33.at_
  refine hK' _ _ ?_
  clear hK' K' pz33
  refine ls_ex (some 11) (.int .i64 2) rfl rfl (exec_assign _ rfl (.int .i64 2) rfl) ?_
  go_frame
  refine wpList_nil ?_
  go_wp2_with fail
  refine bodyPost_ret (results_at2 rfl _ _ Wz2.heap.size _ _ _ rfl _ rfl hz11 Try.underlying28 rfl 5 (by kernel_rfl) rfl) rfl ?_
  unfold ResS fpZ fpL
  rw [HC.out]
  exact ⟨_, rfl, Own.nil _ _, hB⟩
set_option maxHeartbeats 4000000 in
theorem implFlipP_e (p n m k : Int) (a0 c : Nat) (qs : List (List Nat)) (I J F : Nat) (s : Int) (Q R : List Nat) (w : World) (hR : Rd w (some ⟨a0, 0, none⟩) qs) (hQ : qs[I]? = some Q) (hRj : qs[J]? = some R) (hF3 : F < 3) (hs : schemeB p n m k qs = true) (hsr : (decide (1 ≤ s) && decide (s ≤ p - 1)) = true) (hij : I = J) :
    Calls Try.prog 10 #[.agg #[.int .i64 p, .int .i64 n, .int .i64 m, .int .i64 k, .slice (some ⟨a0, 0, none⟩) qs.length c], .int .i64 I, .int .i64 J, .int .i64 F, .int .i64 s] w (ResS w (fpZ (fpCode p n m k qs I J F s) p) (fpZ (fpCode p n m k qs I J F s) n) (fpZ (fpCode p n m k qs I J F s) m) (fpZ (fpCode p n m k qs I J F s) k) (fpL (fpCode p n m k qs I J F s) (fpQs p qs I J F s)) (fpCode p n m k qs I J F s)) := by
  have hB := Below.refl w.heap.size w
  have hp5 := primeB_5 (sizesB_parts (schemeB_sizes hs)).1
  have h30 := schemeB_len hs
  have hI := (List.getElem?_eq_some_iff.1 hQ).1
  have hJ := (List.getElem?_eq_some_iff.1 hRj).1
  have hi9 : inI (I : Int) qs.length = true := by simp [inI]; omega
  have hj9 : inI (J : Int) qs.length = true := by simp [inI]; omega
  have hf9 : inI (F : Int) 3 = true := by simp [inI]; omega
  have hfl : flB Q R I J F = false := by unfold flB; rw [decide_eq_false (fun h => h hij)]; rfl
  have HC : Hid (fpCode p n m k qs I J F s = 5) := Lib.hid (by unfold fpCode; rw [hs, hi9, hj9, hf9, hsr, Int.toNat_natCast, Int.toNat_natCast, Int.toNat_natCast, hQ, hRj, Option.getD_some, Option.getD_some, hfl]; rfl)
  have hs9 : 1 ≤ s ∧ s ≤ p - 1 := by simpa only [Bool.and_eq_true, decide_eq_true_eq] using hsr
  have Hsn := Lib.hid hsr
  have Hs := Lib.hid hs
  have HIi := Lib.hid hi9
  have HIj := Lib.hid hj9
  have HIf := Lib.hid hf9
  have Hfl := Lib.hid hfl
  have HQi := Lib.hid hQ
  have HRj := Lib.hid hRj
  have HQ := Lib.hid (hR.good _ (List.mem_of_getElem? hQ))
  have HRb := Lib.hid (hR.good _ (List.mem_of_getElem? hRj))
  have Hxs : Hid (([(I : Int), (J : Int)].all fun x => inI x qs.length) = true) := Lib.hid (by simp [hi9, hj9])
  have Hf2 : Hid ((decide (0 ≤ (F : Int)) && decide ((F : Int) ≤ 2)) = true) := Lib.hid (by rw [← hf9]; exact inI_sub F 3)
  clear hs hsr hi9 hj9 hf9 hfl hQ hRj
  go_enter Try.func10, Try.ntmps10
  go_upto_region 0 with (fail)
  refine wp_region_lit ?_
  refine ls_op rfl (fun K' hK' => ?_)
  have lz1 := hB.size
  refine wp_new (some 5) rfl (exec_box 28 _ rfl (#[.int .i64 p, .int .i64 n, .int .i64 m, .int .i64 k, .slice (some ⟨a0, 0, none⟩) qs.length c]) rfl) (fun Wz2 nnz3 => ?_)
  have bz4 := nnz3.below (Below.refl _ _) (Nat.le_refl _)
  replace hB := below_after hB bz4
  have hz5 : At Wz2 w.heap.size (.cells #[.int .i64 p, .int .i64 n, .int .i64 m, .int .i64 k, .slice (some ⟨a0, 0, none⟩) qs.length c] 28 (0, 0)) := nnz3.at_
  refine hK' _ _ ?_
  clear hK' K' nnz3 bz4
  go_frame
  refine ls_op rfl (fun K' hK' => ?_)
  have lz6 := hB.size
  have lz7 := hz5.lt
  refine wp_new (some 10) rfl (al_impl_Scheme rfl) (fun Wz8 nnz9 => ?_)
  have bz10 := nnz9.below (Below.refl _ _) (Nat.le_refl _)
  replace hB := below_after hB bz10
  replace hz5 := hz5.after bz10
  have hz11 : At Wz8 Wz2.heap.size (.cells #[.int .i64 0, .int .i64 0, .int .i64 0, .int .i64 0, .slice none 0 0] 28 (0, 0)) := nnz9.at_
  refine hK' _ _ ?_
  clear hK' K' nnz9 bz10
  go_frame
  refine ls_ex (some 11) (.int .i64 0) rfl rfl (exec_assign _ rfl (.int .i64 0) rfl) ?_
  go_frame
  refine wpList_nil ?_
  go_upto_region 1 with (fail)
  refine wp_region_lit ?_
  refine ls_ex (some 13) (.agg #[.int .i64 p, .int .i64 n, .int .i64 m, .int .i64 k, .slice (some ⟨a0, 0, none⟩) qs.length c]) rfl rfl (exec_load_all 28 _ rfl w.heap.size rfl _ _ _ hz5 Try.underlying28 rfl 5 (by kernel_rfl) rfl) ?_
  go_frame
  refine ls_op rfl (fun K' hK' => ?_)
  have lz14 := hB.size
  have lz15 := hz5.lt
  have lz16 := hz11.lt
  refine wp_call1 (some 14) rfl 30 _ _ rfl (fun args w => by kernel_rfl) _ rfl _ (implIsScheme_c p n m k (some ⟨a0, 0, none⟩) c qs _ (hR.keep hB) (by omega)) (fun e Wz12 h => ?_)
  obtain ⟨rfl, bz13⟩ := h
  replace hB := below_after hB bz13
  replace hz5 := hz5.after bz13
  replace hz11 := hz11.after bz13
  rw [Hs.out]
  clear bz13
  refine ⟨_, rfl, ?_⟩
  refine hK' _ _ ?_
  clear hK' K'
  go_frame
  refine ls_ex (some 15) (.bool false) rfl rfl (exec_not _ _ rfl true rfl) ?_
  go_frame
  refine wpList_nil ?_
  go_upto_region 3 with (fail)
  refine wp_region_lit ?_
  refine ls_ex (some 17) (.agg #[.int .i64 p, .int .i64 n, .int .i64 m, .int .i64 k, .slice (some ⟨a0, 0, none⟩) qs.length c]) rfl rfl (exec_load_all 28 _ rfl w.heap.size rfl _ _ _ hz5 Try.underlying28 rfl 5 (by kernel_rfl) rfl) ?_
  go_frame
  refine ls_ex (some 18) (.int .i64 I) rfl rfl (exec_move _ rfl (.int .i64 I) rfl) ?_
  go_frame
  refine ls_op rfl (fun K' hK' => ?_)
  have lz19 := hB.size
  have lz20 := hz5.lt
  have lz21 := hz11.lt
  refine wp_call2 (some 19) rfl 31 _ _ _ rfl (fun args w => by kernel_rfl) _ _ rfl rfl _ (isProductIndex_c p n m k _ c qs.length I _) (fun e Wz17 h => ?_)
  obtain ⟨rfl, bz18⟩ := h
  replace hB := below_after hB bz18
  replace hz5 := hz5.after bz18
  replace hz11 := hz11.after bz18
  rw [HIi.out]
  clear bz18
  refine ⟨_, rfl, ?_⟩
  refine hK' _ _ ?_
  clear hK' K'
  go_frame
  refine ls_ex (some 20) (.bool false) rfl rfl (exec_not _ _ rfl true rfl) ?_
  go_frame
  refine ls_ex (some 21) (.bool false) rfl rfl (exec_move _ rfl (.bool false) rfl) ?_
  go_frame
  refine ls_ex_g (some 22) (.agg #[.int .i64 p, .int .i64 n, .int .i64 m, .int .i64 k, .slice (some ⟨a0, 0, none⟩) qs.length c]) rfl rfl (exec_load_all 28 _ rfl w.heap.size rfl _ _ _ hz5 Try.underlying28 rfl 5 (by kernel_rfl) rfl) ?_
  go_frame
  refine ls_ex_g (some 23) (.int .i64 J) rfl rfl (exec_move _ rfl (.int .i64 J) rfl) ?_
  go_frame
  refine ls_op_g rfl (fun K' hK' => ?_)
  have lz24 := hB.size
  have lz25 := hz5.lt
  have lz26 := hz11.lt
  refine wp_call2 (some 24) rfl 31 _ _ _ rfl (fun args w => by kernel_rfl) _ _ rfl rfl _ (isProductIndex_c p n m k _ c qs.length J _) (fun e Wz22 h => ?_)
  obtain ⟨rfl, bz23⟩ := h
  replace hB := below_after hB bz23
  replace hz5 := hz5.after bz23
  replace hz11 := hz11.after bz23
  rw [HIj.out]
  clear bz23
  refine ⟨_, rfl, ?_⟩
  refine hK' _ _ ?_
  clear hK' K'
  go_frame
  refine ls_ex_g (some 25) (.bool false) rfl rfl (exec_not _ _ rfl true rfl) ?_
  go_frame
  refine ls_ex (some 26) (.bool false) rfl rfl (exec_pick _ _ _ rfl false rfl (.bool false) rfl) ?_
  go_frame
  refine ls_ex (some 27) (.bool false) rfl rfl (exec_move _ rfl (.bool false) rfl) ?_
  go_frame
  refine ls_ex_g (some 28) (.int .i64 F) rfl rfl (exec_move _ rfl (.int .i64 F) rfl) ?_
  go_frame
  refine ls_op_g rfl (fun K' hK' => ?_)
  have lz29 := hB.size
  have lz30 := hz5.lt
  have lz31 := hz11.lt
  refine wp_call2 (some 29) rfl 32 _ _ _ rfl (fun args w => by kernel_rfl) _ _ rfl rfl _ (isIdx_c F 3 _) (fun e Wz27 h => ?_)
  obtain ⟨rfl, rfl⟩ := h
  rw [HIf.out]
  refine ⟨_, rfl, ?_⟩
  refine hK' _ _ ?_
  clear hK' K'
  go_frame
  refine ls_ex_g (some 30) (.bool false) rfl rfl (exec_not _ _ rfl true rfl) ?_
  go_frame
  refine ls_ex (some 31) (.bool false) rfl rfl (exec_pick _ _ _ rfl false rfl (.bool false) rfl) ?_
  go_frame
  refine ls_ex (some 32) (.bool false) rfl rfl (exec_move _ rfl (.bool false) rfl) ?_
  go_frame
  refine ls_ex_g (some 33) (.int .i64 s) rfl rfl (exec_move _ rfl (.int .i64 s) rfl) ?_
  go_frame
  refine ls_ex_g (some 34) (.bool false) rfl rfl (exec_lss _ _ _ _ rfl s 1 rfl rfl false (decide_eq_false (by omega))) ?_
  go_frame
  refine ls_ex (some 35) (.bool false) rfl rfl (exec_pick _ _ _ rfl false rfl (.bool false) rfl) ?_
  go_frame
  refine ls_ex (some 36) (.bool false) rfl rfl (exec_move _ rfl (.bool false) rfl) ?_
  go_frame
  refine ls_ex_g (some 37) (.int .i64 s) rfl rfl (exec_move _ rfl (.int .i64 s) rfl) ?_
  go_frame
  refine ls_ex_g (some 38) (.pointer (some ⟨w.heap.size, 0, none⟩)) rfl rfl (exec_fieldAddr 28 _ 0 rfl _ (by kernel_rfl)) ?_
  go_frame
  refine ls_ex_g (some 39) (.int .i64 p) rfl rfl (exec_load_one 2 _ rfl w.heap.size 0 rfl (.int .i64 p) _ Try.underlying2 rfl (hz5.at_ 0)) ?_
  go_frame
  refine ls_ex_g (some 40) (.bool false) rfl rfl (exec_geq _ _ _ _ rfl s p rfl rfl false (decide_eq_false (by omega))) ?_
  go_frame
  refine ls_ex (some 41) (.bool false) rfl rfl (exec_pick _ _ _ rfl false rfl (.bool false) rfl) ?_
  go_frame
  refine wpList_nil ?_
  go_upto_region 5 with (fail)
  refine wp_region_lit ?_
  refine ls_ex (some 43) (.int .i64 I) rfl rfl (exec_move _ rfl (.int .i64 I) rfl) ?_
  go_frame
  refine ls_ex (some 44) (.int .i64 J) rfl rfl (exec_move _ rfl (.int .i64 J) rfl) ?_
  go_frame
  refine ls_ex (some 45) (.int .i64 F) rfl rfl (exec_move _ rfl (.int .i64 F) rfl) ?_
  go_frame
  refine ls_ex (some 46) (.agg #[.int .i64 I, .int .i64 J, .int .i64 F]) rfl rfl (exec_build_flip _ _ _ rfl _ _ _ rfl rfl rfl) ?_
  go_frame
  refine ls_op rfl (fun K' hK' => ?_)
  have lz32 := hB.size
  have lz33 := hz5.lt
  have lz34 := hz11.lt
  refine wp_new (some 12) rfl (al_impl_flip rfl) (fun Wz35 nnz36 => ?_)
  have bz37 := nnz36.below (Below.refl _ _) (Nat.le_refl _)
  replace hB := below_after hB bz37
  replace hz5 := hz5.after bz37
  replace hz11 := hz11.after bz37
  have hz38 : At Wz35 Wz22.heap.size (.cells #[.int .i64 0, .int .i64 0, .int .i64 0] 58 (0, 0)) := nnz36.at_
  refine hK' _ _ ?_
  clear hK' K' nnz36 bz37
  go_frame
  refine ls_op rfl (fun K' hK' => ?_)
  refine wp_store_all 58 _ _ rfl rfl Wz22.heap.size rfl #[.int .i64 I, .int .i64 J, .int .i64 F] rfl _ _ hz38 3 (by kernel_rfl) rfl rfl (by intro x hx; simp at hx; rcases hx with rfl | rfl | rfl <;> rfl) (fun Wz39 pz40 => ?_)
  replace hB := pz40.below hB (by omega)
  replace hz5 := pz40.other hz5 (by omega)
  replace hz11 := pz40.other hz11 (by omega)
  replace hz38 : At Wz39 Wz22.heap.size (.cells #[.int .i64 I, .int .i64 J, .int .i64 F] 58 (0, 0)) := pz40.at_
  refine hK' _ _ ?_
  clear hK' K' pz40
  refine wpList_nil ?_
  go_upto_region 6 with (fail)
  refine wp_region_lit ?_
  refine ls_ex (some 47) (.agg #[.int .i64 I, .int .i64 J, .int .i64 F]) rfl rfl (exec_load_all 58 _ rfl Wz22.heap.size rfl _ _ _ hz38 Try.underlying58 rfl 3 (by kernel_rfl) rfl) ?_
  go_frame
  refine ls_ex (some 48) (.agg #[.int .i64 p, .int .i64 n, .int .i64 m, .int .i64 k, .slice (some ⟨a0, 0, none⟩) qs.length c]) rfl rfl (exec_load_all 28 _ rfl w.heap.size rfl _ _ _ hz5 Try.underlying28 rfl 5 (by kernel_rfl) rfl) ?_
  go_frame
  refine ls_op rfl (fun K' hK' => ?_)
  have lz43 := hB.size
  have lz44 := hz5.lt
  have lz45 := hz11.lt
  have lz46 := hz38.lt
  refine wp_call2 (some 49) rfl 33 _ _ _ rfl (fun args w => by kernel_rfl) _ _ rfl rfl _ (isOf_c p n m k a0 0 c qs I J F Q R _ (hR.keep hB) HQi.out HRj.out hF3 (by omega)) (fun e Wz41 h => ?_)
  obtain ⟨rfl, bz42⟩ := h
  replace hB := below_after hB bz42
  replace hz5 := hz5.after bz42
  replace hz11 := hz11.after bz42
  replace hz38 := hz38.after bz42
  rw [Hfl.out]
  clear bz42
  refine ⟨_, rfl, ?_⟩
  refine hK' _ _ ?_
  clear hK' K'
  go_frame
  refine ls_ex (some 50) (.bool true) rfl rfl (exec_not _ _ rfl false rfl) ?_
  go_frame
  refine wpList_nil ?_
  go_upto_region 7 with (fail)
  refine wp_region_lit ?_
  refine ls_ex (some 51) (.agg #[.int .i64 0, .int .i64 0, .int .i64 0, .int .i64 0, .slice none 0 0]) rfl rfl (exec_build_nil 28 rfl _ (by kernel_rfl)) ?_
  go_frame
  refine ls_op rfl (fun K' hK' => ?_)
  refine wp_store_all 28 _ _ rfl rfl Wz2.heap.size rfl #[.int .i64 0, .int .i64 0, .int .i64 0, .int .i64 0, .slice none 0 0] rfl _ _ hz11 5 (by kernel_rfl) rfl rfl (one5 _ _ _ _ _ _ _) (fun Wz47 pz48 => ?_)
  replace hB := pz48.below hB (by omega)
  replace hz5 := pz48.other hz5 (by omega)
  replace hz38 := pz48.other hz38 (by omega)
  replace hz11 : At Wz47 Wz2.heap.size (.cells #[.int .i64 0, .int .i64 0, .int .i64 0, .int .i64 0, .slice none 0 0] 28 (0, 0)) := pz48.at_
  refine hK' _ _ ?_
  clear hK' K' pz48
  refine ls_ex (some 11) (.int .i64 5) rfl rfl (exec_assign _ rfl (.int .i64 5) rfl) ?_
  go_frame
  refine wpList_nil ?_
  go_wp2_with fail
  refine bodyPost_ret (results_at2 rfl _ _ Wz2.heap.size _ _ _ rfl _ rfl hz11 Try.underlying28 rfl 5 (by kernel_rfl) rfl) rfl ?_
  unfold ResS fpZ fpL
  rw [HC.out]
  exact ⟨_, rfl, Own.nil _ _, hB⟩
set_option maxHeartbeats 4000000 in
theorem implFlipP_g (p n m k : Int) (a0 c : Nat) (qs : List (List Nat)) (I J F : Nat) (s : Int) (Q R : List Nat) (w : World) (hR : Rd w (some ⟨a0, 0, none⟩) qs) (hQ : qs[I]? = some Q) (hRj : qs[J]? = some R) (hF3 : F < 3) (hs : schemeB p n m k qs = true) (hsr : (decide (1 ≤ s) && decide (s ≤ p - 1)) = true) (hne : I ≠ J) (hq : (facQ Q F == facQ R F) = false) :
    Calls Try.prog 10 #[.agg #[.int .i64 p, .int .i64 n, .int .i64 m, .int .i64 k, .slice (some ⟨a0, 0, none⟩) qs.length c], .int .i64 I, .int .i64 J, .int .i64 F, .int .i64 s] w (ResS w (fpZ (fpCode p n m k qs I J F s) p) (fpZ (fpCode p n m k qs I J F s) n) (fpZ (fpCode p n m k qs I J F s) m) (fpZ (fpCode p n m k qs I J F s) k) (fpL (fpCode p n m k qs I J F s) (fpQs p qs I J F s)) (fpCode p n m k qs I J F s)) := by
  have hB := Below.refl w.heap.size w
  have hp5 := primeB_5 (sizesB_parts (schemeB_sizes hs)).1
  have h30 := schemeB_len hs
  have hI := (List.getElem?_eq_some_iff.1 hQ).1
  have hJ := (List.getElem?_eq_some_iff.1 hRj).1
  have hi9 : inI (I : Int) qs.length = true := by simp [inI]; omega
  have hj9 : inI (J : Int) qs.length = true := by simp [inI]; omega
  have hf9 : inI (F : Int) 3 = true := by simp [inI]; omega
  have hfl : flB Q R I J F = false := by unfold flB; rw [hq, Bool.and_false]
  have HC : Hid (fpCode p n m k qs I J F s = 5) := Lib.hid (by unfold fpCode; rw [hs, hi9, hj9, hf9, hsr, Int.toNat_natCast, Int.toNat_natCast, Int.toNat_natCast, hQ, hRj, Option.getD_some, Option.getD_some, hfl]; rfl)
  have hs9 : 1 ≤ s ∧ s ≤ p - 1 := by simpa only [Bool.and_eq_true, decide_eq_true_eq] using hsr
  have Hsn := Lib.hid hsr
  have Hs := Lib.hid hs
  have HIi := Lib.hid hi9
  have HIj := Lib.hid hj9
  have HIf := Lib.hid hf9
  have Hfl := Lib.hid hfl
  have HQi := Lib.hid hQ
  have HRj := Lib.hid hRj
  have HQ := Lib.hid (hR.good _ (List.mem_of_getElem? hQ))
  have HRb := Lib.hid (hR.good _ (List.mem_of_getElem? hRj))
  have Hxs : Hid (([(I : Int), (J : Int)].all fun x => inI x qs.length) = true) := Lib.hid (by simp [hi9, hj9])
  have Hf2 : Hid ((decide (0 ≤ (F : Int)) && decide ((F : Int) ≤ 2)) = true) := Lib.hid (by rw [← hf9]; exact inI_sub F 3)
  have HNE : Hid ((!(facQ Q F == facQ R F)) = true) := Lib.hid (by rw [hq]; rfl)
  clear hq
  clear hs hsr hi9 hj9 hf9 hfl hQ hRj
  go_enter Try.func10, Try.ntmps10
  go_upto_region 0 with (fail)
  refine wp_region_lit ?_
  refine ls_op rfl (fun K' hK' => ?_)
  have lz1 := hB.size
  refine wp_new (some 5) rfl (exec_box 28 _ rfl (#[.int .i64 p, .int .i64 n, .int .i64 m, .int .i64 k, .slice (some ⟨a0, 0, none⟩) qs.length c]) rfl) (fun Wz2 nnz3 => ?_)
  have bz4 := nnz3.below (Below.refl _ _) (Nat.le_refl _)
  replace hB := below_after hB bz4
  have hz5 : At Wz2 w.heap.size (.cells #[.int .i64 p, .int .i64 n, .int .i64 m, .int .i64 k, .slice (some ⟨a0, 0, none⟩) qs.length c] 28 (0, 0)) := nnz3.at_
  refine hK' _ _ ?_
  clear hK' K' nnz3 bz4
  go_frame
  refine ls_op rfl (fun K' hK' => ?_)
  have lz6 := hB.size
  have lz7 := hz5.lt
  refine wp_new (some 10) rfl (al_impl_Scheme rfl) (fun Wz8 nnz9 => ?_)
  have bz10 := nnz9.below (Below.refl _ _) (Nat.le_refl _)
  replace hB := below_after hB bz10
  replace hz5 := hz5.after bz10
  have hz11 : At Wz8 Wz2.heap.size (.cells #[.int .i64 0, .int .i64 0, .int .i64 0, .int .i64 0, .slice none 0 0] 28 (0, 0)) := nnz9.at_
  refine hK' _ _ ?_
  clear hK' K' nnz9 bz10
  go_frame
  refine ls_ex (some 11) (.int .i64 0) rfl rfl (exec_assign _ rfl (.int .i64 0) rfl) ?_
  go_frame
  refine wpList_nil ?_
  go_upto_region 1 with (fail)
  refine wp_region_lit ?_
  refine ls_ex (some 13) (.agg #[.int .i64 p, .int .i64 n, .int .i64 m, .int .i64 k, .slice (some ⟨a0, 0, none⟩) qs.length c]) rfl rfl (exec_load_all 28 _ rfl w.heap.size rfl _ _ _ hz5 Try.underlying28 rfl 5 (by kernel_rfl) rfl) ?_
  go_frame
  refine ls_op rfl (fun K' hK' => ?_)
  have lz14 := hB.size
  have lz15 := hz5.lt
  have lz16 := hz11.lt
  refine wp_call1 (some 14) rfl 30 _ _ rfl (fun args w => by kernel_rfl) _ rfl _ (implIsScheme_c p n m k (some ⟨a0, 0, none⟩) c qs _ (hR.keep hB) (by omega)) (fun e Wz12 h => ?_)
  obtain ⟨rfl, bz13⟩ := h
  replace hB := below_after hB bz13
  replace hz5 := hz5.after bz13
  replace hz11 := hz11.after bz13
  rw [Hs.out]
  clear bz13
  refine ⟨_, rfl, ?_⟩
  refine hK' _ _ ?_
  clear hK' K'
  go_frame
  refine ls_ex (some 15) (.bool false) rfl rfl (exec_not _ _ rfl true rfl) ?_
  go_frame
  refine wpList_nil ?_
  go_upto_region 3 with (fail)
  refine wp_region_lit ?_
  refine ls_ex (some 17) (.agg #[.int .i64 p, .int .i64 n, .int .i64 m, .int .i64 k, .slice (some ⟨a0, 0, none⟩) qs.length c]) rfl rfl (exec_load_all 28 _ rfl w.heap.size rfl _ _ _ hz5 Try.underlying28 rfl 5 (by kernel_rfl) rfl) ?_
  go_frame
  refine ls_ex (some 18) (.int .i64 I) rfl rfl (exec_move _ rfl (.int .i64 I) rfl) ?_
  go_frame
  refine ls_op rfl (fun K' hK' => ?_)
  have lz19 := hB.size
  have lz20 := hz5.lt
  have lz21 := hz11.lt
  refine wp_call2 (some 19) rfl 31 _ _ _ rfl (fun args w => by kernel_rfl) _ _ rfl rfl _ (isProductIndex_c p n m k _ c qs.length I _) (fun e Wz17 h => ?_)
  obtain ⟨rfl, bz18⟩ := h
  replace hB := below_after hB bz18
  replace hz5 := hz5.after bz18
  replace hz11 := hz11.after bz18
  rw [HIi.out]
  clear bz18
  refine ⟨_, rfl, ?_⟩
  refine hK' _ _ ?_
  clear hK' K'
  go_frame
  refine ls_ex (some 20) (.bool false) rfl rfl (exec_not _ _ rfl true rfl) ?_
  go_frame
  refine ls_ex (some 21) (.bool false) rfl rfl (exec_move _ rfl (.bool false) rfl) ?_
  go_frame
  refine ls_ex_g (some 22) (.agg #[.int .i64 p, .int .i64 n, .int .i64 m, .int .i64 k, .slice (some ⟨a0, 0, none⟩) qs.length c]) rfl rfl (exec_load_all 28 _ rfl w.heap.size rfl _ _ _ hz5 Try.underlying28 rfl 5 (by kernel_rfl) rfl) ?_
  go_frame
  refine ls_ex_g (some 23) (.int .i64 J) rfl rfl (exec_move _ rfl (.int .i64 J) rfl) ?_
  go_frame
  refine ls_op_g rfl (fun K' hK' => ?_)
  have lz24 := hB.size
  have lz25 := hz5.lt
  have lz26 := hz11.lt
  refine wp_call2 (some 24) rfl 31 _ _ _ rfl (fun args w => by kernel_rfl) _ _ rfl rfl _ (isProductIndex_c p n m k _ c qs.length J _) (fun e Wz22 h => ?_)
  obtain ⟨rfl, bz23⟩ := h
  replace hB := below_after hB bz23
  replace hz5 := hz5.after bz23
  replace hz11 := hz11.after bz23
  rw [HIj.out]
  clear bz23
  refine ⟨_, rfl, ?_⟩
  refine hK' _ _ ?_
  clear hK' K'
  go_frame
  refine ls_ex_g (some 25) (.bool false) rfl rfl (exec_not _ _ rfl true rfl) ?_
  go_frame
  refine ls_ex (some 26) (.bool false) rfl rfl (exec_pick _ _ _ rfl false rfl (.bool false) rfl) ?_
  go_frame
  refine ls_ex (some 27) (.bool false) rfl rfl (exec_move _ rfl (.bool false) rfl) ?_
  go_frame
  refine ls_ex_g (some 28) (.int .i64 F) rfl rfl (exec_move _ rfl (.int .i64 F) rfl) ?_
  go_frame
  refine ls_op_g rfl (fun K' hK' => ?_)
  have lz29 := hB.size
  have lz30 := hz5.lt
  have lz31 := hz11.lt
  refine wp_call2 (some 29) rfl 32 _ _ _ rfl (fun args w => by kernel_rfl) _ _ rfl rfl _ (isIdx_c F 3 _) (fun e Wz27 h => ?_)
  obtain ⟨rfl, rfl⟩ := h
  rw [HIf.out]
  refine ⟨_, rfl, ?_⟩
  refine hK' _ _ ?_
  clear hK' K'
  go_frame
  refine ls_ex_g (some 30) (.bool false) rfl rfl (exec_not _ _ rfl true rfl) ?_
  go_frame
  refine ls_ex (some 31) (.bool false) rfl rfl (exec_pick _ _ _ rfl false rfl (.bool false) rfl) ?_
  go_frame
  refine ls_ex (some 32) (.bool false) rfl rfl (exec_move _ rfl (.bool false) rfl) ?_
  go_frame
  refine ls_ex_g (some 33) (.int .i64 s) rfl rfl (exec_move _ rfl (.int .i64 s) rfl) ?_
  go_frame
  refine ls_ex_g (some 34) (.bool false) rfl rfl (exec_lss _ _ _ _ rfl s 1 rfl rfl false (decide_eq_false (by omega))) ?_
  go_frame
  refine ls_ex (some 35) (.bool false) rfl rfl (exec_pick _ _ _ rfl false rfl (.bool false) rfl) ?_
  go_frame
  refine ls_ex (some 36) (.bool false) rfl rfl (exec_move _ rfl (.bool false) rfl) ?_
  go_frame
  refine ls_ex_g (some 37) (.int .i64 s) rfl rfl (exec_move _ rfl (.int .i64 s) rfl) ?_
  go_frame
  refine ls_ex_g (some 38) (.pointer (some ⟨w.heap.size, 0, none⟩)) rfl rfl (exec_fieldAddr 28 _ 0 rfl _ (by kernel_rfl)) ?_
  go_frame
  refine ls_ex_g (some 39) (.int .i64 p) rfl rfl (exec_load_one 2 _ rfl w.heap.size 0 rfl (.int .i64 p) _ Try.underlying2 rfl (hz5.at_ 0)) ?_
  go_frame
  refine ls_ex_g (some 40) (.bool false) rfl rfl (exec_geq _ _ _ _ rfl s p rfl rfl false (decide_eq_false (by omega))) ?_
  go_frame
  refine ls_ex (some 41) (.bool false) rfl rfl (exec_pick _ _ _ rfl false rfl (.bool false) rfl) ?_
  go_frame
  refine wpList_nil ?_
  go_upto_region 5 with (fail)
  refine wp_region_lit ?_
  refine ls_ex (some 43) (.int .i64 I) rfl rfl (exec_move _ rfl (.int .i64 I) rfl) ?_
  go_frame
  refine ls_ex (some 44) (.int .i64 J) rfl rfl (exec_move _ rfl (.int .i64 J) rfl) ?_
  go_frame
  refine ls_ex (some 45) (.int .i64 F) rfl rfl (exec_move _ rfl (.int .i64 F) rfl) ?_
  go_frame
  refine ls_ex (some 46) (.agg #[.int .i64 I, .int .i64 J, .int .i64 F]) rfl rfl (exec_build_flip _ _ _ rfl _ _ _ rfl rfl rfl) ?_
  go_frame
  refine ls_op rfl (fun K' hK' => ?_)
  have lz32 := hB.size
  have lz33 := hz5.lt
  have lz34 := hz11.lt
  refine wp_new (some 12) rfl (al_impl_flip rfl) (fun Wz35 nnz36 => ?_)
  have bz37 := nnz36.below (Below.refl _ _) (Nat.le_refl _)
  replace hB := below_after hB bz37
  replace hz5 := hz5.after bz37
  replace hz11 := hz11.after bz37
  have hz38 : At Wz35 Wz22.heap.size (.cells #[.int .i64 0, .int .i64 0, .int .i64 0] 58 (0, 0)) := nnz36.at_
  refine hK' _ _ ?_
  clear hK' K' nnz36 bz37
  go_frame
  refine ls_op rfl (fun K' hK' => ?_)
  refine wp_store_all 58 _ _ rfl rfl Wz22.heap.size rfl #[.int .i64 I, .int .i64 J, .int .i64 F] rfl _ _ hz38 3 (by kernel_rfl) rfl rfl (by intro x hx; simp at hx; rcases hx with rfl | rfl | rfl <;> rfl) (fun Wz39 pz40 => ?_)
  replace hB := pz40.below hB (by omega)
  replace hz5 := pz40.other hz5 (by omega)
  replace hz11 := pz40.other hz11 (by omega)
  replace hz38 : At Wz39 Wz22.heap.size (.cells #[.int .i64 I, .int .i64 J, .int .i64 F] 58 (0, 0)) := pz40.at_
  refine hK' _ _ ?_
  clear hK' K' pz40
  refine wpList_nil ?_
  go_upto_region 6 with (fail)
  refine wp_region_lit ?_
  refine ls_ex (some 47) (.agg #[.int .i64 I, .int .i64 J, .int .i64 F]) rfl rfl (exec_load_all 58 _ rfl Wz22.heap.size rfl _ _ _ hz38 Try.underlying58 rfl 3 (by kernel_rfl) rfl) ?_
  go_frame
  refine ls_ex (some 48) (.agg #[.int .i64 p, .int .i64 n, .int .i64 m, .int .i64 k, .slice (some ⟨a0, 0, none⟩) qs.length c]) rfl rfl (exec_load_all 28 _ rfl w.heap.size rfl _ _ _ hz5 Try.underlying28 rfl 5 (by kernel_rfl) rfl) ?_
  go_frame
  refine ls_op rfl (fun K' hK' => ?_)
  have lz43 := hB.size
  have lz44 := hz5.lt
  have lz45 := hz11.lt
  have lz46 := hz38.lt
  refine wp_call2 (some 49) rfl 33 _ _ _ rfl (fun args w => by kernel_rfl) _ _ rfl rfl _ (isOf_c p n m k a0 0 c qs I J F Q R _ (hR.keep hB) HQi.out HRj.out hF3 (by omega)) (fun e Wz41 h => ?_)
  obtain ⟨rfl, bz42⟩ := h
  replace hB := below_after hB bz42
  replace hz5 := hz5.after bz42
  replace hz11 := hz11.after bz42
  replace hz38 := hz38.after bz42
  rw [Hfl.out]
  clear bz42
  refine ⟨_, rfl, ?_⟩
  refine hK' _ _ ?_
  clear hK' K'
  go_frame
  refine ls_ex (some 50) (.bool true) rfl rfl (exec_not _ _ rfl false rfl) ?_
  go_frame
  refine wpList_nil ?_
  go_upto_region 7 with (fail)
  refine wp_region_lit ?_
  refine ls_ex (some 51) (.agg #[.int .i64 0, .int .i64 0, .int .i64 0, .int .i64 0, .slice none 0 0]) rfl rfl (exec_build_nil 28 rfl _ (by kernel_rfl)) ?_
  go_frame
  refine ls_op rfl (fun K' hK' => ?_)
  refine wp_store_all 28 _ _ rfl rfl Wz2.heap.size rfl #[.int .i64 0, .int .i64 0, .int .i64 0, .int .i64 0, .slice none 0 0] rfl _ _ hz11 5 (by kernel_rfl) rfl rfl (one5 _ _ _ _ _ _ _) (fun Wz47 pz48 => ?_)
  replace hB := pz48.below hB (by omega)
  replace hz5 := pz48.other hz5 (by omega)
  replace hz38 := pz48.other hz38 (by omega)
  replace hz11 : At Wz47 Wz2.heap.size (.cells #[.int .i64 0, .int .i64 0, .int .i64 0, .int .i64 0, .slice none 0 0] 28 (0, 0)) := pz48.at_
  refine hK' _ _ ?_
  clear hK' K' pz48
  refine ls_ex (some 11) (.int .i64 5) rfl rfl (exec_assign _ rfl (.int .i64 5) rfl) ?_
  go_frame
  refine wpList_nil ?_
  go_wp2_with fail
  refine bodyPost_ret (results_at2 rfl _ _ Wz2.heap.size _ _ _ rfl _ rfl hz11 Try.underlying28 rfl 5 (by kernel_rfl) rfl) rfl ?_
  unfold ResS fpZ fpL
  rw [HC.out]
  exact ⟨_, rfl, Own.nil _ _, hB⟩
set_option maxHeartbeats 4000000 in
theorem implFlipP_y (p n m k : Int) (a0 c : Nat) (qs : List (List Nat)) (I J F : Nat) (s : Int) (Q R : List Nat) (w : World) (hR : Rd w (some ⟨a0, 0, none⟩) qs) (hQ : qs[I]? = some Q) (hRj : qs[J]? = some R) (hF3 : F < 3) (hs : schemeB p n m k qs = true) (hsr : (decide (1 ≤ s) && decide (s ≤ p - 1)) = true) (hne : I ≠ J) (hq : (facQ Q F == facQ R F) = true) :
    Calls Try.prog 10 #[.agg #[.int .i64 p, .int .i64 n, .int .i64 m, .int .i64 k, .slice (some ⟨a0, 0, none⟩) qs.length c], .int .i64 I, .int .i64 J, .int .i64 F, .int .i64 s] w (ResS w (fpZ (fpCode p n m k qs I J F s) p) (fpZ (fpCode p n m k qs I J F s) n) (fpZ (fpCode p n m k qs I J F s) m) (fpZ (fpCode p n m k qs I J F s) k) (fpL (fpCode p n m k qs I J F s) (fpQs p qs I J F s)) (fpCode p n m k qs I J F s)) := by
  have hB := Below.refl w.heap.size w
  have hp5 := primeB_5 (sizesB_parts (schemeB_sizes hs)).1
  have h30 := schemeB_len hs
  have hI := (List.getElem?_eq_some_iff.1 hQ).1
  have hJ := (List.getElem?_eq_some_iff.1 hRj).1
  have hi9 : inI (I : Int) qs.length = true := by simp [inI]; omega
  have hj9 : inI (J : Int) qs.length = true := by simp [inI]; omega
  have hf9 : inI (F : Int) 3 = true := by simp [inI]; omega
  have hfl : flB Q R I J F = true := by unfold flB; rw [hq, decide_eq_true hne]; rfl
  have HC : Hid (fpCode p n m k qs I J F s = 0) := Lib.hid (by unfold fpCode; rw [hs, hi9, hj9, hf9, hsr, Int.toNat_natCast, Int.toNat_natCast, Int.toNat_natCast, hQ, hRj, Option.getD_some, Option.getD_some, hfl]; rfl)
  obtain ⟨FL, hFL⟩ : ∃ z9, flL p s qs I J F Q R = z9 := ⟨_, rfl⟩
  have HFQ : Hid (fpQs p qs I J F s = FL) := Lib.hid (by unfold fpQs; rw [Int.toNat_natCast, Int.toNat_natCast, Int.toNat_natCast, hQ, hRj, Option.getD_some, Option.getD_some, hFL])
  have HFL8 := Lib.hid hFL
  obtain ⟨M8, hM8⟩ : ∃ z9, FL.length = z9 := ⟨_, rfl⟩
  have HM8 := Lib.hid hM8
  have hp2 := prime_two (sizesB_parts (schemeB_sizes hs)).1
  have hs9 : 1 ≤ s ∧ s ≤ p - 1 := by simpa only [Bool.and_eq_true, decide_eq_true_eq] using hsr
  have Hsn := Lib.hid hsr
  have Hs := Lib.hid hs
  have HIi := Lib.hid hi9
  have HIj := Lib.hid hj9
  have HIf := Lib.hid hf9
  have Hfl := Lib.hid hfl
  have HQi := Lib.hid hQ
  have HRj := Lib.hid hRj
  have HQ := Lib.hid (hR.good _ (List.mem_of_getElem? hQ))
  have HRb := Lib.hid (hR.good _ (List.mem_of_getElem? hRj))
  have Hxs : Hid (([(I : Int), (J : Int)].all fun x => inI x qs.length) = true) := Lib.hid (by simp [hi9, hj9])
  have Hf2 : Hid ((decide (0 ≤ (F : Int)) && decide ((F : Int) ≤ 2)) = true) := Lib.hid (by rw [← hf9]; exact inI_sub F 3)
  have HNE : Hid ((!(facQ Q F == facQ R F)) = false) := Lib.hid (by rw [hq]; rfl)
  clear hq
  clear hs hsr hi9 hj9 hf9 hfl hQ hRj hFL hM8
  go_enter Try.func10, Try.ntmps10
  go_upto_region 0 with (fail)
  refine wp_region_lit ?_
  refine ls_op rfl (fun K' hK' => ?_)
  have lz1 := hB.size
  refine wp_new (some 5) rfl (exec_box 28 _ rfl (#[.int .i64 p, .int .i64 n, .int .i64 m, .int .i64 k, .slice (some ⟨a0, 0, none⟩) qs.length c]) rfl) (fun Wz2 nnz3 => ?_)
  have bz4 := nnz3.below (Below.refl _ _) (Nat.le_refl _)
  replace hB := below_after hB bz4
  have hz5 : At Wz2 w.heap.size (.cells #[.int .i64 p, .int .i64 n, .int .i64 m, .int .i64 k, .slice (some ⟨a0, 0, none⟩) qs.length c] 28 (0, 0)) := nnz3.at_
  refine hK' _ _ ?_
  clear hK' K' nnz3 bz4
  go_frame
  refine ls_op rfl (fun K' hK' => ?_)
  have lz6 := hB.size
  have lz7 := hz5.lt
  refine wp_new (some 10) rfl (al_impl_Scheme rfl) (fun Wz8 nnz9 => ?_)
  have bz10 := nnz9.below (Below.refl _ _) (Nat.le_refl _)
  replace hB := below_after hB bz10
  replace hz5 := hz5.after bz10
  have hz11 : At Wz8 Wz2.heap.size (.cells #[.int .i64 0, .int .i64 0, .int .i64 0, .int .i64 0, .slice none 0 0] 28 (0, 0)) := nnz9.at_
  refine hK' _ _ ?_
  clear hK' K' nnz9 bz10
  go_frame
  refine ls_ex (some 11) (.int .i64 0) rfl rfl (exec_assign _ rfl (.int .i64 0) rfl) ?_
  go_frame
  refine wpList_nil ?_
  go_upto_region 1 with (fail)
  refine wp_region_lit ?_
  refine ls_ex (some 13) (.agg #[.int .i64 p, .int .i64 n, .int .i64 m, .int .i64 k, .slice (some ⟨a0, 0, none⟩) qs.length c]) rfl rfl (exec_load_all 28 _ rfl w.heap.size rfl _ _ _ hz5 Try.underlying28 rfl 5 (by kernel_rfl) rfl) ?_
  go_frame
  refine ls_op rfl (fun K' hK' => ?_)
  have lz14 := hB.size
  have lz15 := hz5.lt
  have lz16 := hz11.lt
  refine wp_call1 (some 14) rfl 30 _ _ rfl (fun args w => by kernel_rfl) _ rfl _ (implIsScheme_c p n m k (some ⟨a0, 0, none⟩) c qs _ (hR.keep hB) (by omega)) (fun e Wz12 h => ?_)
  obtain ⟨rfl, bz13⟩ := h
  replace hB := below_after hB bz13
  replace hz5 := hz5.after bz13
  replace hz11 := hz11.after bz13
  rw [Hs.out]
  clear bz13
  refine ⟨_, rfl, ?_⟩
  refine hK' _ _ ?_
  clear hK' K'
  go_frame
  refine ls_ex (some 15) (.bool false) rfl rfl (exec_not _ _ rfl true rfl) ?_
  go_frame
  refine wpList_nil ?_
  go_upto_region 3 with (fail)
  refine wp_region_lit ?_
  refine ls_ex (some 17) (.agg #[.int .i64 p, .int .i64 n, .int .i64 m, .int .i64 k, .slice (some ⟨a0, 0, none⟩) qs.length c]) rfl rfl (exec_load_all 28 _ rfl w.heap.size rfl _ _ _ hz5 Try.underlying28 rfl 5 (by kernel_rfl) rfl) ?_
  go_frame
  refine ls_ex (some 18) (.int .i64 I) rfl rfl (exec_move _ rfl (.int .i64 I) rfl) ?_
  go_frame
  refine ls_op rfl (fun K' hK' => ?_)
  have lz19 := hB.size
  have lz20 := hz5.lt
  have lz21 := hz11.lt
  refine wp_call2 (some 19) rfl 31 _ _ _ rfl (fun args w => by kernel_rfl) _ _ rfl rfl _ (isProductIndex_c p n m k _ c qs.length I _) (fun e Wz17 h => ?_)
  obtain ⟨rfl, bz18⟩ := h
  replace hB := below_after hB bz18
  replace hz5 := hz5.after bz18
  replace hz11 := hz11.after bz18
  rw [HIi.out]
  clear bz18
  refine ⟨_, rfl, ?_⟩
  refine hK' _ _ ?_
  clear hK' K'
  go_frame
  refine ls_ex (some 20) (.bool false) rfl rfl (exec_not _ _ rfl true rfl) ?_
  go_frame
  refine ls_ex (some 21) (.bool false) rfl rfl (exec_move _ rfl (.bool false) rfl) ?_
  go_frame
  refine ls_ex_g (some 22) (.agg #[.int .i64 p, .int .i64 n, .int .i64 m, .int .i64 k, .slice (some ⟨a0, 0, none⟩) qs.length c]) rfl rfl (exec_load_all 28 _ rfl w.heap.size rfl _ _ _ hz5 Try.underlying28 rfl 5 (by kernel_rfl) rfl) ?_
  go_frame
  refine ls_ex_g (some 23) (.int .i64 J) rfl rfl (exec_move _ rfl (.int .i64 J) rfl) ?_
  go_frame
  refine ls_op_g rfl (fun K' hK' => ?_)
  have lz24 := hB.size
  have lz25 := hz5.lt
  have lz26 := hz11.lt
  refine wp_call2 (some 24) rfl 31 _ _ _ rfl (fun args w => by kernel_rfl) _ _ rfl rfl _ (isProductIndex_c p n m k _ c qs.length J _) (fun e Wz22 h => ?_)
  obtain ⟨rfl, bz23⟩ := h
  replace hB := below_after hB bz23
  replace hz5 := hz5.after bz23
  replace hz11 := hz11.after bz23
  rw [HIj.out]
  clear bz23
  refine ⟨_, rfl, ?_⟩
  refine hK' _ _ ?_
  clear hK' K'
  go_frame
  refine ls_ex_g (some 25) (.bool false) rfl rfl (exec_not _ _ rfl true rfl) ?_
  go_frame
  refine ls_ex (some 26) (.bool false) rfl rfl (exec_pick _ _ _ rfl false rfl (.bool false) rfl) ?_
  go_frame
  refine ls_ex (some 27) (.bool false) rfl rfl (exec_move _ rfl (.bool false) rfl) ?_
  go_frame
  refine ls_ex_g (some 28) (.int .i64 F) rfl rfl (exec_move _ rfl (.int .i64 F) rfl) ?_
  go_frame
  refine ls_op_g rfl (fun K' hK' => ?_)
  have lz29 := hB.size
  have lz30 := hz5.lt
  have lz31 := hz11.lt
  refine wp_call2 (some 29) rfl 32 _ _ _ rfl (fun args w => by kernel_rfl) _ _ rfl rfl _ (isIdx_c F 3 _) (fun e Wz27 h => ?_)
  obtain ⟨rfl, rfl⟩ := h
  rw [HIf.out]
  refine ⟨_, rfl, ?_⟩
  refine hK' _ _ ?_
  clear hK' K'
  go_frame
  refine ls_ex_g (some 30) (.bool false) rfl rfl (exec_not _ _ rfl true rfl) ?_
  go_frame
  refine ls_ex (some 31) (.bool false) rfl rfl (exec_pick _ _ _ rfl false rfl (.bool false) rfl) ?_
  go_frame
  refine ls_ex (some 32) (.bool false) rfl rfl (exec_move _ rfl (.bool false) rfl) ?_
  go_frame
  refine ls_ex_g (some 33) (.int .i64 s) rfl rfl (exec_move _ rfl (.int .i64 s) rfl) ?_
  go_frame
  refine ls_ex_g (some 34) (.bool false) rfl rfl (exec_lss _ _ _ _ rfl s 1 rfl rfl false (decide_eq_false (by omega))) ?_
  go_frame
  refine ls_ex (some 35) (.bool false) rfl rfl (exec_pick _ _ _ rfl false rfl (.bool false) rfl) ?_
  go_frame
  refine ls_ex (some 36) (.bool false) rfl rfl (exec_move _ rfl (.bool false) rfl) ?_
  go_frame
  refine ls_ex_g (some 37) (.int .i64 s) rfl rfl (exec_move _ rfl (.int .i64 s) rfl) ?_
  go_frame
  refine ls_ex_g (some 38) (.pointer (some ⟨w.heap.size, 0, none⟩)) rfl rfl (exec_fieldAddr 28 _ 0 rfl _ (by kernel_rfl)) ?_
  go_frame
  refine ls_ex_g (some 39) (.int .i64 p) rfl rfl (exec_load_one 2 _ rfl w.heap.size 0 rfl (.int .i64 p) _ Try.underlying2 rfl (hz5.at_ 0)) ?_
  go_frame
  refine ls_ex_g (some 40) (.bool false) rfl rfl (exec_geq _ _ _ _ rfl s p rfl rfl false (decide_eq_false (by omega))) ?_
  go_frame
  refine ls_ex (some 41) (.bool false) rfl rfl (exec_pick _ _ _ rfl false rfl (.bool false) rfl) ?_
  go_frame
  refine wpList_nil ?_
  go_upto_region 5 with (fail)
  refine wp_region_lit ?_
  refine ls_ex (some 43) (.int .i64 I) rfl rfl (exec_move _ rfl (.int .i64 I) rfl) ?_
  go_frame
  refine ls_ex (some 44) (.int .i64 J) rfl rfl (exec_move _ rfl (.int .i64 J) rfl) ?_
  go_frame
  refine ls_ex (some 45) (.int .i64 F) rfl rfl (exec_move _ rfl (.int .i64 F) rfl) ?_
  go_frame
  refine ls_ex (some 46) (.agg #[.int .i64 I, .int .i64 J, .int .i64 F]) rfl rfl (exec_build_flip _ _ _ rfl _ _ _ rfl rfl rfl) ?_
  go_frame
  refine ls_op rfl (fun K' hK' => ?_)
  have lz32 := hB.size
  have lz33 := hz5.lt
  have lz34 := hz11.lt
  refine wp_new (some 12) rfl (al_impl_flip rfl) (fun Wz35 nnz36 => ?_)
  have bz37 := nnz36.below (Below.refl _ _) (Nat.le_refl _)
  replace hB := below_after hB bz37
  replace hz5 := hz5.after bz37
  replace hz11 := hz11.after bz37
  have hz38 : At Wz35 Wz22.heap.size (.cells #[.int .i64 0, .int .i64 0, .int .i64 0] 58 (0, 0)) := nnz36.at_
  refine hK' _ _ ?_
  clear hK' K' nnz36 bz37
  go_frame
  refine ls_op rfl (fun K' hK' => ?_)
  refine wp_store_all 58 _ _ rfl rfl Wz22.heap.size rfl #[.int .i64 I, .int .i64 J, .int .i64 F] rfl _ _ hz38 3 (by kernel_rfl) rfl rfl (by intro x hx; simp at hx; rcases hx with rfl | rfl | rfl <;> rfl) (fun Wz39 pz40 => ?_)
  replace hB := pz40.below hB (by omega)
  replace hz5 := pz40.other hz5 (by omega)
  replace hz11 := pz40.other hz11 (by omega)
  replace hz38 : At Wz39 Wz22.heap.size (.cells #[.int .i64 I, .int .i64 J, .int .i64 F] 58 (0, 0)) := pz40.at_
  refine hK' _ _ ?_
  clear hK' K' pz40
  refine wpList_nil ?_
  go_upto_region 6 with (fail)
  refine wp_region_lit ?_
  refine ls_ex (some 47) (.agg #[.int .i64 I, .int .i64 J, .int .i64 F]) rfl rfl (exec_load_all 58 _ rfl Wz22.heap.size rfl _ _ _ hz38 Try.underlying58 rfl 3 (by kernel_rfl) rfl) ?_
  go_frame
  refine ls_ex (some 48) (.agg #[.int .i64 p, .int .i64 n, .int .i64 m, .int .i64 k, .slice (some ⟨a0, 0, none⟩) qs.length c]) rfl rfl (exec_load_all 28 _ rfl w.heap.size rfl _ _ _ hz5 Try.underlying28 rfl 5 (by kernel_rfl) rfl) ?_
  go_frame
  refine ls_op rfl (fun K' hK' => ?_)
  have lz43 := hB.size
  have lz44 := hz5.lt
  have lz45 := hz11.lt
  have lz46 := hz38.lt
  refine wp_call2 (some 49) rfl 33 _ _ _ rfl (fun args w => by kernel_rfl) _ _ rfl rfl _ (isOf_c p n m k a0 0 c qs I J F Q R _ (hR.keep hB) HQi.out HRj.out hF3 (by omega)) (fun e Wz41 h => ?_)
  obtain ⟨rfl, bz42⟩ := h
  replace hB := below_after hB bz42
  replace hz5 := hz5.after bz42
  replace hz11 := hz11.after bz42
  replace hz38 := hz38.after bz42
  rw [Hfl.out]
  clear bz42
  refine ⟨_, rfl, ?_⟩
  refine hK' _ _ ?_
  clear hK' K'
  go_frame
  refine ls_ex (some 50) (.bool false) rfl rfl (exec_not _ _ rfl true rfl) ?_
  go_frame
  refine wpList_nil ?_
  go_upto_region 8 with (fail)
  refine wp_region_lit ?_
  refine ls_ex (some 52) (.agg #[.int .i64 p, .int .i64 n, .int .i64 m, .int .i64 k, .slice (some ⟨a0, 0, none⟩) qs.length c]) rfl rfl (exec_load_all 28 _ rfl w.heap.size rfl _ _ _ hz5 Try.underlying28 rfl 5 (by kernel_rfl) rfl) ?_
  go_frame
  refine ls_ex (some 53) (.agg #[.int .i64 I, .int .i64 J, .int .i64 F]) rfl rfl (exec_load_all 58 _ rfl Wz22.heap.size rfl _ _ _ hz38 Try.underlying58 rfl 3 (by kernel_rfl) rfl) ?_
  go_frame
  refine ls_ex (some 54) (.int .i64 s) rfl rfl (exec_move _ rfl (.int .i64 s) rfl) ?_
  go_frame
  refine ls_op rfl (fun K' hK' => ?_)
  have lz49 := hB.size
  have lz50 := hz5.lt
  have lz51 := hz11.lt
  have lz52 := hz38.lt
  have lo8 := hB.size
  refine wp_call3 (some 55) rfl 34 _ _ _ _ rfl (fun args w => by kernel_rfl) _ _ _ rfl rfl rfl _ (flipped_c p n m k s a0 0 c qs I J F Q R _ (hR.keep hB) HQi.out HRj.out hF3 hne (by omega) (by omega) (by omega)) (fun e Wz47 h => ?_)
  obtain ⟨v8, rfl, ho, bz48⟩ := h
  replace hB := below_after hB bz48
  replace hz5 := hz5.after bz48
  replace hz11 := hz11.after bz48
  replace hz38 := hz38.after bz48
  rw [HFL8.out] at ho
  obtain ⟨A8, c8, rfl⟩ := Own.rdN2 ho (n := M8) HM8.out
  clear bz48
  refine ⟨_, rfl, ?_⟩
  refine hK' _ _ ?_
  clear hK' K'
  go_frame
  refine ls_op rfl (fun K' hK' => ?_)
  refine wp_store_all 28 _ _ rfl rfl Wz2.heap.size rfl #[.int .i64 p, .int .i64 n, .int .i64 m, .int .i64 k, .slice A8 M8 c8] rfl _ _ hz11 5 (by kernel_rfl) rfl rfl (one5 _ _ _ _ _ _ _) (fun Wz53 pz54 => ?_)
  replace hB := pz54.below hB (by omega)
  replace hz5 := pz54.other hz5 (by omega)
  replace hz38 := pz54.other hz38 (by omega)
  replace ho := ho.put pz54 (ho.off hz11 (by decide))
  replace hz11 : At Wz53 Wz2.heap.size (.cells #[.int .i64 p, .int .i64 n, .int .i64 m, .int .i64 k, .slice A8 M8 c8] 28 (0, 0)) := pz54.at_
  refine hK' _ _ ?_
  clear hK' K' pz54
  refine ls_ex (some 11) (.int .i64 0) rfl rfl (exec_assign _ rfl (.int .i64 0) rfl) ?_
  go_frame
  refine wpList_nil ?_
  go_wp2_with fail
  refine bodyPost_ret (results_at2 rfl _ _ Wz2.heap.size _ _ _ rfl _ rfl hz11 Try.underlying28 rfl 5 (by kernel_rfl) rfl) rfl ?_
  unfold ResS fpZ fpL
  rw [HC.out]
  exact ⟨_, rfl, by rw [if_pos rfl, HFQ.out]; exact ho.mono (by omega), hB⟩
theorem implFlipProducts_c (p n m k : Int) (a0 c : Nat) (qs : List (List Nat)) (i j f s : Int) (w : World) (hR : Rd w (some ⟨a0, 0, none⟩) qs) (hlen : qs.length ≤ 1048576) : Calls Try.prog 10 #[.agg #[.int .i64 p, .int .i64 n, .int .i64 m, .int .i64 k, .slice (some ⟨a0, 0, none⟩) qs.length c], .int .i64 i, .int .i64 j, .int .i64 f, .int .i64 s] w (ResS w (fpZ (fpCode p n m k qs i j f s) p) (fpZ (fpCode p n m k qs i j f s) n) (fpZ (fpCode p n m k qs i j f s) m) (fpZ (fpCode p n m k qs i j f s) k) (fpL (fpCode p n m k qs i j f s) (fpQs p qs i j f s)) (fpCode p n m k qs i j f s)) := by
  rcases Bool.eq_false_or_eq_true (schemeB p n m k qs) with hs | hs
  · rcases Bool.eq_false_or_eq_true (inI i qs.length) with hi | hi
    · rcases Bool.eq_false_or_eq_true (inI j qs.length) with hj | hj
      · rcases Bool.eq_false_or_eq_true (inI f 3) with hf | hf
        · by_cases hr1 : 1 ≤ s
          · by_cases hr : p ≤ s
            · exact implFlipP_d2 p n m k a0 c qs i j f s w hR hlen hs hi hj hf hr hr1
            · have hsr : (decide (1 ≤ s) && decide (s ≤ p - 1)) = true := by rw [decide_eq_true hr1, decide_eq_true (by omega : s ≤ p - 1)]; rfl
              have hi' := hi
              have hj' := hj
              have hf' := hf
              simp only [inI, Bool.and_eq_true, decide_eq_true_eq] at hi' hj' hf'
              obtain ⟨I, rfl⟩ := Int.eq_ofNat_of_zero_le hi'.1
              obtain ⟨J, rfl⟩ := Int.eq_ofNat_of_zero_le hj'.1
              obtain ⟨F, rfl⟩ := Int.eq_ofNat_of_zero_le hf'.1
              have hI : I < qs.length := by omega
              have hJ : J < qs.length := by omega
              have hQ := List.getElem?_eq_getElem hI
              have hRj := List.getElem?_eq_getElem hJ
              by_cases hij : I = J
              · exact implFlipP_e p n m k a0 c qs I J F s _ _ w hR hQ hRj (by omega) hs hsr hij
              · rcases Bool.eq_false_or_eq_true (facQ qs[I] F == facQ qs[J] F) with hq | hq
                · exact implFlipP_y p n m k a0 c qs I J F s _ _ w hR hQ hRj (by omega) hs hsr hij hq
                · exact implFlipP_g p n m k a0 c qs I J F s _ _ w hR hQ hRj (by omega) hs hsr hij hq
          · exact implFlipP_d p n m k a0 c qs i j f s w hR hlen hs hi hj hf (by omega)
        · exact implFlipP_c p n m k a0 c qs i j f s w hR hlen hs hi hj hf
      · exact implFlipP_b2 p n m k a0 c qs i j f s w hR hlen hs hi hj
    · exact implFlipP_b p n m k a0 c qs i j f s w hR hlen hs hi
  · exact implFlipP_a p n m k a0 c qs i j f s w hR hlen hs
end Go.Proofs.Ytppenoincihoeaa
