/-
  spec.l09Tensor, impl.tensorOfMethod, TensorOfMethod of both sides. (Made by mkl9t.py.)
-/
import Derived.Test.YtbahcbmmkbokgaaMt2
import Derived.Test.YtbahcbmmkbokgaaTop
import Derived.Test.YtbahcbmmkbokgaaTenK
import Derived.Test.YtbahcbmmkbokgaaHeldT
namespace Go.Proofs.Ytbahcbmmkbokgaa
open Go.RowKit
set_option maxRecDepth 100000
attribute [local irreducible] wpList
theorem OwnI.ne_lt8 {w : World} {lo g : Nat} {v : Value} {xs : List Int} (h : OwnI w lo v xs) (hg : g < lo) : some g ≠ v.ownBlock := fun e => by have := (h.lt e.symm).1; omega

def tZ (code x : Int) : Int := if code = 0 then x else 0
def tL (code : Int) (l : List Int) : List Int := if code = 0 then l else []
theorem tL_len {code : Int} {l : List Int} {N : Nat} (h : code = 0 → l.length ≤ N) : (tL code l).length ≤ N := by
  unfold tL
  split
  · exact h (by assumption)
  · simp

theorem tq_wrap {c M x : Nat} (h : c / M = x) (hc : c < 1000000) : IntKind.i64.wrap ((c : Int).tdiv (M : Int)) = (x : Int) := by
  have h1 := Nat.div_le_self c M
  rw [← Int.ofNat_tdiv, h]
  exact IntWalk.i64_in _ (by omega)
theorem tm_cast {c M x : Nat} (h : c % M = x) : (c : Int).tmod (M : Int) = (x : Int) := by rw [← Int.ofNat_tmod, h]
theorem mw_cast {a b c : Nat} (h : a * b = c) (hc : c < 1000000000000) : IntKind.i64.wrap ((a : Int) * (b : Int)) = (c : Int) := by
  rw [← Int.natCast_mul, h]
  exact IntWalk.i64_in _ (by omega)
theorem aw_cast {a b c : Nat} (h : a + b = c) (hc : c < 1000000000000) : IntKind.i64.wrap ((a : Int) + (b : Int)) = (c : Int) := by
  rw [← Int.natCast_add, h]
  exact IntWalk.i64_in _ (by omega)
theorem cell_u8 {w : World} {b o x A : Nat} {q : List Nat} {t : TypeId} (h : At w b (.cells (u8s q) t (0, 0))) (hl : o + x < q.length) (hv : q[o + x]?.getD 0 = A) : w.cell? ⟨b, o + x * 1, none⟩ = some (.int .u8 (A : Int)) := by
  have h9 := h.cell (i := o + x) hl
  rw [hv] at h9
  rw [Nat.mul_one]
  exact h9
theorem cell_iar {w : World} {g c : Nat} {xs : List Int} {V : Int} (h : At w g (.cells (iar xs) 2 (0, 0))) (hv : xs[c]? = some V) : w.cell? ⟨g, c * 1, none⟩ = some (.int .i64 V) := by
  rw [Nat.mul_one, h.at_]
  simp [iar, i64s, hv]
/-- The first 'c' numbers of one list, the rest of another. -/
def mixI (new old : List Int) (c : Nat) : List Int := new.take c ++ old.drop c
theorem mixI_len {new old : List Int} {c N : Nat} (hn : new.length = N) (ho : old.length = N) (hc : c ≤ N) : (mixI new old c).length = N := by simp [mixI, hn, ho]; omega
theorem mixI_get {new old : List Int} {c N : Nat} (hn : new.length = N) (hc : c < N) : (mixI new old c)[c]? = old[c]? := by
  have hl : (new.take c).length = c := by simp [hn]; omega
  unfold mixI
  rw [List.getElem?_append_right (by omega), hl, Nat.sub_self, List.getElem?_drop, Nat.add_zero]
theorem mixI_set {new old : List Int} {c N : Nat} {X : Int} (hn : new.length = N) (ho : old.length = N) (hc : c < N) (hX : new[c]? = some X) : (mixI new old c).set c X = mixI new old (c + 1) := by
  have hl : (new.take c).length = c := by simp [hn]; omega
  unfold mixI
  rw [List.set_append_right _ _ (by omega), hl, Nat.sub_self, List.drop_eq_getElem_cons (by omega), List.set_cons_zero, List.take_add_one, hX, List.append_assoc]
  rfl
theorem mixI_zero (new old : List Int) : mixI new old 0 = old := by simp [mixI]
theorem mixI_all {new old : List Int} {N : Nat} (hn : new.length = N) (ho : old.length = N) : mixI new old N = new := by
  rw [mixI, List.take_of_length_le (by omega), List.drop_eq_nil_of_le (by omega), List.append_nil]
theorem topL_get {P N0 N1 N2 c : Nat} (qs : List (List Nat)) (hc : c < N0 * N1 * N2) : (topL P N0 N1 N2 qs)[c]? = some (((sumN qs (c / N2 / N1) (c / N2 % N1) (c % N2) % P : Nat)) : Int) := by
  unfold topL genL
  rw [List.getElem?_map, List.getElem?_range hc]
  simp [gen]
theorem topL_zero (P N0 N1 N2 : Nat) : topL P N0 N1 N2 [] = List.replicate (N0 * N1 * N2) 0 := by
  apply List.ext_getElem
  · simp [topL, genL]
  · intro t h1 h2
    simp [topL, genL, gen, sumN]
def tomCode (p i j k : Int) (qs : List (List Nat)) : Int := if methB p i j k qs = true then 0 else 1
def tomL (p i j k : Int) (qs : List (List Nat)) : List Int := topL p i.toNat j.toNat k.toNat qs
theorem tom_len {p i j k : Int} {qs : List (List Nat)} : (tL (tomCode p i j k qs) (tomL p i j k qs)).length ≤ 1048576 := tL_len fun h => by
  unfold tomCode at h
  split at h
  · next h2 =>
    obtain ⟨_, h3, h4, h5, _⟩ := methB_parts h2
    simp only [sideB, Bool.and_eq_true, decide_eq_true_eq] at h3 h4 h5
    unfold tomL
    rw [topL_len]
    have := places_729 (n0 := i.toNat) (n1 := j.toNat) (n2 := k.toNat) (by omega) (by omega) (by omega)
    omega
  · omega
theorem methB_nums {p i j k : Int} {qs : List (List Nat)} (h : methB p i j k qs = true) : ∃ P N0 N1 N2 : Nat, p = P ∧ i = N0 ∧ j = N1 ∧ k = N2 ∧ (2 ≤ P ∧ P ≤ 5) ∧ (1 ≤ N0 ∧ N0 ≤ 9) ∧ (1 ≤ N1 ∧ N1 ≤ 9) ∧ (1 ≤ N2 ∧ N2 ≤ 9) := by
  obtain ⟨h1, h3, h4, h5, _⟩ := methB_parts h
  have hp := prime_le5 h1
  simp only [sideB, Bool.and_eq_true, decide_eq_true_eq] at h3 h4 h5
  exact ⟨p.toNat, i.toNat, j.toNat, k.toNat, by omega, by omega, by omega, by omega, by omega, by omega, by omega, by omega⟩
theorem quot_bounds {c N0 N1 N2 : Nat} (h : c < N0 * N1 * N2) (l0 : N0 ≤ 9) (l1 : 1 ≤ N1 ∧ N1 ≤ 9) (l2 : 1 ≤ N2 ∧ N2 ≤ 9) : c / N2 / N1 < 9 ∧ c / N2 % N1 < 9 ∧ c % N2 < 9 := by
  have q1 : c / N2 < N0 * N1 := Nat.div_lt_of_lt_mul (by rw [Nat.mul_comm]; exact h)
  have q2 : c / N2 / N1 < N0 := Nat.div_lt_of_lt_mul (by rw [Nat.mul_comm]; exact q1)
  have q3 := Nat.mod_lt (c / N2) (show 0 < N1 by omega)
  have q4 := Nat.mod_lt c (show 0 < N2 by omega)
  omega
theorem al_impl_Tensor {o : Oper} {a : Act} {w : World} (ho : o.op = .alloc 28) : (execOp a.eval o).run Try.prog w = .ok (.value (.pointer (some ⟨w.heap.size, 0, none⟩))) (w.alloc (.cells #[.int .i64 0, .int .i64 0, .int .i64 0, .int .i64 0, .slice none 0 0] 28 (0, 0))) := by
  unfold execOp
  rw [ho]
  kernel_rfl
set_option maxHeartbeats 25600000 in
theorem l09Tensor_c (P N0 N1 N2 : Nat) (A : Option Addr) (c0 : Nat) (qs : List (List Nat)) (w : World) (hR : Rd w A qs) (hlen : qs.length ≤ 30) (hP : 2 ≤ P ∧ P ≤ 5) (l0 : 1 ≤ N0 ∧ N0 ≤ 9) (l1 : 1 ≤ N1 ∧ N1 ≤ 9) (l2 : 1 ≤ N2 ∧ N2 ≤ 9) :
    Calls Try.prog 27 #[.agg #[.int .i64 P, .int .i64 N0, .int .i64 N1, .int .i64 N2, .slice A qs.length c0]] w (fun e w' => ∃ v, e = .returned (.agg #[.int .i64 P, .int .i64 N0, .int .i64 N1, .int .i64 N2, v]) ∧ OwnI w' w.heap.size v (topL P N0 N1 N2 qs) ∧ Below w.heap.size w w') := by
  have hB := Below.refl w.heap.size w
  have hNN := places_729 l0.2 l1.2 l2.2
  obtain ⟨N, hNe⟩ : ∃ N, N0 * N1 * N2 = N := ⟨_, rfl⟩
  rw [hNe] at hNN
  have HNe := Lib.hid hNe
  have HOw : Hid (∀ (g : Nat) (W : World), At W g (.cells (iar (topL P N0 N1 N2 qs)) 2 (0, 0)) → OwnI W g (.slice (some ⟨g, 0, none⟩) N N) (topL P N0 N1 N2 qs)) := Lib.hid (fun g W h => by have h9 := OwnI.of_at h (Nat.le_refl g) (by rw [topL_len, hNe]; omega); rwa [topL_len, hNe] at h9)
  clear hNe
  go_enter Try.func27, Try.ntmps27
  go_upto_region 0 with (fail)
  refine wp_region_lit ?_
  refine ls_op rfl (fun K' hK' => ?_)
  have lz1 := hB.size
  refine wp_new (some 1) rfl (exec_box 33 _ rfl (#[.int .i64 P, .int .i64 N0, .int .i64 N1, .int .i64 N2, .slice A qs.length c0]) rfl) (fun Wz2 nnz3 => ?_)
  have bz4 := nnz3.below (Below.refl _ _) (Nat.le_refl _)
  replace hB := below_after hB bz4
  have hz5 : At Wz2 w.heap.size (.cells #[.int .i64 P, .int .i64 N0, .int .i64 N1, .int .i64 N2, .slice A qs.length c0] 33 (0, 0)) := nnz3.at_
  refine hK' _ _ ?_
  clear hK' K' nnz3 bz4
  go_frame
  refine ls_op rfl (fun K' hK' => ?_)
  have lz6 := hB.size
  have lz7 := hz5.lt
  refine wp_new (some 2) rfl (al_impl_Tensor rfl) (fun Wz8 nnz9 => ?_)
  have bz10 := nnz9.below (Below.refl _ _) (Nat.le_refl _)
  replace hB := below_after hB bz10
  replace hz5 := hz5.after bz10
  have hz11 : At Wz8 Wz2.heap.size (.cells #[.int .i64 0, .int .i64 0, .int .i64 0, .int .i64 0, .slice none 0 0] 28 (0, 0)) := nnz9.at_
  refine hK' _ _ ?_
  clear hK' K' nnz9 bz10
  go_frame
  refine wpList_nil ?_
  go_upto_region 1 with (fail)
  refine wp_region_lit ?_
  refine ls_ex (some 8) (.pointer (some ⟨w.heap.size, 0, none⟩)) rfl rfl (exec_fieldAddr 33 _ 0 rfl _ (by kernel_rfl)) ?_
  go_frame
  refine ls_ex (some 9) (.int .i64 P) rfl rfl (exec_load_one 2 _ rfl w.heap.size 0 rfl (.int .i64 P) _ Try.underlying2 rfl (hz5.at_ 0)) ?_
  go_frame
  refine ls_ex (some 10) (.pointer (some ⟨w.heap.size, 1, none⟩)) rfl rfl (exec_fieldAddr 33 _ 1 rfl _ (by kernel_rfl)) ?_
  go_frame
  refine ls_ex (some 11) (.int .i64 N0) rfl rfl (exec_load_one 2 _ rfl w.heap.size 1 rfl (.int .i64 N0) _ Try.underlying2 rfl (hz5.at_ 1)) ?_
  go_frame
  refine ls_ex (some 12) (.pointer (some ⟨w.heap.size, 2, none⟩)) rfl rfl (exec_fieldAddr 33 _ 2 rfl _ (by kernel_rfl)) ?_
  go_frame
  refine ls_ex (some 13) (.int .i64 N1) rfl rfl (exec_load_one 2 _ rfl w.heap.size 2 rfl (.int .i64 N1) _ Try.underlying2 rfl (hz5.at_ 2)) ?_
  go_frame
  refine ls_ex (some 14) (.pointer (some ⟨w.heap.size, 3, none⟩)) rfl rfl (exec_fieldAddr 33 _ 3 rfl _ (by kernel_rfl)) ?_
  go_frame
  refine ls_ex (some 15) (.int .i64 N2) rfl rfl (exec_load_one 2 _ rfl w.heap.size 3 rfl (.int .i64 N2) _ Try.underlying2 rfl (hz5.at_ 3)) ?_
  go_frame
  refine ls_op rfl (fun K' hK' => ?_)
  have lz14 := hB.size
  have lz15 := hz5.lt
  have lz16 := hz11.lt
  refine wp_call4 (some 16) rfl 43 _ _ _ _ _ rfl (fun args w => by kernel_rfl) _ _ _ _ rfl rfl rfl rfl _ (l05Empty_c P N0 N1 N2 _ l0.2 l1.2 l2.2) (fun e Wz12 h => ?_)
  obtain ⟨g, rfl, hg, hL, bz13⟩ := h
  replace hB := below_after hB bz13
  replace hz5 := hz5.after bz13
  replace hz11 := hz11.after bz13
  rw [HNe.out] at hL ⊢
  clear bz13
  refine ⟨_, rfl, ?_⟩
  refine hK' _ _ ?_
  clear hK' K'
  go_frame
  refine ls_op rfl (fun K' hK' => ?_)
  have lz17 := hB.size
  have lz18 := hz5.lt
  have lz19 := hz11.lt
  have lz20 := hL.lt
  refine wp_new (some 3) rfl (al_impl_Tensor rfl) (fun Wz21 nnz22 => ?_)
  have bz23 := nnz22.below (Below.refl _ _) (Nat.le_refl _)
  replace hB := below_after hB bz23
  replace hz5 := hz5.after bz23
  replace hz11 := hz11.after bz23
  replace hL := hL.after bz23
  have hz24 : At Wz21 Wz12.heap.size (.cells #[.int .i64 0, .int .i64 0, .int .i64 0, .int .i64 0, .slice none 0 0] 28 (0, 0)) := nnz22.at_
  refine hK' _ _ ?_
  clear hK' K' nnz22 bz23
  go_frame
  refine ls_op rfl (fun K' hK' => ?_)
  refine wp_store_all 28 _ _ rfl rfl Wz12.heap.size rfl #[.int .i64 P, .int .i64 N0, .int .i64 N1, .int .i64 N2, .slice (some ⟨g, 0, none⟩) N N] rfl _ _ hz24 5 (by kernel_rfl) rfl rfl (one5 _ _ _ _ _ _ _) (fun Wz25 pz26 => ?_)
  replace hB := pz26.below hB (by omega)
  replace hz5 := pz26.other hz5 (by omega)
  replace hz11 := pz26.other hz11 (by omega)
  replace hL := pz26.other hL (by omega)
  replace hz24 : At Wz25 Wz12.heap.size (.cells #[.int .i64 P, .int .i64 N0, .int .i64 N1, .int .i64 N2, .slice (some ⟨g, 0, none⟩) N N] 28 (0, 0)) := pz26.at_
  refine hK' _ _ ?_
  clear hK' K' pz26
  refine wpList_nil ?_
  go_upto_region 2 with (fail)
  refine wp_region_lit ?_
  refine ls_ex (some 4) (.int .i64 0) rfl rfl (exec_assign _ rfl (.int .i64 0) rfl) ?_
  go_frame
  refine wpList_nil ?_
  go_wp2_with fail
  go_loopw [4] (fun s4 wr => ∃ t : Nat, t ≤ qs.length ∧ s4 = .int .i64 t ∧ Below w.heap.size w wr ∧ At wr w.heap.size (.cells #[.int .i64 P, .int .i64 N0, .int .i64 N1, .int .i64 N2, .slice A qs.length c0] 33 (0, 0)) ∧ At wr Wz2.heap.size (.cells #[.int .i64 0, .int .i64 0, .int .i64 0, .int .i64 0, .slice none 0 0] 28 (0, 0)) ∧ At wr Wz12.heap.size (.cells #[.int .i64 P, .int .i64 N0, .int .i64 N1, .int .i64 N2, .slice (some ⟨g, 0, none⟩) N N] 28 (0, 0)) ∧ At wr g (.cells (iar (topL P N0 N1 N2 (qs.take t))) 2 (0, 0))) (fun s4 _ => qs.length - (intOf s4).toNat)
  case atStart => exact ⟨0, by omega, rfl, hB, hz5, hz11, hz24, by rw [List.take_zero, topL_zero, HNe.out]; exact hL⟩
  case round =>
    clear hB hz5 hz11 hL hz24
    obtain ⟨t, ht, rfl, hB, h0, h1, h2, hL⟩ := hrel
    by_cases hlt : t < qs.length
    · obtain ⟨b, off, rfl, hc⟩ := (hR.keep hB).at_ hlt
      clear hc
      have hq := hR.good _ (List.getElem_mem hlt)
      have Hq27 := Lib.hid hq.len
      obtain ⟨OLD, hOLD⟩ : ∃ l, topL P N0 N1 N2 (qs.take t) = l := ⟨_, rfl⟩
      obtain ⟨NEW, hNEW⟩ : ∃ l, topL P N0 N1 N2 (qs.take (t + 1)) = l := ⟨_, rfl⟩
      have HN1 : Hid (NEW.length = N) := Lib.hid (by rw [← hNEW, topL_len, HNe.out])
      have HN2 : Hid (OLD.length = N) := Lib.hid (by rw [← hOLD, topL_len, HNe.out])
      have HOLD := Lib.hid hOLD
      have HNEW := Lib.hid hNEW
      clear hOLD hNEW
      go_upto_region 3 with (fail)
      refine wp_region_lit ?_
      refine ls_ex (some 17) (.int .i64 t) rfl rfl (exec_move _ rfl (.int .i64 t) rfl) ?_
      go_frame
      refine ls_ex (some 18) (.pointer (some ⟨w.heap.size, 4, none⟩)) rfl rfl (exec_fieldAddr 33 _ 4 rfl _ (by kernel_rfl)) ?_
      go_frame
      refine ls_ex (some 19) (.slice (some ⟨b, off, none⟩) qs.length c0) rfl rfl (exec_load_one 31 _ rfl w.heap.size 4 rfl (.slice (some ⟨b, off, none⟩) qs.length c0) _ Try.underlying31 rfl (h0.at_ 4)) ?_
      go_frame
      refine ls_ex (some 20) (.int .i64 qs.length) rfl rfl (exec_len _ 31 61 rfl ((some ⟨b, off, none⟩)) qs.length c0 rfl Try.underlying31) ?_
      go_frame
      refine ls_ex (some 21) (.bool true) rfl rfl (exec_lss _ _ _ _ rfl t qs.length rfl rfl true (decide_eq_true (by omega))) ?_
      go_frame
      refine wpList_nil ?_
      go_upto_region 5 with (fail)
      refine wp_region_lit ?_
      refine ls_ex (some 24) (.pointer (some ⟨w.heap.size, 4, none⟩)) rfl rfl (exec_fieldAddr 33 _ 4 rfl _ (by kernel_rfl)) ?_
      go_frame
      refine ls_ex (some 25) (.slice (some ⟨b, off, none⟩) qs.length c0) rfl rfl (exec_load_one 31 _ rfl w.heap.size 4 rfl (.slice (some ⟨b, off, none⟩) qs.length c0) _ Try.underlying31 rfl (h0.at_ 4)) ?_
      go_frame
      refine ls_ex (some 26) (.int .i64 t) rfl rfl (exec_move _ rfl (.int .i64 t) rfl) ?_
      go_frame
      refine ls_ex (some 27) (.pointer (some ⟨b, off + t * 27, none⟩)) rfl rfl (exec_index_slice _ 61 _ _ rfl b off qs.length c0 t 27 rfl rfl Try.underlying31 (by kernel_rfl) (by omega)) ?_
      go_frame
      refine ls_ex (some 28) (.agg (u8s (qs[t]))) rfl rfl (exec_load_cells 61 _ rfl b (off + t * 27) rfl (qs[t]) _ 27 (Rd.c27m (hR.keep hB) hlt) Try.underlying61 rfl (by kernel_rfl) (Hq27.out)) ?_
      go_frame
      refine ls_op rfl (fun K' hK' => ?_)
      have lz27 := hB.size
      have lz28 := h0.lt
      have lz29 := h1.lt
      have lz30 := h2.lt
      have lz31 := hL.lt
      refine wp_new (some 5) rfl (al_impl_Product rfl) (fun Wz32 nnz33 => ?_)
      have bz34 := nnz33.below (Below.refl _ _) (Nat.le_refl _)
      replace hB := below_after hB bz34
      replace h0 := h0.after bz34
      replace h1 := h1.after bz34
      replace h2 := h2.after bz34
      replace hL := hL.after bz34
      have hz35 : At Wz32 wr.heap.size (.cells (u8s (List.replicate 27 0)) 61 (0, 0)) := nnz33.at_
      refine hK' _ _ ?_
      clear hK' K' nnz33 bz34
      go_frame
      refine ls_op rfl (fun K' hK' => ?_)
      refine wp_store_bytes 61 _ _ rfl rfl wr.heap.size rfl (qs[t]) rfl _ _ hz35 27 (by kernel_rfl) Hq27.out (by simp) (fun Wz36 pz37 => ?_)
      replace hB := pz37.below hB (by omega)
      replace h0 := pz37.other h0 (by omega)
      replace h1 := pz37.other h1 (by omega)
      replace h2 := pz37.other h2 (by omega)
      replace hL := pz37.other hL (by omega)
      replace hz35 : At Wz36 wr.heap.size (.cells (u8s (qs[t])) 61 (0, 0)) := pz37.at_
      refine hK' _ _ ?_
      clear hK' K' pz37
      refine wpList_nil ?_
      go_upto_region 6 with (fail)
      refine wp_region_lit ?_
      refine ls_ex (some 6) (.int .i64 0) rfl rfl (exec_assign _ rfl (.int .i64 0) rfl) ?_
      go_frame
      refine wpList_nil ?_
      go_wp2_with fail
      obtain ⟨we, rfl⟩ : ∃ x : World, x = wr := ⟨_, rfl⟩
      go_loopw [6] (fun s6 wr => ∃ c : Nat, c ≤ N ∧ s6 = .int .i64 c ∧ Below w.heap.size w wr ∧ At wr w.heap.size (.cells #[.int .i64 P, .int .i64 N0, .int .i64 N1, .int .i64 N2, .slice (some ⟨b, off, none⟩) qs.length c0] 33 (0, 0)) ∧ At wr Wz2.heap.size (.cells #[.int .i64 0, .int .i64 0, .int .i64 0, .int .i64 0, .slice none 0 0] 28 (0, 0)) ∧ At wr Wz12.heap.size (.cells #[.int .i64 P, .int .i64 N0, .int .i64 N1, .int .i64 N2, .slice (some ⟨g, 0, none⟩) N N] 28 (0, 0)) ∧ At wr g (.cells (iar (mixI NEW OLD c)) 2 (0, 0)) ∧ At wr we.heap.size (.cells (u8s (qs[t])) 61 (0, 0))) (fun s6 _ => N - (intOf s6).toNat)
      case atStart => exact ⟨0, by omega, rfl, hB, h0, h1, h2, by rw [mixI_zero, ← HOLD.out]; exact hL, hz35⟩
      case round =>
        clear hB h0 h1 h2 hL hz35
        obtain ⟨c, hc, rfl, hB, h0, h1, h2, hL, hqb⟩ := hrel
        by_cases hcN : c < N
        · obtain ⟨x, hx⟩ : ∃ n : Nat, n = c / N2 / N1 := ⟨_, rfl⟩
          obtain ⟨y0, hy0⟩ : ∃ n : Nat, n = c / N2 := ⟨_, rfl⟩
          obtain ⟨y, hy⟩ : ∃ n : Nat, n = y0 % N1 := ⟨_, rfl⟩
          obtain ⟨z, hz⟩ : ∃ n : Nat, n = c % N2 := ⟨_, rfl⟩
          obtain ⟨M, hM⟩ : ∃ n : Nat, n = N1 * N2 := ⟨_, rfl⟩
          obtain ⟨A1, hA1⟩ : ∃ n : Nat, n = qs[t][0 + x]?.getD 0 := ⟨_, rfl⟩
          obtain ⟨B1, hB1⟩ : ∃ n : Nat, n = qs[t][9 + y]?.getD 0 := ⟨_, rfl⟩
          obtain ⟨C1, hC1⟩ : ∃ n : Nat, n = qs[t][18 + z]?.getD 0 := ⟨_, rfl⟩
          obtain ⟨AB, hAB⟩ : ∃ n : Nat, n = A1 * B1 := ⟨_, rfl⟩
          obtain ⟨E, hE⟩ : ∃ n : Nat, n = AB * C1 := ⟨_, rfl⟩
          obtain ⟨V, hV⟩ : ∃ n : Nat, n = sumN (qs.take t) x y z % P := ⟨_, rfl⟩
          obtain ⟨V2, hV2⟩ : ∃ n : Nat, n = V + E := ⟨_, rfl⟩
          obtain ⟨X, hX⟩ : ∃ n : Nat, n = V2 % P := ⟨_, rfl⟩
          obtain ⟨hx9, hy9, hz9⟩ := quot_bounds (c := c) (by rw [HNe.out]; exact hcN) l0.2 l1 l2
          rw [← hx] at hx9
          rw [← hy0, ← hy] at hy9
          rw [← hz] at hz9
          have hA256 := hq.lt (0 + x)
          have hB256 := hq.lt (9 + y)
          have hC256 := hq.lt (18 + z)
          rw [← hA1] at hA256
          rw [← hB1] at hB256
          rw [← hC1] at hC256
          have m3 := mul3_le hA256 hB256 hC256
          rw [← hAB, ← hE] at m3
          have mM : M ≤ 9 * 9 := by rw [hM]; exact Nat.mul_le_mul l1.2 l2.2
          have mM1 : 1 * 1 ≤ M := by rw [hM]; exact Nat.mul_le_mul l1.1 l2.1
          have mV : V < P := by rw [hV]; exact Nat.mod_lt _ (by omega)
          have HM : Hid (IntKind.i64.wrap ((N1 : Int) * (N2 : Int)) = (M : Int)) := Lib.hid (mw_cast hM.symm (by omega))
          have HX : Hid (IntKind.i64.wrap ((c : Int).tdiv (M : Int)) = (x : Int)) := Lib.hid (tq_wrap (by rw [hM, hx, Nat.div_div_eq_div_mul, Nat.mul_comm]) (by omega))
          have HY0 : Hid (IntKind.i64.wrap ((c : Int).tdiv (N2 : Int)) = (y0 : Int)) := Lib.hid (tq_wrap hy0.symm (by omega))
          have HY : Hid ((y0 : Int).tmod (N1 : Int) = (y : Int)) := Lib.hid (tm_cast hy.symm)
          have HZ : Hid ((c : Int).tmod (N2 : Int) = (z : Int)) := Lib.hid (tm_cast hz.symm)
          have HA1 := Lib.hid hA1.symm
          have HB1 := Lib.hid hB1.symm
          have HC1 := Lib.hid hC1.symm
          have HAB : Hid (IntKind.i64.wrap ((A1 : Int) * (B1 : Int)) = (AB : Int)) := Lib.hid (mw_cast hAB.symm (by omega))
          have HE : Hid (IntKind.i64.wrap ((AB : Int) * (C1 : Int)) = (E : Int)) := Lib.hid (mw_cast hE.symm (by omega))
          have HV2 : Hid (IntKind.i64.wrap ((V : Int) + (E : Int)) = (V2 : Int)) := Lib.hid (aw_cast hV2.symm (by omega))
          have HX2 : Hid ((V2 : Int).tmod (P : Int) = (X : Int)) := Lib.hid (tm_cast hX.symm)
          have HVo : Hid ((mixI NEW OLD c)[c]? = some (V : Int)) := Lib.hid (by rw [mixI_get HN1.out hcN, ← HOLD.out, topL_get _ (by rw [HNe.out]; exact hcN), ← hx, ← hy0, ← hy, ← hz, ← hV])
          have HSet : Hid ((mixI NEW OLD c).set c (X : Int) = mixI NEW OLD (c + 1)) := Lib.hid (mixI_set HN1.out HN2.out hcN (by rw [← HNEW.out, topL_get _ (by rw [HNe.out]; exact hcN), ← hx, ← hy0, ← hy, ← hz, sumN_step hlt, hX, hV2, hV, hE, hAB, hA1, hB1, hC1, Nat.zero_add, Nat.mod_add_mod]; rfl))
          have HLen : Hid ((mixI NEW OLD c).length = N) := Lib.hid (mixI_len HN1.out HN2.out (by omega))
          have hM0 : (M : Int) ≠ 0 := by omega
          have hK0 : (N2 : Int) ≠ 0 := by omega
          have hJ0 : (N1 : Int) ≠ 0 := by omega
          have hP0 : (P : Int) ≠ 0 := by omega
          clear hx hy0 hy hz hM hA1 hB1 hC1 hAB hE hV hV2 hX m3 mM mM1 mV
          go_upto_region 7 with (fail)
          refine wp_region_lit ?_
          refine ls_ex (some 29) (.int .i64 c) rfl rfl (exec_move _ rfl (.int .i64 c) rfl) ?_
          go_frame
          refine ls_ex (some 30) (.pointer (some ⟨Wz12.heap.size, 4, none⟩)) rfl rfl (exec_fieldAddr 28 _ 4 rfl _ (by kernel_rfl)) ?_
          go_frame
          refine ls_ex (some 31) (.slice (some ⟨g, 0, none⟩) N N) rfl rfl (exec_load_one 26 _ rfl Wz12.heap.size 4 rfl (.slice (some ⟨g, 0, none⟩) N N) _ Try.underlying26 rfl (h2.at_ 4)) ?_
          go_frame
          refine ls_ex (some 32) (.int .i64 N) rfl rfl (exec_len _ 26 2 rfl ((some ⟨g, 0, none⟩)) N N rfl Try.underlying26) ?_
          go_frame
          refine ls_ex (some 33) (.bool true) rfl rfl (exec_lss _ _ _ _ rfl c N rfl rfl true (decide_eq_true (by omega))) ?_
          go_frame
          refine wpList_nil ?_
          go_upto_region 9 with (fail)
          refine wp_region_y (zs := []) (S := fun w' => Below w.heap.size w w' ∧ At w' w.heap.size (.cells #[.int .i64 P, .int .i64 N0, .int .i64 N1, .int .i64 N2, .slice (some ⟨b, off, none⟩) qs.length c0] 33 (0, 0)) ∧ At w' we.heap.size (.cells (u8s (qs[t])) 61 (0, 0))) (S2 := fun w' => True) (by kernel_rfl) ?_
          change wpAnyY _ _ _ _ _ _ _ _ _ _ (World.drew _)
          generalize hwdz38 : World.drew _ = wdz38
          replace hB : Below w.heap.size w wdz38 := by rw [← hwdz38]; exact hB.drew
          replace h0 : At wdz38 w.heap.size (.cells #[.int .i64 P, .int .i64 N0, .int .i64 N1, .int .i64 N2, .slice (some ⟨b, off, none⟩) qs.length c0] 33 (0, 0)) := by rw [← hwdz38]; exact h0
          replace h1 : At wdz38 Wz2.heap.size (.cells #[.int .i64 0, .int .i64 0, .int .i64 0, .int .i64 0, .slice none 0 0] 28 (0, 0)) := by rw [← hwdz38]; exact h1
          replace h2 : At wdz38 Wz12.heap.size (.cells #[.int .i64 P, .int .i64 N0, .int .i64 N1, .int .i64 N2, .slice (some ⟨g, 0, none⟩) N N] 28 (0, 0)) := by rw [← hwdz38]; exact h2
          replace hL : At wdz38 g (.cells (iar (mixI NEW OLD c)) 2 (0, 0)) := by rw [← hwdz38]; exact hL
          replace hqb : At wdz38 we.heap.size (.cells (u8s (qs[t])) 61 (0, 0)) := by rw [← hwdz38]; exact hqb
          clear hwdz38
          refine y_yield 0 (some 36) (.int .i64 c) rfl (by kernel_rfl) (by kernel_rfl) (by kernel_rfl) (fun _ _ _ h => h) rfl rfl ⟨hB, h0, hqb⟩ (fun w' h' => exec_move _ rfl (.int .i64 c) rfl) ?_
          go_frame
          refine y_yield 1 (some 37) (.pointer (some ⟨w.heap.size, 2, none⟩)) rfl (by kernel_rfl) (by kernel_rfl) (by kernel_rfl) (fun _ _ _ h => h) rfl rfl ⟨hB, h0, hqb⟩ (fun w' h' => exec_fieldAddr 33 _ 2 rfl _ (by kernel_rfl)) ?_
          go_frame
          refine y_yield 2 (some 38) (.int .i64 N1) rfl (by kernel_rfl) (by kernel_rfl) (by kernel_rfl) (fun _ _ _ h => h) rfl rfl ⟨hB, h0, hqb⟩ (fun w' h' => exec_load_one 2 _ rfl w.heap.size 2 rfl (.int .i64 N1) _ Try.underlying2 rfl (h'.2.1.at_ 2)) ?_
          go_frame
          refine y_yield 3 (some 39) (.pointer (some ⟨w.heap.size, 3, none⟩)) rfl (by kernel_rfl) (by kernel_rfl) (by kernel_rfl) (fun _ _ _ h => h) rfl rfl ⟨hB, h0, hqb⟩ (fun w' h' => exec_fieldAddr 33 _ 3 rfl _ (by kernel_rfl)) ?_
          go_frame
          refine y_yield 4 (some 40) (.int .i64 N2) rfl (by kernel_rfl) (by kernel_rfl) (by kernel_rfl) (fun _ _ _ h => h) rfl rfl ⟨hB, h0, hqb⟩ (fun w' h' => exec_load_one 2 _ rfl w.heap.size 3 rfl (.int .i64 N2) _ Try.underlying2 rfl (h'.2.1.at_ 3)) ?_
          go_frame
          refine y_yield 5 (some 41) (.int .i64 M) rfl (by kernel_rfl) (by kernel_rfl) (by kernel_rfl) (fun _ _ _ h => h) rfl rfl ⟨hB, h0, hqb⟩ (fun w' h' => exec_mul _ _ _ _ rfl N1 N2 M rfl rfl HM.out) ?_
          go_frame
          refine y_yield 6 (some 42) (.int .i64 x) rfl (by kernel_rfl) (by kernel_rfl) (by kernel_rfl) (fun _ _ _ h => h) rfl rfl ⟨hB, h0, hqb⟩ (fun w' h' => exec_quo _ _ _ _ rfl c M x rfl rfl hM0 HX.out) ?_
          go_frame
          refine y_yield 7 (some 43) (.pointer (some ⟨we.heap.size, 0, none⟩)) rfl (by kernel_rfl) (by kernel_rfl) (by kernel_rfl) (fun _ _ _ h => h) rfl rfl ⟨hB, h0, hqb⟩ (fun w' h' => exec_fieldAddr 61 _ 0 rfl _ (by kernel_rfl)) ?_
          go_frame
          refine y_yield 8 (some 44) (.pointer (some ⟨we.heap.size, 0 + x * 1, none⟩)) rfl (by kernel_rfl) (by kernel_rfl) (by kernel_rfl) (fun _ _ _ h => h) rfl rfl ⟨hB, h0, hqb⟩ (fun w' h' => exec_index_arr 59 5 _ _ rfl we.heap.size 0 9 x 1 rfl rfl Try.underlying59 (by kernel_rfl) hx9) ?_
          go_frame
          refine y_yield 9 (some 45) (.int .u8 A1) rfl (by kernel_rfl) (by kernel_rfl) (by kernel_rfl) (fun _ _ _ h => h) rfl rfl ⟨hB, h0, hqb⟩ (fun w' h' => exec_load_one 5 _ rfl we.heap.size (0 + x * 1) rfl (.int .u8 A1) _ Try.underlying5 rfl (cell_u8 h'.2.2 (by rw [Hq27.out]; omega) HA1.out)) ?_
          go_frame
          refine y_yield 10 (some 46) (.int .i64 A1) rfl (by kernel_rfl) (by kernel_rfl) (by kernel_rfl) (fun _ _ _ h => h) rfl rfl ⟨hB, h0, hqb⟩ (fun w' h' => exec_conv _ rfl A1 rfl hA256) ?_
          go_frame
          refine y_yield 11 (some 47) (.int .i64 c) rfl (by kernel_rfl) (by kernel_rfl) (by kernel_rfl) (fun _ _ _ h => h) rfl rfl ⟨hB, h0, hqb⟩ (fun w' h' => exec_move _ rfl (.int .i64 c) rfl) ?_
          go_frame
          refine y_yield 12 (some 48) (.pointer (some ⟨w.heap.size, 3, none⟩)) rfl (by kernel_rfl) (by kernel_rfl) (by kernel_rfl) (fun _ _ _ h => h) rfl rfl ⟨hB, h0, hqb⟩ (fun w' h' => exec_fieldAddr 33 _ 3 rfl _ (by kernel_rfl)) ?_
          go_frame
          refine y_yield 13 (some 49) (.int .i64 N2) rfl (by kernel_rfl) (by kernel_rfl) (by kernel_rfl) (fun _ _ _ h => h) rfl rfl ⟨hB, h0, hqb⟩ (fun w' h' => exec_load_one 2 _ rfl w.heap.size 3 rfl (.int .i64 N2) _ Try.underlying2 rfl (h'.2.1.at_ 3)) ?_
          go_frame
          refine y_yield 14 (some 50) (.int .i64 y0) rfl (by kernel_rfl) (by kernel_rfl) (by kernel_rfl) (fun _ _ _ h => h) rfl rfl ⟨hB, h0, hqb⟩ (fun w' h' => exec_quo _ _ _ _ rfl c N2 y0 rfl rfl hK0 HY0.out) ?_
          go_frame
          refine y_yield 15 (some 51) (.pointer (some ⟨w.heap.size, 2, none⟩)) rfl (by kernel_rfl) (by kernel_rfl) (by kernel_rfl) (fun _ _ _ h => h) rfl rfl ⟨hB, h0, hqb⟩ (fun w' h' => exec_fieldAddr 33 _ 2 rfl _ (by kernel_rfl)) ?_
          go_frame
          refine y_yield 16 (some 52) (.int .i64 N1) rfl (by kernel_rfl) (by kernel_rfl) (by kernel_rfl) (fun _ _ _ h => h) rfl rfl ⟨hB, h0, hqb⟩ (fun w' h' => exec_load_one 2 _ rfl w.heap.size 2 rfl (.int .i64 N1) _ Try.underlying2 rfl (h'.2.1.at_ 2)) ?_
          go_frame
          refine y_yield 17 (some 53) (.int .i64 y) rfl (by kernel_rfl) (by kernel_rfl) (by kernel_rfl) (fun _ _ _ h => h) rfl rfl ⟨hB, h0, hqb⟩ (fun w' h' => exec_rem _ _ _ _ rfl y0 N1 y rfl rfl hJ0 HY.out) ?_
          go_frame
          refine y_yield 18 (some 54) (.pointer (some ⟨we.heap.size, 9, none⟩)) rfl (by kernel_rfl) (by kernel_rfl) (by kernel_rfl) (fun _ _ _ h => h) rfl rfl ⟨hB, h0, hqb⟩ (fun w' h' => exec_fieldAddr 61 _ 1 rfl _ (by kernel_rfl)) ?_
          go_frame
          refine y_yield 19 (some 55) (.pointer (some ⟨we.heap.size, 9 + y * 1, none⟩)) rfl (by kernel_rfl) (by kernel_rfl) (by kernel_rfl) (fun _ _ _ h => h) rfl rfl ⟨hB, h0, hqb⟩ (fun w' h' => exec_index_arr 59 5 _ _ rfl we.heap.size 9 9 y 1 rfl rfl Try.underlying59 (by kernel_rfl) hy9) ?_
          go_frame
          refine y_yield 20 (some 56) (.int .u8 B1) rfl (by kernel_rfl) (by kernel_rfl) (by kernel_rfl) (fun _ _ _ h => h) rfl rfl ⟨hB, h0, hqb⟩ (fun w' h' => exec_load_one 5 _ rfl we.heap.size (9 + y * 1) rfl (.int .u8 B1) _ Try.underlying5 rfl (cell_u8 h'.2.2 (by rw [Hq27.out]; omega) HB1.out)) ?_
          go_frame
          refine y_yield 21 (some 57) (.int .i64 B1) rfl (by kernel_rfl) (by kernel_rfl) (by kernel_rfl) (fun _ _ _ h => h) rfl rfl ⟨hB, h0, hqb⟩ (fun w' h' => exec_conv _ rfl B1 rfl hB256) ?_
          go_frame
          refine y_yield 22 (some 58) (.int .i64 AB) rfl (by kernel_rfl) (by kernel_rfl) (by kernel_rfl) (fun _ _ _ h => h) rfl rfl ⟨hB, h0, hqb⟩ (fun w' h' => exec_mul _ _ _ _ rfl A1 B1 AB rfl rfl HAB.out) ?_
          go_frame
          refine y_yield 23 (some 59) (.int .i64 c) rfl (by kernel_rfl) (by kernel_rfl) (by kernel_rfl) (fun _ _ _ h => h) rfl rfl ⟨hB, h0, hqb⟩ (fun w' h' => exec_move _ rfl (.int .i64 c) rfl) ?_
          go_frame
          refine y_yield 24 (some 60) (.pointer (some ⟨w.heap.size, 3, none⟩)) rfl (by kernel_rfl) (by kernel_rfl) (by kernel_rfl) (fun _ _ _ h => h) rfl rfl ⟨hB, h0, hqb⟩ (fun w' h' => exec_fieldAddr 33 _ 3 rfl _ (by kernel_rfl)) ?_
          go_frame
          refine y_yield 25 (some 61) (.int .i64 N2) rfl (by kernel_rfl) (by kernel_rfl) (by kernel_rfl) (fun _ _ _ h => h) rfl rfl ⟨hB, h0, hqb⟩ (fun w' h' => exec_load_one 2 _ rfl w.heap.size 3 rfl (.int .i64 N2) _ Try.underlying2 rfl (h'.2.1.at_ 3)) ?_
          go_frame
          refine y_yield 26 (some 62) (.int .i64 z) rfl (by kernel_rfl) (by kernel_rfl) (by kernel_rfl) (fun _ _ _ h => h) rfl rfl ⟨hB, h0, hqb⟩ (fun w' h' => exec_rem _ _ _ _ rfl c N2 z rfl rfl hK0 HZ.out) ?_
          go_frame
          refine y_yield 27 (some 63) (.pointer (some ⟨we.heap.size, 18, none⟩)) rfl (by kernel_rfl) (by kernel_rfl) (by kernel_rfl) (fun _ _ _ h => h) rfl rfl ⟨hB, h0, hqb⟩ (fun w' h' => exec_fieldAddr 61 _ 2 rfl _ (by kernel_rfl)) ?_
          go_frame
          refine y_yield 28 (some 64) (.pointer (some ⟨we.heap.size, 18 + z * 1, none⟩)) rfl (by kernel_rfl) (by kernel_rfl) (by kernel_rfl) (fun _ _ _ h => h) rfl rfl ⟨hB, h0, hqb⟩ (fun w' h' => exec_index_arr 59 5 _ _ rfl we.heap.size 18 9 z 1 rfl rfl Try.underlying59 (by kernel_rfl) hz9) ?_
          go_frame
          refine y_yield 29 (some 65) (.int .u8 C1) rfl (by kernel_rfl) (by kernel_rfl) (by kernel_rfl) (fun _ _ _ h => h) rfl rfl ⟨hB, h0, hqb⟩ (fun w' h' => exec_load_one 5 _ rfl we.heap.size (18 + z * 1) rfl (.int .u8 C1) _ Try.underlying5 rfl (cell_u8 h'.2.2 (by rw [Hq27.out]; omega) HC1.out)) ?_
          go_frame
          refine y_yield 30 (some 66) (.int .i64 C1) rfl (by kernel_rfl) (by kernel_rfl) (by kernel_rfl) (fun _ _ _ h => h) rfl rfl ⟨hB, h0, hqb⟩ (fun w' h' => exec_conv _ rfl C1 rfl hC256) ?_
          go_frame
          refine y_yield 31 (some 67) (.int .i64 E) rfl (by kernel_rfl) (by kernel_rfl) (by kernel_rfl) (fun _ _ _ h => h) rfl rfl ⟨hB, h0, hqb⟩ (fun w' h' => exec_mul _ _ _ _ rfl AB C1 E rfl rfl HE.out) ?_
          go_frame
          refine y_oper 32 (by kernel_rfl) rfl rfl (fun K' hK' => ?_)
          refine wp_exec (some 7) rfl (.int .i64 E) (exec_assign _ rfl (.int .i64 E) rfl) ?_
          refine hK' _ _ ⟨hB, h0, hqb⟩ (fun _ => trivial) ?_
          clear hK' K'
          go_frame
          refine y_done (by kernel_rfl) ?_ _
          go_upto_region 10 with (fail)
          refine wp_region_y (zs := [14]) (S := fun w' => Below w.heap.size w w' ∧ At w' Wz12.heap.size (.cells #[.int .i64 P, .int .i64 N0, .int .i64 N1, .int .i64 N2, .slice (some ⟨g, 0, none⟩) N N] 28 (0, 0)) ∧ At w' w.heap.size (.cells #[.int .i64 P, .int .i64 N0, .int .i64 N1, .int .i64 N2, .slice (some ⟨b, off, none⟩) qs.length c0] 33 (0, 0))) (S2 := fun w' => At w' g (.cells (iar (mixI NEW OLD c)) 2 (0, 0))) (by kernel_rfl) ?_
          change wpAnyY _ _ _ _ _ _ _ _ _ _ (World.drew _)
          generalize hwdz39 : World.drew _ = wdz39
          replace hB : Below w.heap.size w wdz39 := by rw [← hwdz39]; exact hB.drew
          replace h0 : At wdz39 w.heap.size (.cells #[.int .i64 P, .int .i64 N0, .int .i64 N1, .int .i64 N2, .slice (some ⟨b, off, none⟩) qs.length c0] 33 (0, 0)) := by rw [← hwdz39]; exact h0
          replace h1 : At wdz39 Wz2.heap.size (.cells #[.int .i64 0, .int .i64 0, .int .i64 0, .int .i64 0, .slice none 0 0] 28 (0, 0)) := by rw [← hwdz39]; exact h1
          replace h2 : At wdz39 Wz12.heap.size (.cells #[.int .i64 P, .int .i64 N0, .int .i64 N1, .int .i64 N2, .slice (some ⟨g, 0, none⟩) N N] 28 (0, 0)) := by rw [← hwdz39]; exact h2
          replace hL : At wdz39 g (.cells (iar (mixI NEW OLD c)) 2 (0, 0)) := by rw [← hwdz39]; exact hL
          replace hqb : At wdz39 we.heap.size (.cells (u8s (qs[t])) 61 (0, 0)) := by rw [← hwdz39]; exact hqb
          clear hwdz39
          refine y_yield 0 (some 68) (.pointer (some ⟨Wz12.heap.size, 4, none⟩)) rfl (by kernel_rfl) (by kernel_rfl) (by kernel_rfl) (fun _ _ _ h => h) rfl rfl ⟨hB, h2, h0⟩ (fun w' h' => exec_fieldAddr 28 _ 4 rfl _ (by kernel_rfl)) ?_
          go_frame
          refine y_yield 1 (some 69) (.slice (some ⟨g, 0, none⟩) N N) rfl (by kernel_rfl) (by kernel_rfl) (by kernel_rfl) (fun _ _ _ h => h) rfl rfl ⟨hB, h2, h0⟩ (fun w' h' => exec_load_one 26 _ rfl Wz12.heap.size 4 rfl (.slice (some ⟨g, 0, none⟩) N N) _ Try.underlying26 rfl (h'.2.1.at_ 4)) ?_
          go_frame
          refine y_yield 2 (some 70) (.int .i64 c) rfl (by kernel_rfl) (by kernel_rfl) (by kernel_rfl) (fun _ _ _ h => h) rfl rfl ⟨hB, h2, h0⟩ (fun w' h' => exec_move _ rfl (.int .i64 c) rfl) ?_
          go_frame
          refine y_yield 3 (some 71) (.pointer (some ⟨Wz12.heap.size, 4, none⟩)) rfl (by kernel_rfl) (by kernel_rfl) (by kernel_rfl) (fun _ _ _ h => h) rfl rfl ⟨hB, h2, h0⟩ (fun w' h' => exec_fieldAddr 28 _ 4 rfl _ (by kernel_rfl)) ?_
          go_frame
          refine y_yield 4 (some 72) (.slice (some ⟨g, 0, none⟩) N N) rfl (by kernel_rfl) (by kernel_rfl) (by kernel_rfl) (fun _ _ _ h => h) rfl rfl ⟨hB, h2, h0⟩ (fun w' h' => exec_load_one 26 _ rfl Wz12.heap.size 4 rfl (.slice (some ⟨g, 0, none⟩) N N) _ Try.underlying26 rfl (h'.2.1.at_ 4)) ?_
          go_frame
          refine y_yield 5 (some 73) (.int .i64 c) rfl (by kernel_rfl) (by kernel_rfl) (by kernel_rfl) (fun _ _ _ h => h) rfl rfl ⟨hB, h2, h0⟩ (fun w' h' => exec_move _ rfl (.int .i64 c) rfl) ?_
          go_frame
          refine y_yield 6 (some 74) (.pointer (some ⟨g, c * 1, none⟩)) rfl (by kernel_rfl) (by kernel_rfl) (by kernel_rfl) (fun _ _ _ h => h) rfl rfl ⟨hB, h2, h0⟩ (fun w' h' => exec_ix0 _ 2 _ _ rfl g N N c 1 rfl rfl Try.underlying26 (by kernel_rfl) hcN) ?_
          go_frame
          refine y_yield2 7 (some 75) (.int .i64 V) rfl (by kernel_rfl) (by kernel_rfl) (by kernel_rfl) (by kernel_rfl) (fun _ _ _ h => h) rfl rfl ⟨hB, h2, h0⟩ hL (fun w' h' h2' => exec_load_one 2 _ rfl g (c * 1) rfl (.int .i64 V) _ Try.underlying2 rfl (cell_iar h2' HVo.out)) ?_
          go_frame
          refine y_yield 8 (some 76) (.int .i64 E) rfl (by kernel_rfl) (by kernel_rfl) (by kernel_rfl) (fun _ _ _ h => h) rfl rfl ⟨hB, h2, h0⟩ (fun w' h' => exec_move _ rfl (.int .i64 E) rfl) ?_
          go_frame
          refine y_yield 9 (some 77) (.int .i64 V2) rfl (by kernel_rfl) (by kernel_rfl) (by kernel_rfl) (fun _ _ _ h => h) rfl rfl ⟨hB, h2, h0⟩ (fun w' h' => exec_add _ _ _ _ rfl V E V2 rfl rfl HV2.out) ?_
          go_frame
          refine y_yield 10 (some 78) (.pointer (some ⟨w.heap.size, 0, none⟩)) rfl (by kernel_rfl) (by kernel_rfl) (by kernel_rfl) (fun _ _ _ h => h) rfl rfl ⟨hB, h2, h0⟩ (fun w' h' => exec_fieldAddr 33 _ 0 rfl _ (by kernel_rfl)) ?_
          go_frame
          refine y_yield 11 (some 79) (.int .i64 P) rfl (by kernel_rfl) (by kernel_rfl) (by kernel_rfl) (fun _ _ _ h => h) rfl rfl ⟨hB, h2, h0⟩ (fun w' h' => exec_load_one 2 _ rfl w.heap.size 0 rfl (.int .i64 P) _ Try.underlying2 rfl (h'.2.2.at_ 0)) ?_
          go_frame
          refine y_yield 12 (some 80) (.int .i64 X) rfl (by kernel_rfl) (by kernel_rfl) (by kernel_rfl) (fun _ _ _ h => h) rfl rfl ⟨hB, h2, h0⟩ (fun w' h' => exec_rem _ _ _ _ rfl V2 P X rfl rfl hP0 HX2.out) ?_
          go_frame
          refine y_yield 13 (some 81) (.pointer (some ⟨g, c * 1, none⟩)) rfl (by kernel_rfl) (by kernel_rfl) (by kernel_rfl) (fun _ _ _ h => h) rfl rfl ⟨hB, h2, h0⟩ (fun w' h' => exec_ix0 _ 2 _ _ rfl g N N c 1 rfl rfl Try.underlying26 (by kernel_rfl) hcN) ?_
          go_frame
          refine y_oper 14 (by kernel_rfl) rfl rfl (fun K' hK' => ?_)
          refine wp_store_one 2 _ _ rfl rfl g (c * 1) rfl (.int .i64 X) rfl rfl rfl _ _ hL (by kernel_rfl) (by rw [iar_size, HLen.out]; omega) (fun Wz40 pz41 => ?_)
          replace hB := pz41.below hB (by omega)
          replace h0 := pz41.other h0 (by omega)
          replace h1 := pz41.other h1 (by omega)
          replace h2 := pz41.other h2 (by omega)
          replace hqb := pz41.other hqb (by omega)
          replace hL : At Wz40 g (.cells (iar (mixI NEW OLD (c + 1))) 2 (0, 0)) := by have h9 := pz41.at_; rwa [Nat.mul_one, iar_set, HSet.out] at h9
          refine hK' _ _ ⟨hB, h2, h0⟩ (fun h => absurd (by decide) h) ?_
          clear hK' K' pz41
          refine y_done (by kernel_rfl) ?_ _
          go_upto_region 8 with (fail)
          refine wp_region_lit ?_
          refine ls_ex (some 34) (.int .i64 c) rfl rfl (exec_move _ rfl (.int .i64 c) rfl) ?_
          go_frame
          refine ls_ex (some 35) (.int .i64 (c + 1)) rfl rfl (exec_add _ _ _ _ rfl c 1 (c + 1) rfl rfl (IntWalk.i64_in _ (by omega))) ?_
          go_frame
          refine ls_ex (some 6) (.int .i64 (c + 1)) rfl rfl (exec_assign _ rfl (.int .i64 (c + 1)) rfl) ?_
          go_frame
          refine wpList_nil ?_
          go_wp2_with fail
          go_roundw
          case rel => exact ⟨c + 1, by omega, by go_num, hB, h0, h1, h2, hL, hqb⟩
          case measure => simp [intOf]; omega
        · have HE9 : Hid (mixI NEW OLD c = topL P N0 N1 N2 (qs.take (t + 1))) := Lib.hid (by rw [show c = N by omega, mixI_all HN1.out HN2.out, HNEW.out])
          rw [HE9.out] at hL
          go_upto_region 7 with (fail)
          refine wp_region_lit ?_
          refine ls_ex (some 29) (.int .i64 c) rfl rfl (exec_move _ rfl (.int .i64 c) rfl) ?_
          go_frame
          refine ls_ex (some 30) (.pointer (some ⟨Wz12.heap.size, 4, none⟩)) rfl rfl (exec_fieldAddr 28 _ 4 rfl _ (by kernel_rfl)) ?_
          go_frame
          refine ls_ex (some 31) (.slice (some ⟨g, 0, none⟩) N N) rfl rfl (exec_load_one 26 _ rfl Wz12.heap.size 4 rfl (.slice (some ⟨g, 0, none⟩) N N) _ Try.underlying26 rfl (h2.at_ 4)) ?_
          go_frame
          refine ls_ex (some 32) (.int .i64 N) rfl rfl (exec_len _ 26 2 rfl ((some ⟨g, 0, none⟩)) N N rfl Try.underlying26) ?_
          go_frame
          refine ls_ex (some 33) (.bool false) rfl rfl (exec_lss _ _ _ _ rfl c N rfl rfl false (decide_eq_false (by omega))) ?_
          go_frame
          refine wpList_nil ?_
          go_upto_region 4 with (fail)
          refine wp_region_lit ?_
          refine ls_ex (some 22) (.int .i64 t) rfl rfl (exec_move _ rfl (.int .i64 t) rfl) ?_
          go_frame
          refine ls_ex (some 23) (.int .i64 (t + 1)) rfl rfl (exec_add _ _ _ _ rfl t 1 (t + 1) rfl rfl (IntWalk.i64_in _ (by omega))) ?_
          go_frame
          refine ls_ex (some 4) (.int .i64 (t + 1)) rfl rfl (exec_assign _ rfl (.int .i64 (t + 1)) rfl) ?_
          go_frame
          refine wpList_nil ?_
          go_wp2_with fail
          go_roundw
          case rel => exact ⟨t + 1, by omega, by go_num, hB, h0, h1, h2, hL⟩
          case measure => simp [intOf]; omega
    · have HE : Hid (topL P N0 N1 N2 (qs.take t) = topL P N0 N1 N2 qs) := Lib.hid (by rw [show t = qs.length by omega, List.take_length])
      rw [HE.out] at hL
      go_upto_region 3 with (fail)
      refine wp_region_lit ?_
      refine ls_ex (some 17) (.int .i64 t) rfl rfl (exec_move _ rfl (.int .i64 t) rfl) ?_
      go_frame
      refine ls_ex (some 18) (.pointer (some ⟨w.heap.size, 4, none⟩)) rfl rfl (exec_fieldAddr 33 _ 4 rfl _ (by kernel_rfl)) ?_
      go_frame
      refine ls_ex (some 19) (.slice A qs.length c0) rfl rfl (exec_load_one 31 _ rfl w.heap.size 4 rfl (.slice A qs.length c0) _ Try.underlying31 rfl (h0.at_ 4)) ?_
      go_frame
      refine ls_ex (some 20) (.int .i64 qs.length) rfl rfl (exec_len _ 31 61 rfl A qs.length c0 rfl Try.underlying31) ?_
      go_frame
      refine ls_ex (some 21) (.bool false) rfl rfl (exec_lss _ _ _ _ rfl t qs.length rfl rfl false (decide_eq_false (by omega))) ?_
      go_frame
      refine wpList_nil ?_
      go_upto_region 11 with (fail)
      refine wp_region_lit ?_
      refine ls_ex (some 82) (.agg #[.int .i64 P, .int .i64 N0, .int .i64 N1, .int .i64 N2, .slice (some ⟨g, 0, none⟩) N N]) rfl rfl (exec_load_all 28 _ rfl Wz12.heap.size rfl _ _ _ h2 Try.underlying28 rfl 5 (by kernel_rfl) rfl) ?_
      go_frame
      refine ls_op rfl (fun K' hK' => ?_)
      refine wp_store_all 28 _ _ rfl rfl Wz2.heap.size rfl #[.int .i64 P, .int .i64 N0, .int .i64 N1, .int .i64 N2, .slice (some ⟨g, 0, none⟩) N N] rfl _ _ h1 5 (by kernel_rfl) rfl rfl (one5 _ _ _ _ _ _ _) (fun Wz42 pz43 => ?_)
      replace hB := pz43.below hB (by omega)
      replace h0 := pz43.other h0 (by omega)
      replace h2 := pz43.other h2 (by omega)
      replace hL := pz43.other hL (by omega)
      replace h1 : At Wz42 Wz2.heap.size (.cells #[.int .i64 P, .int .i64 N0, .int .i64 N1, .int .i64 N2, .slice (some ⟨g, 0, none⟩) N N] 28 (0, 0)) := pz43.at_
      refine hK' _ _ ?_
      clear hK' K' pz43
      refine wpList_nil ?_
      go_wp2_with fail
      refine bodyPost_ret (results_at rfl _ _ Wz2.heap.size _ _ _ rfl h1 Try.underlying28 rfl 5 (by kernel_rfl) rfl) rfl ?_
      exact ⟨_, rfl, (HOw.out _ _ hL).mono (by omega), hB⟩
set_option maxHeartbeats 4000000 in
theorem tensorOfMethod_c (P N0 N1 N2 : Nat) (A : Option Addr) (c0 : Nat) (qs : List (List Nat)) (w : World) (hR : Rd w A qs) (hlen : qs.length ≤ 30) (hP : 2 ≤ P ∧ P ≤ 5) (l0 : 1 ≤ N0 ∧ N0 ≤ 9) (l1 : 1 ≤ N1 ∧ N1 ≤ 9) (l2 : 1 ≤ N2 ∧ N2 ≤ 9) :
    Calls Try.prog 30 #[.agg #[.int .i64 P, .int .i64 N0, .int .i64 N1, .int .i64 N2, .slice A qs.length c0]] w (fun e w' => ∃ v, e = .returned (.agg #[.int .i64 P, .int .i64 N0, .int .i64 N1, .int .i64 N2, v]) ∧ OwnI w' w.heap.size v (topL P N0 N1 N2 qs) ∧ Below w.heap.size w w') := by
  have hB := Below.refl w.heap.size w
  obtain ⟨N7, hN7⟩ : ∃ N, (topL P N0 N1 N2 qs).length = N := ⟨_, rfl⟩
  have HN7 := Lib.hid hN7
  clear hN7
  go_enter Try.func30, Try.ntmps30
  go_upto_region 0 with (fail)
  refine wp_region_lit ?_
  refine ls_op rfl (fun K' hK' => ?_)
  have lz1 := hB.size
  refine wp_new (some 1) rfl (exec_box 33 _ rfl (#[.int .i64 P, .int .i64 N0, .int .i64 N1, .int .i64 N2, .slice A qs.length c0]) rfl) (fun Wz2 nnz3 => ?_)
  have bz4 := nnz3.below (Below.refl _ _) (Nat.le_refl _)
  replace hB := below_after hB bz4
  have hz5 : At Wz2 w.heap.size (.cells #[.int .i64 P, .int .i64 N0, .int .i64 N1, .int .i64 N2, .slice A qs.length c0] 33 (0, 0)) := nnz3.at_
  refine hK' _ _ ?_
  clear hK' K' nnz3 bz4
  go_frame
  refine ls_op rfl (fun K' hK' => ?_)
  have lz6 := hB.size
  have lz7 := hz5.lt
  refine wp_new (some 2) rfl (al_impl_Tensor rfl) (fun Wz8 nnz9 => ?_)
  have bz10 := nnz9.below (Below.refl _ _) (Nat.le_refl _)
  replace hB := below_after hB bz10
  replace hz5 := hz5.after bz10
  have hz11 : At Wz8 Wz2.heap.size (.cells #[.int .i64 0, .int .i64 0, .int .i64 0, .int .i64 0, .slice none 0 0] 28 (0, 0)) := nnz9.at_
  refine hK' _ _ ?_
  clear hK' K' nnz9 bz10
  go_frame
  refine wpList_nil ?_
  go_upto_region 1 with (fail)
  refine wp_region_y (zs := [7]) (S := fun w' => Below w.heap.size w w' ∧ At w' w.heap.size (.cells #[.int .i64 P, .int .i64 N0, .int .i64 N1, .int .i64 N2, .slice A qs.length c0] 33 (0, 0))) (S2 := fun w' => True) (by kernel_rfl) ?_
  change wpAnyY _ _ _ _ _ _ _ _ _ _ (World.drew _)
  generalize hwdz12 : World.drew _ = wdz12
  replace hB : Below w.heap.size w wdz12 := by rw [← hwdz12]; exact hB.drew
  replace hz5 : At wdz12 w.heap.size (.cells #[.int .i64 P, .int .i64 N0, .int .i64 N1, .int .i64 N2, .slice A qs.length c0] 33 (0, 0)) := by rw [← hwdz12]; exact hz5
  replace hz11 : At wdz12 Wz2.heap.size (.cells #[.int .i64 0, .int .i64 0, .int .i64 0, .int .i64 0, .slice none 0 0] 28 (0, 0)) := by rw [← hwdz12]; exact hz11
  clear hwdz12
  refine y_yield 0 (some 3) (.pointer (some ⟨w.heap.size, 0, none⟩)) rfl (by kernel_rfl) (by kernel_rfl) (by kernel_rfl) (fun _ _ _ h => h) rfl rfl ⟨hB, hz5⟩ (fun w' h' => exec_fieldAddr 33 _ 0 rfl _ (by kernel_rfl)) ?_
  go_frame
  refine y_yield 1 (some 4) (.int .i64 P) rfl (by kernel_rfl) (by kernel_rfl) (by kernel_rfl) (fun _ _ _ h => h) rfl rfl ⟨hB, hz5⟩ (fun w' h' => exec_load_one 2 _ rfl w.heap.size 0 rfl (.int .i64 P) _ Try.underlying2 rfl (h'.2.at_ 0)) ?_
  go_frame
  refine y_yield 2 (some 5) (.agg #[.int .i64 P, .int .i64 N0, .int .i64 N1, .int .i64 N2, .slice A qs.length c0]) rfl (by kernel_rfl) (by kernel_rfl) (by kernel_rfl) (fun _ _ _ h => h) rfl rfl ⟨hB, hz5⟩ (fun w' h' => exec_load_all 33 _ rfl w.heap.size rfl _ _ _ h'.2 Try.underlying33 rfl 5 (by kernel_rfl) rfl) ?_
  go_frame
  refine y_yield 4 (some 7) (.pointer (some ⟨w.heap.size, 4, none⟩)) rfl (by kernel_rfl) (by kernel_rfl) (by kernel_rfl) (fun _ _ _ h => h) rfl rfl ⟨hB, hz5⟩ (fun w' h' => exec_fieldAddr 33 _ 4 rfl _ (by kernel_rfl)) ?_
  go_frame
  refine y_yield 5 (some 8) (.slice A qs.length c0) rfl (by kernel_rfl) (by kernel_rfl) (by kernel_rfl) (fun _ _ _ h => h) rfl rfl ⟨hB, hz5⟩ (fun w' h' => exec_load_one 31 _ rfl w.heap.size 4 rfl (.slice A qs.length c0) _ Try.underlying31 rfl (h'.2.at_ 4)) ?_
  go_frame
  refine y_oper 3 (by kernel_rfl) rfl rfl (fun K' hK' => ?_)
  have lz15 := hB.size
  have lz16 := hz5.lt
  have lz17 := hz11.lt
  refine wp_call1 (some 6) rfl 46 _ _ rfl (fun args w => by kernel_rfl) _ rfl _ (mSides_c P N0 N1 N2 (.slice A qs.length c0) _) (fun e Wz13 h => ?_)
  obtain ⟨rfl, bz14⟩ := h
  replace hB := below_after hB bz14
  replace hz5 := hz5.after bz14
  replace hz11 := hz11.after bz14
  clear bz14
  refine ⟨_, rfl, ?_⟩
  refine hK' _ _ ⟨hB, hz5⟩ (fun _ => trivial) ?_
  clear hK' K'
  go_frame
  refine y_oper 6 (by kernel_rfl) rfl rfl (fun K' hK' => ?_)
  have lz20 := hB.size
  have lz21 := hz5.lt
  have lz22 := hz11.lt
  refine wp_call3 (some 9) rfl 50 _ _ _ _ rfl (fun args w => by kernel_rfl) _ _ _ rfl rfl rfl _ (tensorOfProducts_c P N0 N1 N2 A c0 qs _ (hR.keep hB) (by omega) hP l0 l1 l2) (fun e Wz18 h => ?_)
  obtain ⟨v7, rfl, ho, bz19⟩ := h
  replace hB := below_after hB bz19
  replace hz5 := hz5.after bz19
  replace hz11 := hz11.after bz19
  obtain ⟨A7, c7, rfl, _⟩ := ho.rd
  rw [HN7.out] at ho ⊢
  clear bz19
  refine ⟨_, rfl, ?_⟩
  refine hK' _ _ ⟨hB, hz5⟩ (fun _ => trivial) ?_
  clear hK' K'
  go_frame
  refine y_oper 7 (by kernel_rfl) rfl rfl (fun K' hK' => ?_)
  refine wp_store_all 28 _ _ rfl rfl Wz2.heap.size rfl #[.int .i64 P, .int .i64 N0, .int .i64 N1, .int .i64 N2, .slice A7 N7 c7] rfl _ _ hz11 5 (by kernel_rfl) rfl rfl (one5 _ _ _ _ _ _ _) (fun Wz23 pz24 => ?_)
  replace hB := pz24.below hB (by omega)
  replace hz5 := pz24.other hz5 (by omega)
  replace ho := ho.put pz24 (ho.ne_lt8 (by omega))
  replace hz11 : At Wz23 Wz2.heap.size (.cells #[.int .i64 P, .int .i64 N0, .int .i64 N1, .int .i64 N2, .slice A7 N7 c7] 28 (0, 0)) := pz24.at_
  refine hK' _ _ ⟨hB, hz5⟩ (fun h => absurd (by decide) h) ?_
  clear hK' K' pz24
  refine y_done (by kernel_rfl) ?_ _
  go_wp2_with fail
  refine bodyPost_ret (results_at rfl _ _ Wz2.heap.size _ _ _ rfl hz11 Try.underlying28 rfl 5 (by kernel_rfl) rfl) rfl ?_
  exact ⟨_, rfl, ho.mono (by omega), hB⟩
set_option maxHeartbeats 4000000 in
theorem specTom_no (p i j k : Int) (A : Option Addr) (c : Nat) (qs : List (List Nat)) (w : World) (hR : Rd w A qs) (hlen : qs.length ≤ 1048576) (hs : methB p i j k qs = false) :
    Calls Try.prog 7 #[.agg #[.int .i64 p, .int .i64 i, .int .i64 j, .int .i64 k, .slice A qs.length c]] w (ResT w (tZ (tomCode p i j k qs) p) (tZ (tomCode p i j k qs) i) (tZ (tomCode p i j k qs) j) (tZ (tomCode p i j k qs) k) (tL (tomCode p i j k qs) (tomL p i j k qs)) (tomCode p i j k qs)) := by
  have hB := Below.refl w.heap.size w
  have HC : Hid (tomCode p i j k qs = 1) := Lib.hid (by unfold tomCode; rw [hs]; rfl)
  have Hs := Lib.hid hs
  clear hs
  go_enter Try.func7, Try.ntmps7
  go_upto_region 0 with (fail)
  refine wp_region_lit ?_
  refine ls_op rfl (fun K' hK' => ?_)
  have lz1 := hB.size
  refine wp_new (some 1) rfl (exec_box 33 _ rfl (#[.int .i64 p, .int .i64 i, .int .i64 j, .int .i64 k, .slice A qs.length c]) rfl) (fun Wz2 nnz3 => ?_)
  have bz4 := nnz3.below (Below.refl _ _) (Nat.le_refl _)
  replace hB := below_after hB bz4
  have hz5 : At Wz2 w.heap.size (.cells #[.int .i64 p, .int .i64 i, .int .i64 j, .int .i64 k, .slice A qs.length c] 33 (0, 0)) := nnz3.at_
  refine hK' _ _ ?_
  clear hK' K' nnz3 bz4
  go_frame
  refine ls_op rfl (fun K' hK' => ?_)
  have lz6 := hB.size
  have lz7 := hz5.lt
  refine wp_new (some 2) rfl (al_impl_Tensor rfl) (fun Wz8 nnz9 => ?_)
  have bz10 := nnz9.below (Below.refl _ _) (Nat.le_refl _)
  replace hB := below_after hB bz10
  replace hz5 := hz5.after bz10
  have hz11 : At Wz8 Wz2.heap.size (.cells #[.int .i64 0, .int .i64 0, .int .i64 0, .int .i64 0, .slice none 0 0] 28 (0, 0)) := nnz9.at_
  refine hK' _ _ ?_
  clear hK' K' nnz9 bz10
  go_frame
  refine ls_ex (some 3) (.int .i64 0) rfl rfl (exec_assign _ rfl (.int .i64 0) rfl) ?_
  go_frame
  refine wpList_nil ?_
  go_upto_region 1 with (fail)
  refine wp_region_lit ?_
  refine ls_ex (some 4) (.agg #[.int .i64 p, .int .i64 i, .int .i64 j, .int .i64 k, .slice A qs.length c]) rfl rfl (exec_load_all 33 _ rfl w.heap.size rfl _ _ _ hz5 Try.underlying33 rfl 5 (by kernel_rfl) rfl) ?_
  go_frame
  refine ls_op rfl (fun K' hK' => ?_)
  have lz14 := hB.size
  have lz15 := hz5.lt
  have lz16 := hz11.lt
  refine wp_call1 (some 5) rfl 26 _ _ rfl (fun args w => by kernel_rfl) _ rfl _ (l09Is_c p i j k A c qs _ (hR.keep hB) (by omega)) (fun e Wz12 h => ?_)
  obtain ⟨rfl, bz13⟩ := h
  replace hB := below_after hB bz13
  replace hz5 := hz5.after bz13
  replace hz11 := hz11.after bz13
  rw [Hs.out]
  clear bz13
  refine ⟨_, rfl, ?_⟩
  refine hK' _ _ ?_
  clear hK' K'
  go_frame
  refine ls_ex (some 6) (.bool true) rfl rfl (exec_not _ _ rfl false rfl) ?_
  go_frame
  refine wpList_nil ?_
  go_upto_region 2 with (fail)
  refine wp_region_lit ?_
  refine ls_ex (some 7) (.agg #[.int .i64 0, .int .i64 0, .int .i64 0, .int .i64 0, .slice none 0 0]) rfl rfl (exec_build_nil 28 rfl _ (by kernel_rfl)) ?_
  go_frame
  refine ls_op rfl (fun K' hK' => ?_)
  refine wp_store_all 28 _ _ rfl rfl Wz2.heap.size rfl #[.int .i64 0, .int .i64 0, .int .i64 0, .int .i64 0, .slice none 0 0] rfl _ _ hz11 5 (by kernel_rfl) rfl rfl (one5 _ _ _ _ _ _ _) (fun Wz17 pz18 => ?_)
  replace hB := pz18.below hB (by omega)
  replace hz5 := pz18.other hz5 (by omega)
  replace hz11 : At Wz17 Wz2.heap.size (.cells #[.int .i64 0, .int .i64 0, .int .i64 0, .int .i64 0, .slice none 0 0] 28 (0, 0)) := pz18.at_
  refine hK' _ _ ?_
  clear hK' K' pz18
  refine ls_ex (some 3) (.int .i64 1) rfl rfl (exec_assign _ rfl (.int .i64 1) rfl) ?_
  go_frame
  refine wpList_nil ?_
  go_wp2_with fail
  refine bodyPost_ret (results_at2 rfl _ _ Wz2.heap.size _ _ _ rfl _ rfl hz11 Try.underlying28 rfl 5 (by kernel_rfl) rfl) rfl ?_
  unfold ResT tZ tL
  rw [HC.out]
  exact ⟨_, rfl, OwnI.nil _ _, hB⟩
set_option maxHeartbeats 4000000 in
theorem specTom_yes (P N0 N1 N2 : Nat) (A : Option Addr) (c0 : Nat) (qs : List (List Nat)) (w : World) (hR : Rd w A qs) (hlen : qs.length ≤ 30) (hP : 2 ≤ P ∧ P ≤ 5) (l0 : 1 ≤ N0 ∧ N0 ≤ 9) (l1 : 1 ≤ N1 ∧ N1 ≤ 9) (l2 : 1 ≤ N2 ∧ N2 ≤ 9) (hs : methB P N0 N1 N2 qs = true) :
    Calls Try.prog 7 #[.agg #[.int .i64 P, .int .i64 N0, .int .i64 N1, .int .i64 N2, .slice A qs.length c0]] w (ResT w (tZ (tomCode P N0 N1 N2 qs) (P : Int)) (tZ (tomCode P N0 N1 N2 qs) (N0 : Int)) (tZ (tomCode P N0 N1 N2 qs) (N1 : Int)) (tZ (tomCode P N0 N1 N2 qs) (N2 : Int)) (tL (tomCode P N0 N1 N2 qs) (tomL P N0 N1 N2 qs)) (tomCode P N0 N1 N2 qs)) := by
  have hB := Below.refl w.heap.size w
  obtain ⟨N7, hN7⟩ : ∃ N, (topL P N0 N1 N2 qs).length = N := ⟨_, rfl⟩
  have HN7 := Lib.hid hN7
  clear hN7
  have HC : Hid (tomCode P N0 N1 N2 qs = 0) := Lib.hid (by unfold tomCode; rw [hs]; rfl)
  have HTL : Hid (tomL P N0 N1 N2 qs = topL P N0 N1 N2 qs) := Lib.hid rfl
  have Hs := Lib.hid hs
  clear hs
  go_enter Try.func7, Try.ntmps7
  go_upto_region 0 with (fail)
  refine wp_region_lit ?_
  refine ls_op rfl (fun K' hK' => ?_)
  have lz1 := hB.size
  refine wp_new (some 1) rfl (exec_box 33 _ rfl (#[.int .i64 P, .int .i64 N0, .int .i64 N1, .int .i64 N2, .slice A qs.length c0]) rfl) (fun Wz2 nnz3 => ?_)
  have bz4 := nnz3.below (Below.refl _ _) (Nat.le_refl _)
  replace hB := below_after hB bz4
  have hz5 : At Wz2 w.heap.size (.cells #[.int .i64 P, .int .i64 N0, .int .i64 N1, .int .i64 N2, .slice A qs.length c0] 33 (0, 0)) := nnz3.at_
  refine hK' _ _ ?_
  clear hK' K' nnz3 bz4
  go_frame
  refine ls_op rfl (fun K' hK' => ?_)
  have lz6 := hB.size
  have lz7 := hz5.lt
  refine wp_new (some 2) rfl (al_impl_Tensor rfl) (fun Wz8 nnz9 => ?_)
  have bz10 := nnz9.below (Below.refl _ _) (Nat.le_refl _)
  replace hB := below_after hB bz10
  replace hz5 := hz5.after bz10
  have hz11 : At Wz8 Wz2.heap.size (.cells #[.int .i64 0, .int .i64 0, .int .i64 0, .int .i64 0, .slice none 0 0] 28 (0, 0)) := nnz9.at_
  refine hK' _ _ ?_
  clear hK' K' nnz9 bz10
  go_frame
  refine ls_ex (some 3) (.int .i64 0) rfl rfl (exec_assign _ rfl (.int .i64 0) rfl) ?_
  go_frame
  refine wpList_nil ?_
  go_upto_region 1 with (fail)
  refine wp_region_lit ?_
  refine ls_ex (some 4) (.agg #[.int .i64 P, .int .i64 N0, .int .i64 N1, .int .i64 N2, .slice A qs.length c0]) rfl rfl (exec_load_all 33 _ rfl w.heap.size rfl _ _ _ hz5 Try.underlying33 rfl 5 (by kernel_rfl) rfl) ?_
  go_frame
  refine ls_op rfl (fun K' hK' => ?_)
  have lz14 := hB.size
  have lz15 := hz5.lt
  have lz16 := hz11.lt
  refine wp_call1 (some 5) rfl 26 _ _ rfl (fun args w => by kernel_rfl) _ rfl _ (l09Is_c P N0 N1 N2 A c0 qs _ (hR.keep hB) (by omega)) (fun e Wz12 h => ?_)
  obtain ⟨rfl, bz13⟩ := h
  replace hB := below_after hB bz13
  replace hz5 := hz5.after bz13
  replace hz11 := hz11.after bz13
  rw [Hs.out]
  clear bz13
  refine ⟨_, rfl, ?_⟩
  refine hK' _ _ ?_
  clear hK' K'
  go_frame
  refine ls_ex (some 6) (.bool false) rfl rfl (exec_not _ _ rfl true rfl) ?_
  go_frame
  refine wpList_nil ?_
  go_upto_region 3 with (fail)
  refine wp_region_lit ?_
  refine ls_ex (some 8) (.agg #[.int .i64 P, .int .i64 N0, .int .i64 N1, .int .i64 N2, .slice A qs.length c0]) rfl rfl (exec_load_all 33 _ rfl w.heap.size rfl _ _ _ hz5 Try.underlying33 rfl 5 (by kernel_rfl) rfl) ?_
  go_frame
  refine ls_op rfl (fun K' hK' => ?_)
  have lz19 := hB.size
  have lz20 := hz5.lt
  have lz21 := hz11.lt
  refine wp_call1 (some 9) rfl 27 _ _ rfl (fun args w => by kernel_rfl) _ rfl _ (l09Tensor_c P N0 N1 N2 A c0 qs _ (hR.keep hB) hlen hP l0 l1 l2) (fun e Wz17 h => ?_)
  obtain ⟨v7, rfl, ho, bz18⟩ := h
  replace hB := below_after hB bz18
  replace hz5 := hz5.after bz18
  replace hz11 := hz11.after bz18
  obtain ⟨A7, c7, rfl, _⟩ := ho.rd
  rw [HN7.out] at ho ⊢
  clear bz18
  refine ⟨_, rfl, ?_⟩
  refine hK' _ _ ?_
  clear hK' K'
  go_frame
  refine ls_op rfl (fun K' hK' => ?_)
  refine wp_store_all 28 _ _ rfl rfl Wz2.heap.size rfl #[.int .i64 P, .int .i64 N0, .int .i64 N1, .int .i64 N2, .slice A7 N7 c7] rfl _ _ hz11 5 (by kernel_rfl) rfl rfl (one5 _ _ _ _ _ _ _) (fun Wz22 pz23 => ?_)
  replace hB := pz23.below hB (by omega)
  replace hz5 := pz23.other hz5 (by omega)
  replace ho := ho.put pz23 (ho.ne_lt8 (by omega))
  replace hz11 : At Wz22 Wz2.heap.size (.cells #[.int .i64 P, .int .i64 N0, .int .i64 N1, .int .i64 N2, .slice A7 N7 c7] 28 (0, 0)) := pz23.at_
  refine hK' _ _ ?_
  clear hK' K' pz23
  refine ls_ex (some 3) (.int .i64 0) rfl rfl (exec_assign _ rfl (.int .i64 0) rfl) ?_
  go_frame
  refine wpList_nil ?_
  go_wp2_with fail
  refine bodyPost_ret (results_at2 rfl _ _ Wz2.heap.size _ _ _ rfl _ rfl hz11 Try.underlying28 rfl 5 (by kernel_rfl) rfl) rfl ?_
  unfold ResT tZ tL
  rw [HC.out]
  exact ⟨_, rfl, by rw [HTL.out]; exact ho.mono (by omega), hB⟩
theorem specTensorOfMethod_c (p i j k : Int) (A : Option Addr) (c : Nat) (qs : List (List Nat)) (w : World) (hR : Rd w A qs) (hlen : qs.length ≤ 1048576) : Calls Try.prog 7 #[.agg #[.int .i64 p, .int .i64 i, .int .i64 j, .int .i64 k, .slice A qs.length c]] w (ResT w (tZ (tomCode p i j k qs) p) (tZ (tomCode p i j k qs) i) (tZ (tomCode p i j k qs) j) (tZ (tomCode p i j k qs) k) (tL (tomCode p i j k qs) (tomL p i j k qs)) (tomCode p i j k qs)) := by
  cases hs : methB p i j k qs with
  | false => exact specTom_no p i j k A c qs w hR hlen hs
  | true =>
    obtain ⟨P, N0, N1, N2, rfl, rfl, rfl, rfl, hP, l0, l1, l2⟩ := methB_nums hs
    exact specTom_yes P N0 N1 N2 A c qs w hR (methB_parts hs).2.2.2.2.1 hP l0 l1 l2 hs
set_option maxHeartbeats 4000000 in
theorem implTom_no (p i j k : Int) (A : Option Addr) (c : Nat) (qs : List (List Nat)) (w : World) (hR : Rd w A qs) (hlen : qs.length ≤ 1048576) (hs : methB p i j k qs = false) :
    Calls Try.prog 9 #[.agg #[.int .i64 p, .int .i64 i, .int .i64 j, .int .i64 k, .slice A qs.length c]] w (ResT w (tZ (tomCode p i j k qs) p) (tZ (tomCode p i j k qs) i) (tZ (tomCode p i j k qs) j) (tZ (tomCode p i j k qs) k) (tL (tomCode p i j k qs) (tomL p i j k qs)) (tomCode p i j k qs)) := by
  have hB := Below.refl w.heap.size w
  have HC : Hid (tomCode p i j k qs = 1) := Lib.hid (by unfold tomCode; rw [hs]; rfl)
  have Hs := Lib.hid hs
  clear hs
  go_enter Try.func9, Try.ntmps9
  go_upto_region 0 with (fail)
  refine wp_region_lit ?_
  refine ls_op rfl (fun K' hK' => ?_)
  have lz1 := hB.size
  refine wp_new (some 1) rfl (exec_box 33 _ rfl (#[.int .i64 p, .int .i64 i, .int .i64 j, .int .i64 k, .slice A qs.length c]) rfl) (fun Wz2 nnz3 => ?_)
  have bz4 := nnz3.below (Below.refl _ _) (Nat.le_refl _)
  replace hB := below_after hB bz4
  have hz5 : At Wz2 w.heap.size (.cells #[.int .i64 p, .int .i64 i, .int .i64 j, .int .i64 k, .slice A qs.length c] 33 (0, 0)) := nnz3.at_
  refine hK' _ _ ?_
  clear hK' K' nnz3 bz4
  go_frame
  refine ls_op rfl (fun K' hK' => ?_)
  have lz6 := hB.size
  have lz7 := hz5.lt
  refine wp_new (some 2) rfl (al_impl_Tensor rfl) (fun Wz8 nnz9 => ?_)
  have bz10 := nnz9.below (Below.refl _ _) (Nat.le_refl _)
  replace hB := below_after hB bz10
  replace hz5 := hz5.after bz10
  have hz11 : At Wz8 Wz2.heap.size (.cells #[.int .i64 0, .int .i64 0, .int .i64 0, .int .i64 0, .slice none 0 0] 28 (0, 0)) := nnz9.at_
  refine hK' _ _ ?_
  clear hK' K' nnz9 bz10
  go_frame
  refine ls_ex (some 3) (.int .i64 0) rfl rfl (exec_assign _ rfl (.int .i64 0) rfl) ?_
  go_frame
  refine wpList_nil ?_
  go_upto_region 1 with (fail)
  refine wp_region_lit ?_
  refine ls_ex (some 4) (.agg #[.int .i64 p, .int .i64 i, .int .i64 j, .int .i64 k, .slice A qs.length c]) rfl rfl (exec_load_all 33 _ rfl w.heap.size rfl _ _ _ hz5 Try.underlying33 rfl 5 (by kernel_rfl) rfl) ?_
  go_frame
  refine ls_op rfl (fun K' hK' => ?_)
  have lz14 := hB.size
  have lz15 := hz5.lt
  have lz16 := hz11.lt
  refine wp_call1 (some 5) rfl 29 _ _ rfl (fun args w => by kernel_rfl) _ rfl _ (implIsMethod_c p i j k A c qs _ (hR.keep hB) (by omega)) (fun e Wz12 h => ?_)
  obtain ⟨rfl, bz13⟩ := h
  replace hB := below_after hB bz13
  replace hz5 := hz5.after bz13
  replace hz11 := hz11.after bz13
  rw [Hs.out]
  clear bz13
  refine ⟨_, rfl, ?_⟩
  refine hK' _ _ ?_
  clear hK' K'
  go_frame
  refine ls_ex (some 6) (.bool true) rfl rfl (exec_not _ _ rfl false rfl) ?_
  go_frame
  refine wpList_nil ?_
  go_upto_region 2 with (fail)
  refine wp_region_lit ?_
  refine ls_ex (some 7) (.agg #[.int .i64 0, .int .i64 0, .int .i64 0, .int .i64 0, .slice none 0 0]) rfl rfl (exec_build_nil 28 rfl _ (by kernel_rfl)) ?_
  go_frame
  refine ls_op rfl (fun K' hK' => ?_)
  refine wp_store_all 28 _ _ rfl rfl Wz2.heap.size rfl #[.int .i64 0, .int .i64 0, .int .i64 0, .int .i64 0, .slice none 0 0] rfl _ _ hz11 5 (by kernel_rfl) rfl rfl (one5 _ _ _ _ _ _ _) (fun Wz17 pz18 => ?_)
  replace hB := pz18.below hB (by omega)
  replace hz5 := pz18.other hz5 (by omega)
  replace hz11 : At Wz17 Wz2.heap.size (.cells #[.int .i64 0, .int .i64 0, .int .i64 0, .int .i64 0, .slice none 0 0] 28 (0, 0)) := pz18.at_
  refine hK' _ _ ?_
  clear hK' K' pz18
  refine ls_ex (some 3) (.int .i64 1) rfl rfl (exec_assign _ rfl (.int .i64 1) rfl) ?_
  go_frame
  refine wpList_nil ?_
  go_wp2_with fail
  refine bodyPost_ret (results_at2 rfl _ _ Wz2.heap.size _ _ _ rfl _ rfl hz11 Try.underlying28 rfl 5 (by kernel_rfl) rfl) rfl ?_
  unfold ResT tZ tL
  rw [HC.out]
  exact ⟨_, rfl, OwnI.nil _ _, hB⟩
set_option maxHeartbeats 4000000 in
theorem implTom_yes (P N0 N1 N2 : Nat) (A : Option Addr) (c0 : Nat) (qs : List (List Nat)) (w : World) (hR : Rd w A qs) (hlen : qs.length ≤ 30) (hP : 2 ≤ P ∧ P ≤ 5) (l0 : 1 ≤ N0 ∧ N0 ≤ 9) (l1 : 1 ≤ N1 ∧ N1 ≤ 9) (l2 : 1 ≤ N2 ∧ N2 ≤ 9) (hs : methB P N0 N1 N2 qs = true) :
    Calls Try.prog 9 #[.agg #[.int .i64 P, .int .i64 N0, .int .i64 N1, .int .i64 N2, .slice A qs.length c0]] w (ResT w (tZ (tomCode P N0 N1 N2 qs) (P : Int)) (tZ (tomCode P N0 N1 N2 qs) (N0 : Int)) (tZ (tomCode P N0 N1 N2 qs) (N1 : Int)) (tZ (tomCode P N0 N1 N2 qs) (N2 : Int)) (tL (tomCode P N0 N1 N2 qs) (tomL P N0 N1 N2 qs)) (tomCode P N0 N1 N2 qs)) := by
  have hB := Below.refl w.heap.size w
  obtain ⟨N7, hN7⟩ : ∃ N, (topL P N0 N1 N2 qs).length = N := ⟨_, rfl⟩
  have HN7 := Lib.hid hN7
  clear hN7
  have HC : Hid (tomCode P N0 N1 N2 qs = 0) := Lib.hid (by unfold tomCode; rw [hs]; rfl)
  have HTL : Hid (tomL P N0 N1 N2 qs = topL P N0 N1 N2 qs) := Lib.hid rfl
  have Hs := Lib.hid hs
  clear hs
  go_enter Try.func9, Try.ntmps9
  go_upto_region 0 with (fail)
  refine wp_region_lit ?_
  refine ls_op rfl (fun K' hK' => ?_)
  have lz1 := hB.size
  refine wp_new (some 1) rfl (exec_box 33 _ rfl (#[.int .i64 P, .int .i64 N0, .int .i64 N1, .int .i64 N2, .slice A qs.length c0]) rfl) (fun Wz2 nnz3 => ?_)
  have bz4 := nnz3.below (Below.refl _ _) (Nat.le_refl _)
  replace hB := below_after hB bz4
  have hz5 : At Wz2 w.heap.size (.cells #[.int .i64 P, .int .i64 N0, .int .i64 N1, .int .i64 N2, .slice A qs.length c0] 33 (0, 0)) := nnz3.at_
  refine hK' _ _ ?_
  clear hK' K' nnz3 bz4
  go_frame
  refine ls_op rfl (fun K' hK' => ?_)
  have lz6 := hB.size
  have lz7 := hz5.lt
  refine wp_new (some 2) rfl (al_impl_Tensor rfl) (fun Wz8 nnz9 => ?_)
  have bz10 := nnz9.below (Below.refl _ _) (Nat.le_refl _)
  replace hB := below_after hB bz10
  replace hz5 := hz5.after bz10
  have hz11 : At Wz8 Wz2.heap.size (.cells #[.int .i64 0, .int .i64 0, .int .i64 0, .int .i64 0, .slice none 0 0] 28 (0, 0)) := nnz9.at_
  refine hK' _ _ ?_
  clear hK' K' nnz9 bz10
  go_frame
  refine ls_ex (some 3) (.int .i64 0) rfl rfl (exec_assign _ rfl (.int .i64 0) rfl) ?_
  go_frame
  refine wpList_nil ?_
  go_upto_region 1 with (fail)
  refine wp_region_lit ?_
  refine ls_ex (some 4) (.agg #[.int .i64 P, .int .i64 N0, .int .i64 N1, .int .i64 N2, .slice A qs.length c0]) rfl rfl (exec_load_all 33 _ rfl w.heap.size rfl _ _ _ hz5 Try.underlying33 rfl 5 (by kernel_rfl) rfl) ?_
  go_frame
  refine ls_op rfl (fun K' hK' => ?_)
  have lz14 := hB.size
  have lz15 := hz5.lt
  have lz16 := hz11.lt
  refine wp_call1 (some 5) rfl 29 _ _ rfl (fun args w => by kernel_rfl) _ rfl _ (implIsMethod_c P N0 N1 N2 A c0 qs _ (hR.keep hB) (by omega)) (fun e Wz12 h => ?_)
  obtain ⟨rfl, bz13⟩ := h
  replace hB := below_after hB bz13
  replace hz5 := hz5.after bz13
  replace hz11 := hz11.after bz13
  rw [Hs.out]
  clear bz13
  refine ⟨_, rfl, ?_⟩
  refine hK' _ _ ?_
  clear hK' K'
  go_frame
  refine ls_ex (some 6) (.bool false) rfl rfl (exec_not _ _ rfl true rfl) ?_
  go_frame
  refine wpList_nil ?_
  go_upto_region 3 with (fail)
  refine wp_region_lit ?_
  refine ls_ex (some 8) (.agg #[.int .i64 P, .int .i64 N0, .int .i64 N1, .int .i64 N2, .slice A qs.length c0]) rfl rfl (exec_load_all 33 _ rfl w.heap.size rfl _ _ _ hz5 Try.underlying33 rfl 5 (by kernel_rfl) rfl) ?_
  go_frame
  refine ls_op rfl (fun K' hK' => ?_)
  have lz19 := hB.size
  have lz20 := hz5.lt
  have lz21 := hz11.lt
  refine wp_call1 (some 9) rfl 30 _ _ rfl (fun args w => by kernel_rfl) _ rfl _ (tensorOfMethod_c P N0 N1 N2 A c0 qs _ (hR.keep hB) hlen hP l0 l1 l2) (fun e Wz17 h => ?_)
  obtain ⟨v7, rfl, ho, bz18⟩ := h
  replace hB := below_after hB bz18
  replace hz5 := hz5.after bz18
  replace hz11 := hz11.after bz18
  obtain ⟨A7, c7, rfl, _⟩ := ho.rd
  rw [HN7.out] at ho ⊢
  clear bz18
  refine ⟨_, rfl, ?_⟩
  refine hK' _ _ ?_
  clear hK' K'
  go_frame
  refine ls_op rfl (fun K' hK' => ?_)
  refine wp_store_all 28 _ _ rfl rfl Wz2.heap.size rfl #[.int .i64 P, .int .i64 N0, .int .i64 N1, .int .i64 N2, .slice A7 N7 c7] rfl _ _ hz11 5 (by kernel_rfl) rfl rfl (one5 _ _ _ _ _ _ _) (fun Wz22 pz23 => ?_)
  replace hB := pz23.below hB (by omega)
  replace hz5 := pz23.other hz5 (by omega)
  replace ho := ho.put pz23 (ho.ne_lt8 (by omega))
  replace hz11 : At Wz22 Wz2.heap.size (.cells #[.int .i64 P, .int .i64 N0, .int .i64 N1, .int .i64 N2, .slice A7 N7 c7] 28 (0, 0)) := pz23.at_
  refine hK' _ _ ?_
  clear hK' K' pz23
  refine ls_ex (some 3) (.int .i64 0) rfl rfl (exec_assign _ rfl (.int .i64 0) rfl) ?_
  go_frame
  refine wpList_nil ?_
  go_wp2_with fail
  refine bodyPost_ret (results_at2 rfl _ _ Wz2.heap.size _ _ _ rfl _ rfl hz11 Try.underlying28 rfl 5 (by kernel_rfl) rfl) rfl ?_
  unfold ResT tZ tL
  rw [HC.out]
  exact ⟨_, rfl, by rw [HTL.out]; exact ho.mono (by omega), hB⟩
theorem implTensorOfMethod_c (p i j k : Int) (A : Option Addr) (c : Nat) (qs : List (List Nat)) (w : World) (hR : Rd w A qs) (hlen : qs.length ≤ 1048576) : Calls Try.prog 9 #[.agg #[.int .i64 p, .int .i64 i, .int .i64 j, .int .i64 k, .slice A qs.length c]] w (ResT w (tZ (tomCode p i j k qs) p) (tZ (tomCode p i j k qs) i) (tZ (tomCode p i j k qs) j) (tZ (tomCode p i j k qs) k) (tL (tomCode p i j k qs) (tomL p i j k qs)) (tomCode p i j k qs)) := by
  cases hs : methB p i j k qs with
  | false => exact implTom_no p i j k A c qs w hR hlen hs
  | true =>
    obtain ⟨P, N0, N1, N2, rfl, rfl, rfl, rfl, hP, l0, l1, l2⟩ := methB_nums hs
    exact implTom_yes P N0 N1 N2 A c qs w hR (methB_parts hs).2.2.2.2.1 hP l0 l1 l2 hs
end Go.Proofs.Ytbahcbmmkbokgaa
