/-
  impl.MultiplySchemes, and both sides' contracts. (Made by mkmu3.py.)
-/
import Derived.Test.YtopdfblfhdooaaaMu1
import Derived.Test.YtopdfblfhdooaaaEqSz
import Derived.Deep.AppendLies
import Derived.Test.YtopdfblfhdooaaaNrm6
namespace Go.Proofs.Ytopdfblfhdooaaa
open Go.RowKit
set_option maxRecDepth 100000
def mxS (i j a b : Nat) : Nat := if j < i then b else a
def sMax (i j k : Int) : Nat → Int
  | 0 => i
  | 1 => i
  | 2 => if i < j then j else i
  | _ => if (if i < j then j else i) < k then k else (if i < j then j else i)
theorem sMax_eq (i j k : Int) : sMax i j k 3 = max (max i j) k := by
  simp only [sMax]
  split <;> split <;> omega
theorem sMax_s1 (i j k : Int) : max (sMax i j k 1) j = sMax i j k 2 := by
  simp only [sMax]
  split <;> omega
theorem sMax_s2 (i j k : Int) : max (sMax i j k 2) k = sMax i j k 3 := by
  have h : sMax i j k 3 = max (sMax i j k 2) k := by
    simp only [sMax]
    split <;> split <;> omega
  exact h.symm
set_option maxHeartbeats 800000 in
theorem szsMax_c (g : Nat) (i j k : Int) (w : World) (h0 : At w g (.cells #[.int .i64 i, .int .i64 j, .int .i64 k] 68 (0, 0))) :
    Calls Try.prog 40 #[.slice (some ⟨g, 0, none⟩) 3 3] w fun e w' => e = .returned (.int .i64 (sMax i j k 3)) ∧ w = w' := by
  have c0 : w.cell? ⟨g, 0, none⟩ = some (.int .i64 i) := h0.at_ 0
  have c1 : w.cell? ⟨g, 1, none⟩ = some (.int .i64 j) := h0.at_ 1
  have c2 : w.cell? ⟨g, 2, none⟩ = some (.int .i64 k) := h0.at_ 2
  go_enter Try.func40, Try.ntmps40
  go_wp2_with fail
  go_loop [3, 4] (fun m v => ∃ a : Nat, 1 ≤ a ∧ a ≤ 3 ∧ v = .int .i64 a ∧ m = .int .i64 (sMax i j k a)) (fun _ v => 3 - (intOf v).toNat)
  case atStart => exact ⟨1, by omega, by omega, rfl, rfl⟩
  case round =>
    obtain ⟨a, ha1, ha3, rfl, rfl⟩ := hrel
    have hc : a = 1 ∨ a = 2 ∨ a = 3 := by omega
    rcases hc with rfl | rfl | rfl
    · go_wp2_with fail
      exact ⟨⟨2, by omega, by omega, rfl, by first | rfl | exact congrArg (Value.int IntKind.i64) (sMax_s1 i j k)⟩, by simp [intOf]⟩
    · go_wp2_with fail
      exact ⟨⟨3, by omega, by omega, rfl, by first | rfl | exact congrArg (Value.int IntKind.i64) (sMax_s2 i j k)⟩, by simp [intOf]⟩
    · go_wp2_with fail
      go_ret
      exact ⟨rfl, rfl⟩
attribute [local irreducible] wpList
theorem exec_slice_sz {o : Oper} {a : Act} {w : World} (x : Operand) (ho : o.op = .slice 68 x none none none) (g : Nat) (hx : a.eval x = .pointer (some ⟨g, 0, none⟩)) :
    (execOp a.eval o).run Try.prog w = .ok (.value (.slice (some ⟨g, 0, none⟩) 3 3)) w := by
  unfold execOp
  simp only [ho, hx]
  kernel_rfl
theorem wp_appP2 {o : Oper} {a : Act} {w : World} {K : Act → World → Prop} {Q : Exit → Act → World → Prop} (d : Option Tmp) (hd : o.dst = d) (s x : Operand) (ho : o.op = .call { callee := .builtin .append, args := #[s, x], argTypes := #[26, 26] })
    {lo : Nat} (sl : Value) (qs : List (List Nat)) (q : List Nat) (hs : a.eval s = sl) (hown : Own w lo sl qs) (g : Nat) (hx : a.eval x = .slice (some ⟨g, 0, none⟩) 1 1) (hg : At w g (.cells (u8s q) 53 (0, 0))) (hq : q.length = 27) (hle : qs.length ≤ 1000000) (hlo : lo ≤ w.heap.size)
    (h : ∀ v' w', Own w' lo v' (qs ++ [q]) → w.grownBy w' sl.ownBlock → (∀ b, b < w.heap.size → some b ≠ sl.ownBlock → some b ≠ v'.ownBlock) → K (a.put d v') w') : Oper.wp Try.prog o a w K Q := by
  obtain ⟨i0, hi, hz0, hz1, hz2⟩ := info_parts infoProd
  subst hd
  refine wp_append_lies w s x 26 ho lo 53 i0 (.agg (u8s (List.replicate 27 0))) 27 27 Try.underlying26 hi hz0 hz1 hz2 rfl (by decide) sl _ _ hs hown ⟨g, 0, none⟩ 1 1 (u8s q).toList hx (by rw [Array.length_toList, u8s_size, hq]) ?_ (u8s_one q) (by decide) (by unfold maxLen; omega) (by omega) hlo w.heap.size rfl ?_
  · intro j u hu
    rw [add_none, Nat.zero_add, hg.at_ j, ← Array.getElem?_toList]
    exact hu
  · intro g1 cap w8 own8 gr8 hor _
    refine h _ w8 ?_ gr8 ?_
    · unfold Own
      rw [u8s_snoc, List.length_append]
      exact own8
    · intro b hb hne e
      simp only [Value.ownBlock, Option.some.injEq] at e
      rcases hor with h1 | h1
      · exact hne (by rw [h1, e])
      · omega
def shRm (n m : Nat) (i : Nat) : Nat := match i with | 0 => n | 1 => m | _ => n
def shCm (m k : Nat) (i : Nat) : Nat := match i with | 0 => m | _ => k
theorem plaK_of {R C : Nat → Nat} (h : ∀ i, i < 3 → 1 ≤ R i ∧ R i ≤ 3 ∧ 1 ≤ C i ∧ C i ≤ 3) : PlaK R C := by
  intro i hi
  obtain ⟨h1, h2, h3, h4⟩ := h i hi
  exact Lib.hid (fun w => by
    rw [show ((R i * C i : Nat) : Int) = (R i : Int) * (C i : Int) by simp]
    exact places_c (R i) (C i) w (by simp [sizeB]; omega) (by simp [sizeB]; omega))
theorem muProd_c (P n m k u v t : Nat) (q r : List Nat) (hq : Bytes 27 q) (hr : Bytes 27 r) (w : World) (hP : 2 ≤ P ∧ P ≤ 5) (b : (1 ≤ n ∧ n ≤ 3) ∧ (1 ≤ m ∧ m ≤ 3) ∧ (1 ≤ k ∧ k ≤ 3) ∧ (1 ≤ u ∧ u ≤ 3) ∧ (1 ≤ v ∧ v ≤ 3) ∧ (1 ≤ t ∧ t ≤ 3)) (h0 : okK n m u v = true) (h9 : okK m k v t = true) (h18 : okK n k u t = true) :
    Calls Try.prog 41 #[.int .i64 P, .agg (u8s q), .agg #[.int .i64 n, .int .i64 m, .int .i64 m, .int .i64 k, .int .i64 n, .int .i64 k], .agg (u8s r), .agg #[.int .i64 u, .int .i64 v, .int .i64 v, .int .i64 t, .int .i64 u, .int .i64 t]] w fun e w' => e = .returned (.agg (u8s (muQ P n m k u v t q r))) ∧ Below w.heap.size w w' := by
  obtain ⟨b1, b2, b3, b4, b5, b6⟩ := b
  refine multipliedProduct_c P (shRm n m) (shCm m k) (shRm u v) (shCm v t) q r hq hr w hP (fun i hi => ?_) (plaK_of fun i hi => ?_) (plaK_of fun i hi => ?_)
  · rcases (show i = 0 ∨ i = 1 ∨ i = 2 by omega) with rfl | rfl | rfl
    · exact h0
    · exact h9
    · exact h18
  · rcases (show i = 0 ∨ i = 1 ∨ i = 2 by omega) with rfl | rfl | rfl <;> simp only [shRm, shCm] <;> omega
  · rcases (show i = 0 ∨ i = 1 ∨ i = 2 by omega) with rfl | rfl | rfl <;> simp only [shRm, shCm] <;> omega
theorem muNat {p n m k : Int} {qs : List (List Nat)} (h : schemeB p n m k qs = true) : ∃ P N M K : Nat, p = P ∧ n = N ∧ m = M ∧ k = K := by
  obtain ⟨s0, s1, s2, s3⟩ := sizesB_parts (schemeB_sizes h)
  have := primeB_pos s0
  simp only [sizeB, Bool.and_eq_true, decide_eq_true_eq] at s1 s2 s3
  exact ⟨p.toNat, n.toNat, m.toNat, k.toNat, by omega, by omega, by omega, by omega⟩
theorem alV_impl_Product {o : Oper} {a : Act} {w : World} (ho : o.op = .alloc 53) : (execOp a.eval o).run Try.prog w = .ok (.value (.pointer (some ⟨w.heap.size, 0, none⟩))) (w.alloc (.cells (u8s (List.replicate 27 0)) 53 (0, 0))) := by
  unfold execOp
  rw [ho]
  kernel_rfl
theorem alV_impl_Scheme {o : Oper} {a : Act} {w : World} (ho : o.op = .alloc 39) : (execOp a.eval o).run Try.prog w = .ok (.value (.pointer (some ⟨w.heap.size, 0, none⟩))) (w.alloc (.cells #[.int .i64 0, .int .i64 0, .int .i64 0, .int .i64 0, .slice none 0 0] 39 (0, 0))) := by
  unfold execOp
  rw [ho]
  kernel_rfl
theorem alV_impl_sizes {o : Oper} {a : Act} {w : World} (ho : o.op = .alloc 68) : (execOp a.eval o).run Try.prog w = .ok (.value (.pointer (some ⟨w.heap.size, 0, none⟩))) (w.alloc (.cells #[.int .i64 0, .int .i64 0, .int .i64 0] 68 (0, 0))) := by
  unfold execOp
  rw [ho]
  kernel_rfl
set_option maxHeartbeats 6400000 in
theorem implMu_c (P n m k : Nat) (A : Option Addr) (c : Nat) (qs : List (List Nat)) (u v t : Nat) (B : Option Addr) (d : Nat) (rs : List (List Nat)) (w : World) (hR : Rd w A qs) (hlx : qs.length ≤ 1048576) (hS : Rd w B rs) (hly : rs.length ≤ 1048576) (hx : schemeB P n m k qs = true) (hy : schemeB P u v t rs = true) (hc : ¬ (n * u ≤ 3 ∧ m * v ≤ 3 ∧ k * t ≤ 3)) :
    Calls Try.prog 16 #[.agg #[.int .i64 (P : Nat), .int .i64 (n : Nat), .int .i64 (m : Nat), .int .i64 (k : Nat), .slice A qs.length c], .agg #[.int .i64 (P : Nat), .int .i64 (u : Nat), .int .i64 (v : Nat), .int .i64 (t : Nat), .slice B rs.length d]] w (ResS w (muZ (muCode P n m k qs P u v t rs) P) (muZ (muCode P n m k qs P u v t rs) (n * u)) (muZ (muCode P n m k qs P u v t rs) (m * v)) (muZ (muCode P n m k qs P u v t rs) (k * t)) (muL (muCode P n m k qs P u v t rs) (muR P n m k u v t qs rs)) (muCode P n m k qs P u v t rs)) := by
  have hB := Below.refl w.heap.size w
  have hl30 := schemeB_len hx
  have hs30 := schemeB_len hy
  obtain ⟨s0, s1, s2, s3⟩ := sizesB_parts (schemeB_sizes hx)
  obtain ⟨_, t1, t2, t3⟩ := sizesB_parts (schemeB_sizes hy)
  have hP : 2 ≤ P ∧ P ≤ 5 := by have := prime_le5 s0; omega
  have b1 : 1 ≤ n ∧ n ≤ 3 := by simp only [sizeB, Bool.and_eq_true, decide_eq_true_eq] at s1; omega
  have b2 : 1 ≤ m ∧ m ≤ 3 := by simp only [sizeB, Bool.and_eq_true, decide_eq_true_eq] at s2; omega
  have b3 : 1 ≤ k ∧ k ≤ 3 := by simp only [sizeB, Bool.and_eq_true, decide_eq_true_eq] at s3; omega
  have b4 : 1 ≤ u ∧ u ≤ 3 := by simp only [sizeB, Bool.and_eq_true, decide_eq_true_eq] at t1; omega
  have b5 : 1 ≤ v ∧ v ≤ 3 := by simp only [sizeB, Bool.and_eq_true, decide_eq_true_eq] at t2; omega
  have b6 : 1 ≤ t ∧ t ≤ 3 := by simp only [sizeB, Bool.and_eq_true, decide_eq_true_eq] at t3; omega
  obtain ⟨N1, hN1⟩ : ∃ N, n * u = N := ⟨_, rfl⟩
  obtain ⟨N2, hN2⟩ : ∃ N, m * v = N := ⟨_, rfl⟩
  obtain ⟨N3, hN3⟩ : ∃ N, k * t = N := ⟨_, rfl⟩
  obtain ⟨LL, hLL⟩ : ∃ N, qs.length * rs.length = N := ⟨_, rfl⟩
  have c1 : N1 ≤ 3 * 3 := by rw [← hN1]; exact Nat.mul_le_mul b1.2 b4.2
  have c2 : N2 ≤ 3 * 3 := by rw [← hN2]; exact Nat.mul_le_mul b2.2 b5.2
  have c3 : N3 ≤ 3 * 3 := by rw [← hN3]; exact Nat.mul_le_mul b3.2 b6.2
  have c4 : LL ≤ 30 * 30 := by rw [← hLL]; exact Nat.mul_le_mul hl30 hs30
  have e1 : (n : Int) * (u : Int) = (N1 : Int) := by rw [← hN1]; simp
  have e2 : (m : Int) * (v : Int) = (N2 : Int) := by rw [← hN2]; simp
  have e3 : (k : Int) * (t : Int) = (N3 : Int) := by rw [← hN3]; simp
  have e4 : (qs.length : Int) * (rs.length : Int) = (LL : Int) := by rw [← hLL]; simp
  have HN1 : Hid (IntKind.i64.wrap ((n : Int) * (u : Int)) = (N1 : Int)) := Lib.hid (by rw [e1]; exact IntWalk.i64_in _ (by omega))
  have HN2 : Hid (IntKind.i64.wrap ((m : Int) * (v : Int)) = (N2 : Int)) := Lib.hid (by rw [e2]; exact IntWalk.i64_in _ (by omega))
  have HN3 : Hid (IntKind.i64.wrap ((k : Int) * (t : Int)) = (N3 : Int)) := Lib.hid (by rw [e3]; exact IntWalk.i64_in _ (by omega))
  have HLL : Hid (IntKind.i64.wrap ((qs.length : Int) * (rs.length : Int)) = (LL : Int)) := Lib.hid (by rw [e4]; exact IntWalk.i64_in _ (by omega))
  have HX := Lib.hid hx
  have HY := Lib.hid hy
  rw [hN1, hN2, hN3] at hc
  have HC : Hid (muCode P n m k qs P u v t rs = 3) := Lib.hid (by unfold muCode; rw [hx, hy, e1, e2, e3, hLL]; simp; omega)
  obtain ⟨MX, hMX⟩ : ∃ MX : Int, sMax (N1 : Nat) (N2 : Nat) (N3 : Nat) 3 = MX := ⟨_, rfl⟩
  have hmx : 3 < MX := by rw [← hMX, sMax_eq]; omega
  have HMX : Hid (∀ (g : Nat) (w : World), At w g (.cells #[.int .i64 (N1 : Nat), .int .i64 (N2 : Nat), .int .i64 (N3 : Nat)] 68 (0, 0)) → Calls Try.prog 40 #[.slice (some ⟨g, 0, none⟩) 3 3] w fun e w' => e = .returned (.int .i64 MX) ∧ w = w') := Lib.hid (fun g w h => by rw [← hMX]; exact szsMax_c g _ _ _ w h)
  clear hMX
  rw [e1, e2, e3]
  have HBB := Lib.hid (⟨b1, b2, b3, b4, b5, b6⟩ : (1 ≤ n ∧ n ≤ 3) ∧ (1 ≤ m ∧ m ≤ 3) ∧ (1 ≤ k ∧ k ≤ 3) ∧ (1 ≤ u ∧ u ≤ 3) ∧ (1 ≤ v ∧ v ≤ 3) ∧ (1 ≤ t ∧ t ≤ 3))
  clear hx hy s0 s1 s2 s3 t1 t2 t3 hN1 hN2 hN3 hLL e1 e2 e3 e4 b1 b2 b3 b4 b5 b6
  go_enter Try.func16, Try.ntmps16
  go_upto_region 0 with (fail)
  refine wp_region_lit ?_
  refine ls_op rfl (fun K' hK' => ?_)
  have lz1 := hB.size
  refine wp_new (some 2) rfl (exec_box 39 _ rfl (#[.int .i64 (P : Nat), .int .i64 (n : Nat), .int .i64 (m : Nat), .int .i64 (k : Nat), .slice A qs.length c]) rfl) (fun Wz2 nnz3 => ?_)
  have bz4 := nnz3.below (Below.refl _ _) (Nat.le_refl _)
  replace hB := below_after hB bz4
  have hz5 : At Wz2 w.heap.size (.cells #[.int .i64 (P : Nat), .int .i64 (n : Nat), .int .i64 (m : Nat), .int .i64 (k : Nat), .slice A qs.length c] 39 (0, 0)) := nnz3.at_
  refine hK' _ _ ?_
  clear hK' K' nnz3 bz4
  go_frame
  refine ls_op rfl (fun K' hK' => ?_)
  have lz6 := hB.size
  have lz7 := hz5.lt
  refine wp_new (some 3) rfl (exec_box 39 _ rfl (#[.int .i64 (P : Nat), .int .i64 (u : Nat), .int .i64 (v : Nat), .int .i64 (t : Nat), .slice B rs.length d]) rfl) (fun Wz8 nnz9 => ?_)
  have bz10 := nnz9.below (Below.refl _ _) (Nat.le_refl _)
  replace hB := below_after hB bz10
  replace hz5 := hz5.after bz10
  have hz11 : At Wz8 Wz2.heap.size (.cells #[.int .i64 (P : Nat), .int .i64 (u : Nat), .int .i64 (v : Nat), .int .i64 (t : Nat), .slice B rs.length d] 39 (0, 0)) := nnz9.at_
  refine hK' _ _ ?_
  clear hK' K' nnz9 bz10
  go_frame
  refine ls_op rfl (fun K' hK' => ?_)
  have lz12 := hB.size
  have lz13 := hz5.lt
  have lz14 := hz11.lt
  refine wp_new (some 4) rfl (alV_impl_Scheme rfl) (fun Wz15 nnz16 => ?_)
  have bz17 := nnz16.below (Below.refl _ _) (Nat.le_refl _)
  replace hB := below_after hB bz17
  replace hz5 := hz5.after bz17
  replace hz11 := hz11.after bz17
  have hz18 : At Wz15 Wz8.heap.size (.cells #[.int .i64 0, .int .i64 0, .int .i64 0, .int .i64 0, .slice none 0 0] 39 (0, 0)) := nnz16.at_
  refine hK' _ _ ?_
  clear hK' K' nnz16 bz17
  go_frame
  refine ls_ex (some 5) (.int .i64 0) rfl rfl (exec_assign _ rfl (.int .i64 0) rfl) ?_
  go_frame
  refine wpList_nil ?_
  go_upto_region 1 with (fail)
  refine wp_region_lit ?_
  refine ls_ex (some 14) (.agg #[.int .i64 (P : Nat), .int .i64 (n : Nat), .int .i64 (m : Nat), .int .i64 (k : Nat), .slice A qs.length c]) rfl rfl (exec_load_all 39 _ rfl w.heap.size rfl _ _ _ hz5 Try.underlying39 rfl 5 (by kernel_rfl) rfl) ?_
  go_frame
  refine ls_op rfl (fun K' hK' => ?_)
  have lz21 := hB.size
  have lz22 := hz5.lt
  have lz23 := hz11.lt
  have lz24 := hz18.lt
  refine wp_call1 (some 15) rfl 38 _ _ rfl (fun args w => by kernel_rfl) _ rfl _ (implIsScheme_c (P : Nat) (n : Nat) (m : Nat) (k : Nat) A c qs _ (hR.keep hB) hlx) (fun e Wz19 h => ?_)
  obtain ⟨rfl, bz20⟩ := h
  replace hB := below_after hB bz20
  replace hz5 := hz5.after bz20
  replace hz11 := hz11.after bz20
  replace hz18 := hz18.after bz20
  rw [HX.out]
  clear bz20
  refine ⟨_, rfl, ?_⟩
  refine hK' _ _ ?_
  clear hK' K'
  go_frame
  refine ls_ex (some 16) (.bool false) rfl rfl (exec_not _ _ rfl true rfl) ?_
  go_frame
  refine ls_ex (some 17) (.bool false) rfl rfl (exec_move _ rfl (.bool false) rfl) ?_
  go_frame
  refine ls_ex_g (some 18) (.agg #[.int .i64 (P : Nat), .int .i64 (u : Nat), .int .i64 (v : Nat), .int .i64 (t : Nat), .slice B rs.length d]) rfl rfl (exec_load_all 39 _ rfl Wz2.heap.size rfl _ _ _ hz11 Try.underlying39 rfl 5 (by kernel_rfl) rfl) ?_
  go_frame
  refine ls_op_g rfl (fun K' hK' => ?_)
  have lz27 := hB.size
  have lz28 := hz5.lt
  have lz29 := hz11.lt
  have lz30 := hz18.lt
  refine wp_call1 (some 19) rfl 38 _ _ rfl (fun args w => by kernel_rfl) _ rfl _ (implIsScheme_c (P : Nat) (u : Nat) (v : Nat) (t : Nat) B d rs _ (hS.keep hB) hly) (fun e Wz25 h => ?_)
  obtain ⟨rfl, bz26⟩ := h
  replace hB := below_after hB bz26
  replace hz5 := hz5.after bz26
  replace hz11 := hz11.after bz26
  replace hz18 := hz18.after bz26
  rw [HY.out]
  clear bz26
  refine ⟨_, rfl, ?_⟩
  refine hK' _ _ ?_
  clear hK' K'
  go_frame
  refine ls_ex_g (some 20) (.bool false) rfl rfl (exec_not _ _ rfl true rfl) ?_
  go_frame
  refine ls_ex (some 21) (.bool false) rfl rfl (exec_pick _ _ _ rfl false rfl (.bool false) rfl) ?_
  go_frame
  refine wpList_nil ?_
  go_upto_region 3 with (fail)
  refine wp_region_lit ?_
  refine ls_ex (some 23) (.pointer (some ⟨w.heap.size, 0, none⟩)) rfl rfl (exec_fieldAddr 39 _ 0 rfl _ (by kernel_rfl)) ?_
  go_frame
  refine ls_ex (some 24) (.int .i64 (P : Nat)) rfl rfl (exec_load_one 2 _ rfl w.heap.size 0 rfl (.int .i64 (P : Nat)) _ Try.underlying2 rfl (hz5.at_ 0)) ?_
  go_frame
  refine ls_ex (some 25) (.pointer (some ⟨Wz2.heap.size, 0, none⟩)) rfl rfl (exec_fieldAddr 39 _ 0 rfl _ (by kernel_rfl)) ?_
  go_frame
  refine ls_ex (some 26) (.int .i64 (P : Nat)) rfl rfl (exec_load_one 2 _ rfl Wz2.heap.size 0 rfl (.int .i64 (P : Nat)) _ Try.underlying2 rfl (hz11.at_ 0)) ?_
  go_frame
  refine ls_ex (some 27) (.bool false) rfl rfl (exec_neq _ _ _ _ rfl ((P : Nat)) ((P : Nat)) rfl rfl false (by simp)) ?_
  go_frame
  refine wpList_nil ?_
  go_upto_region 5 with (fail)
  refine wp_region_lit ?_
  refine ls_ex (some 29) (.agg #[.int .i64 (P : Nat), .int .i64 (n : Nat), .int .i64 (m : Nat), .int .i64 (k : Nat), .slice A qs.length c]) rfl rfl (exec_load_all 39 _ rfl w.heap.size rfl _ _ _ hz5 Try.underlying39 rfl 5 (by kernel_rfl) rfl) ?_
  go_frame
  refine ls_op rfl (fun K' hK' => ?_)
  have lz33 := hB.size
  have lz34 := hz5.lt
  have lz35 := hz11.lt
  have lz36 := hz18.lt
  refine wp_call1 (some 30) rfl 39 _ _ rfl (fun args w => by kernel_rfl) _ rfl _ (sizesOf_c _ _ _ _ _ _) (fun e Wz31 h => ?_)
  obtain ⟨rfl, bz32⟩ := h
  replace hB := below_after hB bz32
  replace hz5 := hz5.after bz32
  replace hz11 := hz11.after bz32
  replace hz18 := hz18.after bz32
  clear bz32
  refine ⟨_, rfl, ?_⟩
  refine hK' _ _ ?_
  clear hK' K'
  go_frame
  refine ls_op rfl (fun K' hK' => ?_)
  have lz37 := hB.size
  have lz38 := hz5.lt
  have lz39 := hz11.lt
  have lz40 := hz18.lt
  refine wp_new (some 6) rfl (alV_impl_sizes rfl) (fun Wz41 nnz42 => ?_)
  have bz43 := nnz42.below (Below.refl _ _) (Nat.le_refl _)
  replace hB := below_after hB bz43
  replace hz5 := hz5.after bz43
  replace hz11 := hz11.after bz43
  replace hz18 := hz18.after bz43
  have hz44 : At Wz41 Wz31.heap.size (.cells #[.int .i64 0, .int .i64 0, .int .i64 0] 68 (0, 0)) := nnz42.at_
  refine hK' _ _ ?_
  clear hK' K' nnz42 bz43
  go_frame
  refine ls_op rfl (fun K' hK' => ?_)
  refine wp_store_all 68 _ _ rfl rfl Wz31.heap.size rfl #[.int .i64 (n : Nat), .int .i64 (m : Nat), .int .i64 (k : Nat)] rfl _ _ hz44 3 (by kernel_rfl) rfl rfl (by intro x hx; simp at hx; rcases hx with rfl | rfl | rfl <;> rfl) (fun Wz45 pz46 => ?_)
  replace hB := pz46.below hB (by omega)
  replace hz5 := pz46.other hz5 (by omega)
  replace hz11 := pz46.other hz11 (by omega)
  replace hz18 := pz46.other hz18 (by omega)
  replace hz44 : At Wz45 Wz31.heap.size (.cells #[.int .i64 (n : Nat), .int .i64 (m : Nat), .int .i64 (k : Nat)] 68 (0, 0)) := pz46.at_
  refine hK' _ _ ?_
  clear hK' K' pz46
  refine wpList_nil ?_
  go_upto_region 6 with (fail)
  refine wp_region_lit ?_
  refine ls_ex (some 31) (.agg #[.int .i64 (P : Nat), .int .i64 (u : Nat), .int .i64 (v : Nat), .int .i64 (t : Nat), .slice B rs.length d]) rfl rfl (exec_load_all 39 _ rfl Wz2.heap.size rfl _ _ _ hz11 Try.underlying39 rfl 5 (by kernel_rfl) rfl) ?_
  go_frame
  refine ls_op rfl (fun K' hK' => ?_)
  have lz49 := hB.size
  have lz50 := hz5.lt
  have lz51 := hz11.lt
  have lz52 := hz18.lt
  have lz53 := hz44.lt
  refine wp_call1 (some 32) rfl 39 _ _ rfl (fun args w => by kernel_rfl) _ rfl _ (sizesOf_c _ _ _ _ _ _) (fun e Wz47 h => ?_)
  obtain ⟨rfl, bz48⟩ := h
  replace hB := below_after hB bz48
  replace hz5 := hz5.after bz48
  replace hz11 := hz11.after bz48
  replace hz18 := hz18.after bz48
  replace hz44 := hz44.after bz48
  clear bz48
  refine ⟨_, rfl, ?_⟩
  refine hK' _ _ ?_
  clear hK' K'
  go_frame
  refine ls_ex (some 33) (.int .i64 0) rfl rfl (exec_move _ rfl (.int .i64 0) rfl) ?_
  go_frame
  refine wpList_nil ?_
  go_wp2_with fail
  go_loopw [33] (fun s33 wr => ∃ i : Nat, i ≤ 3 ∧ s33 = .int .i64 i ∧ Below w.heap.size w wr ∧ At wr w.heap.size (.cells #[.int .i64 (P : Nat), .int .i64 (n : Nat), .int .i64 (m : Nat), .int .i64 (k : Nat), .slice A qs.length c] 39 (0, 0)) ∧ At wr Wz2.heap.size (.cells #[.int .i64 (P : Nat), .int .i64 (u : Nat), .int .i64 (v : Nat), .int .i64 (t : Nat), .slice B rs.length d] 39 (0, 0)) ∧ At wr Wz8.heap.size (.cells #[.int .i64 0, .int .i64 0, .int .i64 0, .int .i64 0, .slice none 0 0] 39 (0, 0)) ∧ At wr Wz31.heap.size (.cells #[.int .i64 (mxS i 0 n N1 : Nat), .int .i64 (mxS i 1 m N2 : Nat), .int .i64 (mxS i 2 k N3 : Nat)] 68 (0, 0))) (fun s33 _ => 3 - (intOf s33).toNat)
  case atStart => exact ⟨0, by omega, rfl, hB, hz5, hz11, hz18, hz44⟩
  case round =>
    clear hB hz5 hz11 hz18 hz44
    obtain ⟨i, hle, rfl, hB, h2, h3, h4, h6⟩ := hrel
    rcases (show i = 0 ∨ i = 1 ∨ i = 2 ∨ i = 3 by omega) with rfl | rfl | rfl | rfl
    · go_upto_region 7 with (fail)
      refine wp_region_lit ?_
      refine ls_ex (some 34) (.bool true) rfl rfl (exec_lss _ _ _ _ rfl 0 3 rfl rfl true rfl) ?_
      go_frame
      refine wpList_nil ?_
      go_upto_region 8 with (fail)
      refine wp_region_lit ?_
      refine ls_ex (some 35) (.int .i64 0) rfl rfl (exec_move _ rfl (.int .i64 0) rfl) ?_
      go_frame
      refine ls_ex (some 36) (.int .i64 (u : Nat)) rfl rfl (exec_index_arr3 68 2 _ _ rfl 3 0 _ _ rfl rfl Try.underlying68 _ Try.underlying2 rfl (by kernel_rfl) (by omega) rfl) ?_
      go_frame
      refine ls_ex (some 7) (.int .i64 0) rfl rfl (exec_assign _ rfl (.int .i64 0) rfl) ?_
      go_frame
      refine ls_ex (some 8) (.int .i64 (u : Nat)) rfl rfl (exec_assign _ rfl (.int .i64 (u : Nat)) rfl) ?_
      go_frame
      refine wpList_nil ?_
      go_upto_region 9 with (fail)
      refine wp_region_lit ?_
      refine ls_ex (some 37) (.int .i64 0) rfl rfl (exec_move _ rfl (.int .i64 0) rfl) ?_
      go_frame
      refine ls_ex (some 38) (.pointer (some ⟨Wz31.heap.size, 0, none⟩)) rfl rfl (exec_index_arr _ 2 _ _ rfl Wz31.heap.size 0 3 0 1 rfl rfl Try.underlying68 (by kernel_rfl) (by omega)) ?_
      go_frame
      refine ls_ex (some 39) (.int .i64 (mxS 0 0 n N1 : Nat)) rfl rfl (exec_load_one 2 _ rfl Wz31.heap.size 0 rfl (.int .i64 (mxS 0 0 n N1 : Nat)) _ Try.underlying2 rfl (h6.at_ 0)) ?_
      go_frame
      refine ls_ex (some 40) (.int .i64 (u : Nat)) rfl rfl (exec_move _ rfl (.int .i64 (u : Nat)) rfl) ?_
      go_frame
      refine ls_ex (some 41) (.int .i64 (N1 : Nat)) rfl rfl (exec_mul _ _ _ _ rfl (n : Nat) (u : Nat) (N1 : Nat) rfl rfl HN1.out) ?_
      go_frame
      refine ls_ex (some 42) (.pointer (some ⟨Wz31.heap.size, 0, none⟩)) rfl rfl (exec_index_arr _ 2 _ _ rfl Wz31.heap.size 0 3 0 1 rfl rfl Try.underlying68 (by kernel_rfl) (by omega)) ?_
      go_frame
      refine ls_op rfl (fun K' hK' => ?_)
      refine wp_store_one 2 _ _ rfl rfl Wz31.heap.size 0 rfl (.int .i64 (N1 : Nat)) rfl rfl rfl _ _ h6 (by kernel_rfl) (by simp) (fun Wz54 pz55 => ?_)
      replace hB := pz55.below hB (by omega)
      replace h2 := pz55.other h2 (by omega)
      replace h3 := pz55.other h3 (by omega)
      replace h4 := pz55.other h4 (by omega)
      replace h6 : At Wz54 Wz31.heap.size (.cells #[.int .i64 (N1 : Nat), .int .i64 (mxS 0 1 m N2 : Nat), .int .i64 (mxS 0 2 k N3 : Nat)] 68 (0, 0)) := pz55.at_
      refine hK' _ _ ?_
      clear hK' K' pz55
      refine wpList_nil ?_
      go_upto_region 10 with (fail)
      refine wp_region_lit ?_
      refine ls_ex (some 43) (.int .i64 1) rfl rfl (exec_add _ _ _ _ rfl 0 1 1 rfl rfl rfl) ?_
      go_frame
      refine ls_ex (some 33) (.int .i64 1) rfl rfl (exec_move _ rfl (.int .i64 1) rfl) ?_
      go_frame
      refine wpList_nil ?_
      go_wp2_with fail
      go_roundw
      case rel => exact ⟨1, by omega, by go_num, hB, h2, h3, h4, h6⟩
      case measure => simp [intOf]
    · go_upto_region 7 with (fail)
      refine wp_region_lit ?_
      refine ls_ex (some 34) (.bool true) rfl rfl (exec_lss _ _ _ _ rfl 1 3 rfl rfl true rfl) ?_
      go_frame
      refine wpList_nil ?_
      go_upto_region 8 with (fail)
      refine wp_region_lit ?_
      refine ls_ex (some 35) (.int .i64 1) rfl rfl (exec_move _ rfl (.int .i64 1) rfl) ?_
      go_frame
      refine ls_ex (some 36) (.int .i64 (v : Nat)) rfl rfl (exec_index_arr3 68 2 _ _ rfl 3 1 _ _ rfl rfl Try.underlying68 _ Try.underlying2 rfl (by kernel_rfl) (by omega) rfl) ?_
      go_frame
      refine ls_ex (some 7) (.int .i64 1) rfl rfl (exec_assign _ rfl (.int .i64 1) rfl) ?_
      go_frame
      refine ls_ex (some 8) (.int .i64 (v : Nat)) rfl rfl (exec_assign _ rfl (.int .i64 (v : Nat)) rfl) ?_
      go_frame
      refine wpList_nil ?_
      go_upto_region 9 with (fail)
      refine wp_region_lit ?_
      refine ls_ex (some 37) (.int .i64 1) rfl rfl (exec_move _ rfl (.int .i64 1) rfl) ?_
      go_frame
      refine ls_ex (some 38) (.pointer (some ⟨Wz31.heap.size, 1, none⟩)) rfl rfl (exec_index_arr _ 2 _ _ rfl Wz31.heap.size 0 3 1 1 rfl rfl Try.underlying68 (by kernel_rfl) (by omega)) ?_
      go_frame
      refine ls_ex (some 39) (.int .i64 (mxS 1 1 m N2 : Nat)) rfl rfl (exec_load_one 2 _ rfl Wz31.heap.size 1 rfl (.int .i64 (mxS 1 1 m N2 : Nat)) _ Try.underlying2 rfl (h6.at_ 1)) ?_
      go_frame
      refine ls_ex (some 40) (.int .i64 (v : Nat)) rfl rfl (exec_move _ rfl (.int .i64 (v : Nat)) rfl) ?_
      go_frame
      refine ls_ex (some 41) (.int .i64 (N2 : Nat)) rfl rfl (exec_mul _ _ _ _ rfl (m : Nat) (v : Nat) (N2 : Nat) rfl rfl HN2.out) ?_
      go_frame
      refine ls_ex (some 42) (.pointer (some ⟨Wz31.heap.size, 1, none⟩)) rfl rfl (exec_index_arr _ 2 _ _ rfl Wz31.heap.size 0 3 1 1 rfl rfl Try.underlying68 (by kernel_rfl) (by omega)) ?_
      go_frame
      refine ls_op rfl (fun K' hK' => ?_)
      refine wp_store_one 2 _ _ rfl rfl Wz31.heap.size 1 rfl (.int .i64 (N2 : Nat)) rfl rfl rfl _ _ h6 (by kernel_rfl) (by simp) (fun Wz56 pz57 => ?_)
      replace hB := pz57.below hB (by omega)
      replace h2 := pz57.other h2 (by omega)
      replace h3 := pz57.other h3 (by omega)
      replace h4 := pz57.other h4 (by omega)
      replace h6 : At Wz56 Wz31.heap.size (.cells #[.int .i64 (mxS 1 0 n N1 : Nat), .int .i64 (N2 : Nat), .int .i64 (mxS 1 2 k N3 : Nat)] 68 (0, 0)) := pz57.at_
      refine hK' _ _ ?_
      clear hK' K' pz57
      refine wpList_nil ?_
      go_upto_region 10 with (fail)
      refine wp_region_lit ?_
      refine ls_ex (some 43) (.int .i64 2) rfl rfl (exec_add _ _ _ _ rfl 1 1 2 rfl rfl rfl) ?_
      go_frame
      refine ls_ex (some 33) (.int .i64 2) rfl rfl (exec_move _ rfl (.int .i64 2) rfl) ?_
      go_frame
      refine wpList_nil ?_
      go_wp2_with fail
      go_roundw
      case rel => exact ⟨2, by omega, by go_num, hB, h2, h3, h4, h6⟩
      case measure => simp [intOf]
    · go_upto_region 7 with (fail)
      refine wp_region_lit ?_
      refine ls_ex (some 34) (.bool true) rfl rfl (exec_lss _ _ _ _ rfl 2 3 rfl rfl true rfl) ?_
      go_frame
      refine wpList_nil ?_
      go_upto_region 8 with (fail)
      refine wp_region_lit ?_
      refine ls_ex (some 35) (.int .i64 2) rfl rfl (exec_move _ rfl (.int .i64 2) rfl) ?_
      go_frame
      refine ls_ex (some 36) (.int .i64 (t : Nat)) rfl rfl (exec_index_arr3 68 2 _ _ rfl 3 2 _ _ rfl rfl Try.underlying68 _ Try.underlying2 rfl (by kernel_rfl) (by omega) rfl) ?_
      go_frame
      refine ls_ex (some 7) (.int .i64 2) rfl rfl (exec_assign _ rfl (.int .i64 2) rfl) ?_
      go_frame
      refine ls_ex (some 8) (.int .i64 (t : Nat)) rfl rfl (exec_assign _ rfl (.int .i64 (t : Nat)) rfl) ?_
      go_frame
      refine wpList_nil ?_
      go_upto_region 9 with (fail)
      refine wp_region_lit ?_
      refine ls_ex (some 37) (.int .i64 2) rfl rfl (exec_move _ rfl (.int .i64 2) rfl) ?_
      go_frame
      refine ls_ex (some 38) (.pointer (some ⟨Wz31.heap.size, 2, none⟩)) rfl rfl (exec_index_arr _ 2 _ _ rfl Wz31.heap.size 0 3 2 1 rfl rfl Try.underlying68 (by kernel_rfl) (by omega)) ?_
      go_frame
      refine ls_ex (some 39) (.int .i64 (mxS 2 2 k N3 : Nat)) rfl rfl (exec_load_one 2 _ rfl Wz31.heap.size 2 rfl (.int .i64 (mxS 2 2 k N3 : Nat)) _ Try.underlying2 rfl (h6.at_ 2)) ?_
      go_frame
      refine ls_ex (some 40) (.int .i64 (t : Nat)) rfl rfl (exec_move _ rfl (.int .i64 (t : Nat)) rfl) ?_
      go_frame
      refine ls_ex (some 41) (.int .i64 (N3 : Nat)) rfl rfl (exec_mul _ _ _ _ rfl (k : Nat) (t : Nat) (N3 : Nat) rfl rfl HN3.out) ?_
      go_frame
      refine ls_ex (some 42) (.pointer (some ⟨Wz31.heap.size, 2, none⟩)) rfl rfl (exec_index_arr _ 2 _ _ rfl Wz31.heap.size 0 3 2 1 rfl rfl Try.underlying68 (by kernel_rfl) (by omega)) ?_
      go_frame
      refine ls_op rfl (fun K' hK' => ?_)
      refine wp_store_one 2 _ _ rfl rfl Wz31.heap.size 2 rfl (.int .i64 (N3 : Nat)) rfl rfl rfl _ _ h6 (by kernel_rfl) (by simp) (fun Wz58 pz59 => ?_)
      replace hB := pz59.below hB (by omega)
      replace h2 := pz59.other h2 (by omega)
      replace h3 := pz59.other h3 (by omega)
      replace h4 := pz59.other h4 (by omega)
      replace h6 : At Wz58 Wz31.heap.size (.cells #[.int .i64 (mxS 2 0 n N1 : Nat), .int .i64 (mxS 2 1 m N2 : Nat), .int .i64 (N3 : Nat)] 68 (0, 0)) := pz59.at_
      refine hK' _ _ ?_
      clear hK' K' pz59
      refine wpList_nil ?_
      go_upto_region 10 with (fail)
      refine wp_region_lit ?_
      refine ls_ex (some 43) (.int .i64 3) rfl rfl (exec_add _ _ _ _ rfl 2 1 3 rfl rfl rfl) ?_
      go_frame
      refine ls_ex (some 33) (.int .i64 3) rfl rfl (exec_move _ rfl (.int .i64 3) rfl) ?_
      go_frame
      refine wpList_nil ?_
      go_wp2_with fail
      go_roundw
      case rel => exact ⟨3, by omega, by go_num, hB, h2, h3, h4, h6⟩
      case measure => simp [intOf]
    · replace h6 : At wr Wz31.heap.size (.cells #[.int .i64 (N1 : Nat), .int .i64 (N2 : Nat), .int .i64 (N3 : Nat)] 68 (0, 0)) := h6
      obtain ⟨wk, rfl⟩ : ∃ x : World, x = wr := ⟨_, rfl⟩
      go_upto_region 7 with (fail)
      refine wp_region_lit ?_
      refine ls_ex (some 34) (.bool false) rfl rfl (exec_lss _ _ _ _ rfl 3 3 rfl rfl false rfl) ?_
      go_frame
      refine wpList_nil ?_
      go_upto_region 11 with (fail)
      refine wp_region_lit ?_
      refine ls_ex (some 44) (.slice (some ⟨Wz31.heap.size, 0, none⟩) 3 3) rfl rfl (exec_slice_sz _ rfl Wz31.heap.size rfl) ?_
      go_frame
      refine ls_op rfl (fun K' hK' => ?_)
      have lz62 := hB.size
      have lz63 := h2.lt
      have lz64 := h3.lt
      have lz65 := h4.lt
      have lz66 := h6.lt
      refine wp_call1 (some 45) rfl 40 _ _ rfl (fun args w => by kernel_rfl) _ rfl _ (HMX.out _ _ h6) (fun e Wz60 h => ?_)
      obtain ⟨rfl, rfl⟩ := h
      refine ⟨_, rfl, ?_⟩
      refine hK' _ _ ?_
      clear hK' K'
      go_frame
      refine ls_ex (some 46) (.bool true) rfl rfl (exec_gtr _ _ _ _ rfl MX 3 rfl rfl true (decide_eq_true (by omega))) ?_
      go_frame
      refine ls_ex (some 47) (.bool true) rfl rfl (exec_move _ rfl (.bool true) rfl) ?_
      go_frame
      refine ls_skip_g (some 48) rfl rfl ?_
      go_frame
      refine ls_skip_g (some 49) rfl rfl ?_
      go_frame
      refine ls_skip_g (some 50) rfl rfl ?_
      go_frame
      refine ls_skip_g (some 51) rfl rfl ?_
      go_frame
      refine ls_skip_g (some 52) rfl rfl ?_
      go_frame
      refine ls_skip_g (some 53) rfl rfl ?_
      go_frame
      refine ls_skip_g (some 54) rfl rfl ?_
      go_frame
      refine ls_skip_g (some 55) rfl rfl ?_
      go_frame
      refine ls_ex (some 56) (.bool true) rfl rfl (exec_pick _ _ _ rfl true rfl (.bool true) rfl) ?_
      go_frame
      refine wpList_nil ?_
      go_upto_region 12 with (fail)
      refine wp_region_lit ?_
      refine ls_ex (some 57) (.agg #[.int .i64 0, .int .i64 0, .int .i64 0, .int .i64 0, .slice none 0 0]) rfl rfl (exec_build_sch0 rfl) ?_
      go_frame
      refine ls_op rfl (fun K' hK' => ?_)
      refine wp_store_all 39 _ _ rfl rfl Wz8.heap.size rfl #[.int .i64 0, .int .i64 0, .int .i64 0, .int .i64 0, .slice none 0 0] rfl _ _ h4 5 (by kernel_rfl) rfl rfl (one5 _ _ _ _ _ _ _) (fun Wz67 pz68 => ?_)
      replace hB := pz68.below hB (by omega)
      replace h2 := pz68.other h2 (by omega)
      replace h3 := pz68.other h3 (by omega)
      replace h6 := pz68.other h6 (by omega)
      replace h4 : At Wz67 Wz8.heap.size (.cells #[.int .i64 0, .int .i64 0, .int .i64 0, .int .i64 0, .slice none 0 0] 39 (0, 0)) := pz68.at_
      refine hK' _ _ ?_
      clear hK' K' pz68
      refine ls_ex (some 5) (.int .i64 3) rfl rfl (exec_assign _ rfl (.int .i64 3) rfl) ?_
      go_frame
      refine wpList_nil ?_
      go_wp2_with fail
      refine bodyPost_ret (results_at2 rfl _ _ Wz8.heap.size _ _ _ rfl _ rfl h4 Try.underlying39 rfl 5 (by kernel_rfl) rfl) rfl ?_
      unfold ResS muZ muL
      rw [HC.out]
      exact ⟨_, rfl, Own.nil _ _, hB⟩
set_option maxHeartbeats 6400000 in
theorem implMu_d (P n m k : Nat) (A : Option Addr) (c : Nat) (qs : List (List Nat)) (u v t : Nat) (B : Option Addr) (d : Nat) (rs : List (List Nat)) (w : World) (hR : Rd w A qs) (hlx : qs.length ≤ 1048576) (hS : Rd w B rs) (hly : rs.length ≤ 1048576) (hx : schemeB P n m k qs = true) (hy : schemeB P u v t rs = true) (h1 : n * u ≤ 3) (h2 : m * v ≤ 3) (h3 : k * t ≤ 3) (hc : 30 < qs.length * rs.length) :
    Calls Try.prog 16 #[.agg #[.int .i64 (P : Nat), .int .i64 (n : Nat), .int .i64 (m : Nat), .int .i64 (k : Nat), .slice A qs.length c], .agg #[.int .i64 (P : Nat), .int .i64 (u : Nat), .int .i64 (v : Nat), .int .i64 (t : Nat), .slice B rs.length d]] w (ResS w (muZ (muCode P n m k qs P u v t rs) P) (muZ (muCode P n m k qs P u v t rs) (n * u)) (muZ (muCode P n m k qs P u v t rs) (m * v)) (muZ (muCode P n m k qs P u v t rs) (k * t)) (muL (muCode P n m k qs P u v t rs) (muR P n m k u v t qs rs)) (muCode P n m k qs P u v t rs)) := by
  have hB := Below.refl w.heap.size w
  have hl30 := schemeB_len hx
  have hs30 := schemeB_len hy
  obtain ⟨s0, s1, s2, s3⟩ := sizesB_parts (schemeB_sizes hx)
  obtain ⟨_, t1, t2, t3⟩ := sizesB_parts (schemeB_sizes hy)
  have hP : 2 ≤ P ∧ P ≤ 5 := by have := prime_le5 s0; omega
  have b1 : 1 ≤ n ∧ n ≤ 3 := by simp only [sizeB, Bool.and_eq_true, decide_eq_true_eq] at s1; omega
  have b2 : 1 ≤ m ∧ m ≤ 3 := by simp only [sizeB, Bool.and_eq_true, decide_eq_true_eq] at s2; omega
  have b3 : 1 ≤ k ∧ k ≤ 3 := by simp only [sizeB, Bool.and_eq_true, decide_eq_true_eq] at s3; omega
  have b4 : 1 ≤ u ∧ u ≤ 3 := by simp only [sizeB, Bool.and_eq_true, decide_eq_true_eq] at t1; omega
  have b5 : 1 ≤ v ∧ v ≤ 3 := by simp only [sizeB, Bool.and_eq_true, decide_eq_true_eq] at t2; omega
  have b6 : 1 ≤ t ∧ t ≤ 3 := by simp only [sizeB, Bool.and_eq_true, decide_eq_true_eq] at t3; omega
  obtain ⟨N1, hN1⟩ : ∃ N, n * u = N := ⟨_, rfl⟩
  obtain ⟨N2, hN2⟩ : ∃ N, m * v = N := ⟨_, rfl⟩
  obtain ⟨N3, hN3⟩ : ∃ N, k * t = N := ⟨_, rfl⟩
  obtain ⟨LL, hLL⟩ : ∃ N, qs.length * rs.length = N := ⟨_, rfl⟩
  have c1 : N1 ≤ 3 * 3 := by rw [← hN1]; exact Nat.mul_le_mul b1.2 b4.2
  have c2 : N2 ≤ 3 * 3 := by rw [← hN2]; exact Nat.mul_le_mul b2.2 b5.2
  have c3 : N3 ≤ 3 * 3 := by rw [← hN3]; exact Nat.mul_le_mul b3.2 b6.2
  have c4 : LL ≤ 30 * 30 := by rw [← hLL]; exact Nat.mul_le_mul hl30 hs30
  have e1 : (n : Int) * (u : Int) = (N1 : Int) := by rw [← hN1]; simp
  have e2 : (m : Int) * (v : Int) = (N2 : Int) := by rw [← hN2]; simp
  have e3 : (k : Int) * (t : Int) = (N3 : Int) := by rw [← hN3]; simp
  have e4 : (qs.length : Int) * (rs.length : Int) = (LL : Int) := by rw [← hLL]; simp
  have HN1 : Hid (IntKind.i64.wrap ((n : Int) * (u : Int)) = (N1 : Int)) := Lib.hid (by rw [e1]; exact IntWalk.i64_in _ (by omega))
  have HN2 : Hid (IntKind.i64.wrap ((m : Int) * (v : Int)) = (N2 : Int)) := Lib.hid (by rw [e2]; exact IntWalk.i64_in _ (by omega))
  have HN3 : Hid (IntKind.i64.wrap ((k : Int) * (t : Int)) = (N3 : Int)) := Lib.hid (by rw [e3]; exact IntWalk.i64_in _ (by omega))
  have HLL : Hid (IntKind.i64.wrap ((qs.length : Int) * (rs.length : Int)) = (LL : Int)) := Lib.hid (by rw [e4]; exact IntWalk.i64_in _ (by omega))
  have HX := Lib.hid hx
  have HY := Lib.hid hy
  rw [hN1] at h1
  rw [hN2] at h2
  rw [hN3] at h3
  rw [hLL] at hc
  have HC : Hid (muCode P n m k qs P u v t rs = 3) := Lib.hid (by unfold muCode; rw [hx, hy, e1, e2, e3, hLL]; simp; omega)
  obtain ⟨MX, hMX⟩ : ∃ MX : Int, sMax (N1 : Nat) (N2 : Nat) (N3 : Nat) 3 = MX := ⟨_, rfl⟩
  have hmx : MX ≤ 3 := by rw [← hMX, sMax_eq]; omega
  have HMX : Hid (∀ (g : Nat) (w : World), At w g (.cells #[.int .i64 (N1 : Nat), .int .i64 (N2 : Nat), .int .i64 (N3 : Nat)] 68 (0, 0)) → Calls Try.prog 40 #[.slice (some ⟨g, 0, none⟩) 3 3] w fun e w' => e = .returned (.int .i64 MX) ∧ w = w') := Lib.hid (fun g w h => by rw [← hMX]; exact szsMax_c g _ _ _ w h)
  clear hMX
  rw [e1, e2, e3]
  have HBB := Lib.hid (⟨b1, b2, b3, b4, b5, b6⟩ : (1 ≤ n ∧ n ≤ 3) ∧ (1 ≤ m ∧ m ≤ 3) ∧ (1 ≤ k ∧ k ≤ 3) ∧ (1 ≤ u ∧ u ≤ 3) ∧ (1 ≤ v ∧ v ≤ 3) ∧ (1 ≤ t ∧ t ≤ 3))
  clear hx hy s0 s1 s2 s3 t1 t2 t3 hN1 hN2 hN3 hLL e1 e2 e3 e4 b1 b2 b3 b4 b5 b6
  go_enter Try.func16, Try.ntmps16
  go_upto_region 0 with (fail)
  refine wp_region_lit ?_
  refine ls_op rfl (fun K' hK' => ?_)
  have lz1 := hB.size
  refine wp_new (some 2) rfl (exec_box 39 _ rfl (#[.int .i64 (P : Nat), .int .i64 (n : Nat), .int .i64 (m : Nat), .int .i64 (k : Nat), .slice A qs.length c]) rfl) (fun Wz2 nnz3 => ?_)
  have bz4 := nnz3.below (Below.refl _ _) (Nat.le_refl _)
  replace hB := below_after hB bz4
  have hz5 : At Wz2 w.heap.size (.cells #[.int .i64 (P : Nat), .int .i64 (n : Nat), .int .i64 (m : Nat), .int .i64 (k : Nat), .slice A qs.length c] 39 (0, 0)) := nnz3.at_
  refine hK' _ _ ?_
  clear hK' K' nnz3 bz4
  go_frame
  refine ls_op rfl (fun K' hK' => ?_)
  have lz6 := hB.size
  have lz7 := hz5.lt
  refine wp_new (some 3) rfl (exec_box 39 _ rfl (#[.int .i64 (P : Nat), .int .i64 (u : Nat), .int .i64 (v : Nat), .int .i64 (t : Nat), .slice B rs.length d]) rfl) (fun Wz8 nnz9 => ?_)
  have bz10 := nnz9.below (Below.refl _ _) (Nat.le_refl _)
  replace hB := below_after hB bz10
  replace hz5 := hz5.after bz10
  have hz11 : At Wz8 Wz2.heap.size (.cells #[.int .i64 (P : Nat), .int .i64 (u : Nat), .int .i64 (v : Nat), .int .i64 (t : Nat), .slice B rs.length d] 39 (0, 0)) := nnz9.at_
  refine hK' _ _ ?_
  clear hK' K' nnz9 bz10
  go_frame
  refine ls_op rfl (fun K' hK' => ?_)
  have lz12 := hB.size
  have lz13 := hz5.lt
  have lz14 := hz11.lt
  refine wp_new (some 4) rfl (alV_impl_Scheme rfl) (fun Wz15 nnz16 => ?_)
  have bz17 := nnz16.below (Below.refl _ _) (Nat.le_refl _)
  replace hB := below_after hB bz17
  replace hz5 := hz5.after bz17
  replace hz11 := hz11.after bz17
  have hz18 : At Wz15 Wz8.heap.size (.cells #[.int .i64 0, .int .i64 0, .int .i64 0, .int .i64 0, .slice none 0 0] 39 (0, 0)) := nnz16.at_
  refine hK' _ _ ?_
  clear hK' K' nnz16 bz17
  go_frame
  refine ls_ex (some 5) (.int .i64 0) rfl rfl (exec_assign _ rfl (.int .i64 0) rfl) ?_
  go_frame
  refine wpList_nil ?_
  go_upto_region 1 with (fail)
  refine wp_region_lit ?_
  refine ls_ex (some 14) (.agg #[.int .i64 (P : Nat), .int .i64 (n : Nat), .int .i64 (m : Nat), .int .i64 (k : Nat), .slice A qs.length c]) rfl rfl (exec_load_all 39 _ rfl w.heap.size rfl _ _ _ hz5 Try.underlying39 rfl 5 (by kernel_rfl) rfl) ?_
  go_frame
  refine ls_op rfl (fun K' hK' => ?_)
  have lz21 := hB.size
  have lz22 := hz5.lt
  have lz23 := hz11.lt
  have lz24 := hz18.lt
  refine wp_call1 (some 15) rfl 38 _ _ rfl (fun args w => by kernel_rfl) _ rfl _ (implIsScheme_c (P : Nat) (n : Nat) (m : Nat) (k : Nat) A c qs _ (hR.keep hB) hlx) (fun e Wz19 h => ?_)
  obtain ⟨rfl, bz20⟩ := h
  replace hB := below_after hB bz20
  replace hz5 := hz5.after bz20
  replace hz11 := hz11.after bz20
  replace hz18 := hz18.after bz20
  rw [HX.out]
  clear bz20
  refine ⟨_, rfl, ?_⟩
  refine hK' _ _ ?_
  clear hK' K'
  go_frame
  refine ls_ex (some 16) (.bool false) rfl rfl (exec_not _ _ rfl true rfl) ?_
  go_frame
  refine ls_ex (some 17) (.bool false) rfl rfl (exec_move _ rfl (.bool false) rfl) ?_
  go_frame
  refine ls_ex_g (some 18) (.agg #[.int .i64 (P : Nat), .int .i64 (u : Nat), .int .i64 (v : Nat), .int .i64 (t : Nat), .slice B rs.length d]) rfl rfl (exec_load_all 39 _ rfl Wz2.heap.size rfl _ _ _ hz11 Try.underlying39 rfl 5 (by kernel_rfl) rfl) ?_
  go_frame
  refine ls_op_g rfl (fun K' hK' => ?_)
  have lz27 := hB.size
  have lz28 := hz5.lt
  have lz29 := hz11.lt
  have lz30 := hz18.lt
  refine wp_call1 (some 19) rfl 38 _ _ rfl (fun args w => by kernel_rfl) _ rfl _ (implIsScheme_c (P : Nat) (u : Nat) (v : Nat) (t : Nat) B d rs _ (hS.keep hB) hly) (fun e Wz25 h => ?_)
  obtain ⟨rfl, bz26⟩ := h
  replace hB := below_after hB bz26
  replace hz5 := hz5.after bz26
  replace hz11 := hz11.after bz26
  replace hz18 := hz18.after bz26
  rw [HY.out]
  clear bz26
  refine ⟨_, rfl, ?_⟩
  refine hK' _ _ ?_
  clear hK' K'
  go_frame
  refine ls_ex_g (some 20) (.bool false) rfl rfl (exec_not _ _ rfl true rfl) ?_
  go_frame
  refine ls_ex (some 21) (.bool false) rfl rfl (exec_pick _ _ _ rfl false rfl (.bool false) rfl) ?_
  go_frame
  refine wpList_nil ?_
  go_upto_region 3 with (fail)
  refine wp_region_lit ?_
  refine ls_ex (some 23) (.pointer (some ⟨w.heap.size, 0, none⟩)) rfl rfl (exec_fieldAddr 39 _ 0 rfl _ (by kernel_rfl)) ?_
  go_frame
  refine ls_ex (some 24) (.int .i64 (P : Nat)) rfl rfl (exec_load_one 2 _ rfl w.heap.size 0 rfl (.int .i64 (P : Nat)) _ Try.underlying2 rfl (hz5.at_ 0)) ?_
  go_frame
  refine ls_ex (some 25) (.pointer (some ⟨Wz2.heap.size, 0, none⟩)) rfl rfl (exec_fieldAddr 39 _ 0 rfl _ (by kernel_rfl)) ?_
  go_frame
  refine ls_ex (some 26) (.int .i64 (P : Nat)) rfl rfl (exec_load_one 2 _ rfl Wz2.heap.size 0 rfl (.int .i64 (P : Nat)) _ Try.underlying2 rfl (hz11.at_ 0)) ?_
  go_frame
  refine ls_ex (some 27) (.bool false) rfl rfl (exec_neq _ _ _ _ rfl ((P : Nat)) ((P : Nat)) rfl rfl false (by simp)) ?_
  go_frame
  refine wpList_nil ?_
  go_upto_region 5 with (fail)
  refine wp_region_lit ?_
  refine ls_ex (some 29) (.agg #[.int .i64 (P : Nat), .int .i64 (n : Nat), .int .i64 (m : Nat), .int .i64 (k : Nat), .slice A qs.length c]) rfl rfl (exec_load_all 39 _ rfl w.heap.size rfl _ _ _ hz5 Try.underlying39 rfl 5 (by kernel_rfl) rfl) ?_
  go_frame
  refine ls_op rfl (fun K' hK' => ?_)
  have lz33 := hB.size
  have lz34 := hz5.lt
  have lz35 := hz11.lt
  have lz36 := hz18.lt
  refine wp_call1 (some 30) rfl 39 _ _ rfl (fun args w => by kernel_rfl) _ rfl _ (sizesOf_c _ _ _ _ _ _) (fun e Wz31 h => ?_)
  obtain ⟨rfl, bz32⟩ := h
  replace hB := below_after hB bz32
  replace hz5 := hz5.after bz32
  replace hz11 := hz11.after bz32
  replace hz18 := hz18.after bz32
  clear bz32
  refine ⟨_, rfl, ?_⟩
  refine hK' _ _ ?_
  clear hK' K'
  go_frame
  refine ls_op rfl (fun K' hK' => ?_)
  have lz37 := hB.size
  have lz38 := hz5.lt
  have lz39 := hz11.lt
  have lz40 := hz18.lt
  refine wp_new (some 6) rfl (alV_impl_sizes rfl) (fun Wz41 nnz42 => ?_)
  have bz43 := nnz42.below (Below.refl _ _) (Nat.le_refl _)
  replace hB := below_after hB bz43
  replace hz5 := hz5.after bz43
  replace hz11 := hz11.after bz43
  replace hz18 := hz18.after bz43
  have hz44 : At Wz41 Wz31.heap.size (.cells #[.int .i64 0, .int .i64 0, .int .i64 0] 68 (0, 0)) := nnz42.at_
  refine hK' _ _ ?_
  clear hK' K' nnz42 bz43
  go_frame
  refine ls_op rfl (fun K' hK' => ?_)
  refine wp_store_all 68 _ _ rfl rfl Wz31.heap.size rfl #[.int .i64 (n : Nat), .int .i64 (m : Nat), .int .i64 (k : Nat)] rfl _ _ hz44 3 (by kernel_rfl) rfl rfl (by intro x hx; simp at hx; rcases hx with rfl | rfl | rfl <;> rfl) (fun Wz45 pz46 => ?_)
  replace hB := pz46.below hB (by omega)
  replace hz5 := pz46.other hz5 (by omega)
  replace hz11 := pz46.other hz11 (by omega)
  replace hz18 := pz46.other hz18 (by omega)
  replace hz44 : At Wz45 Wz31.heap.size (.cells #[.int .i64 (n : Nat), .int .i64 (m : Nat), .int .i64 (k : Nat)] 68 (0, 0)) := pz46.at_
  refine hK' _ _ ?_
  clear hK' K' pz46
  refine wpList_nil ?_
  go_upto_region 6 with (fail)
  refine wp_region_lit ?_
  refine ls_ex (some 31) (.agg #[.int .i64 (P : Nat), .int .i64 (u : Nat), .int .i64 (v : Nat), .int .i64 (t : Nat), .slice B rs.length d]) rfl rfl (exec_load_all 39 _ rfl Wz2.heap.size rfl _ _ _ hz11 Try.underlying39 rfl 5 (by kernel_rfl) rfl) ?_
  go_frame
  refine ls_op rfl (fun K' hK' => ?_)
  have lz49 := hB.size
  have lz50 := hz5.lt
  have lz51 := hz11.lt
  have lz52 := hz18.lt
  have lz53 := hz44.lt
  refine wp_call1 (some 32) rfl 39 _ _ rfl (fun args w => by kernel_rfl) _ rfl _ (sizesOf_c _ _ _ _ _ _) (fun e Wz47 h => ?_)
  obtain ⟨rfl, bz48⟩ := h
  replace hB := below_after hB bz48
  replace hz5 := hz5.after bz48
  replace hz11 := hz11.after bz48
  replace hz18 := hz18.after bz48
  replace hz44 := hz44.after bz48
  clear bz48
  refine ⟨_, rfl, ?_⟩
  refine hK' _ _ ?_
  clear hK' K'
  go_frame
  refine ls_ex (some 33) (.int .i64 0) rfl rfl (exec_move _ rfl (.int .i64 0) rfl) ?_
  go_frame
  refine wpList_nil ?_
  go_wp2_with fail
  go_loopw [33] (fun s33 wr => ∃ i : Nat, i ≤ 3 ∧ s33 = .int .i64 i ∧ Below w.heap.size w wr ∧ At wr w.heap.size (.cells #[.int .i64 (P : Nat), .int .i64 (n : Nat), .int .i64 (m : Nat), .int .i64 (k : Nat), .slice A qs.length c] 39 (0, 0)) ∧ At wr Wz2.heap.size (.cells #[.int .i64 (P : Nat), .int .i64 (u : Nat), .int .i64 (v : Nat), .int .i64 (t : Nat), .slice B rs.length d] 39 (0, 0)) ∧ At wr Wz8.heap.size (.cells #[.int .i64 0, .int .i64 0, .int .i64 0, .int .i64 0, .slice none 0 0] 39 (0, 0)) ∧ At wr Wz31.heap.size (.cells #[.int .i64 (mxS i 0 n N1 : Nat), .int .i64 (mxS i 1 m N2 : Nat), .int .i64 (mxS i 2 k N3 : Nat)] 68 (0, 0))) (fun s33 _ => 3 - (intOf s33).toNat)
  case atStart => exact ⟨0, by omega, rfl, hB, hz5, hz11, hz18, hz44⟩
  case round =>
    clear hB hz5 hz11 hz18 hz44
    obtain ⟨i, hle, rfl, hB, h2, h3, h4, h6⟩ := hrel
    rcases (show i = 0 ∨ i = 1 ∨ i = 2 ∨ i = 3 by omega) with rfl | rfl | rfl | rfl
    · go_upto_region 7 with (fail)
      refine wp_region_lit ?_
      refine ls_ex (some 34) (.bool true) rfl rfl (exec_lss _ _ _ _ rfl 0 3 rfl rfl true rfl) ?_
      go_frame
      refine wpList_nil ?_
      go_upto_region 8 with (fail)
      refine wp_region_lit ?_
      refine ls_ex (some 35) (.int .i64 0) rfl rfl (exec_move _ rfl (.int .i64 0) rfl) ?_
      go_frame
      refine ls_ex (some 36) (.int .i64 (u : Nat)) rfl rfl (exec_index_arr3 68 2 _ _ rfl 3 0 _ _ rfl rfl Try.underlying68 _ Try.underlying2 rfl (by kernel_rfl) (by omega) rfl) ?_
      go_frame
      refine ls_ex (some 7) (.int .i64 0) rfl rfl (exec_assign _ rfl (.int .i64 0) rfl) ?_
      go_frame
      refine ls_ex (some 8) (.int .i64 (u : Nat)) rfl rfl (exec_assign _ rfl (.int .i64 (u : Nat)) rfl) ?_
      go_frame
      refine wpList_nil ?_
      go_upto_region 9 with (fail)
      refine wp_region_lit ?_
      refine ls_ex (some 37) (.int .i64 0) rfl rfl (exec_move _ rfl (.int .i64 0) rfl) ?_
      go_frame
      refine ls_ex (some 38) (.pointer (some ⟨Wz31.heap.size, 0, none⟩)) rfl rfl (exec_index_arr _ 2 _ _ rfl Wz31.heap.size 0 3 0 1 rfl rfl Try.underlying68 (by kernel_rfl) (by omega)) ?_
      go_frame
      refine ls_ex (some 39) (.int .i64 (mxS 0 0 n N1 : Nat)) rfl rfl (exec_load_one 2 _ rfl Wz31.heap.size 0 rfl (.int .i64 (mxS 0 0 n N1 : Nat)) _ Try.underlying2 rfl (h6.at_ 0)) ?_
      go_frame
      refine ls_ex (some 40) (.int .i64 (u : Nat)) rfl rfl (exec_move _ rfl (.int .i64 (u : Nat)) rfl) ?_
      go_frame
      refine ls_ex (some 41) (.int .i64 (N1 : Nat)) rfl rfl (exec_mul _ _ _ _ rfl (n : Nat) (u : Nat) (N1 : Nat) rfl rfl HN1.out) ?_
      go_frame
      refine ls_ex (some 42) (.pointer (some ⟨Wz31.heap.size, 0, none⟩)) rfl rfl (exec_index_arr _ 2 _ _ rfl Wz31.heap.size 0 3 0 1 rfl rfl Try.underlying68 (by kernel_rfl) (by omega)) ?_
      go_frame
      refine ls_op rfl (fun K' hK' => ?_)
      refine wp_store_one 2 _ _ rfl rfl Wz31.heap.size 0 rfl (.int .i64 (N1 : Nat)) rfl rfl rfl _ _ h6 (by kernel_rfl) (by simp) (fun Wz54 pz55 => ?_)
      replace hB := pz55.below hB (by omega)
      replace h2 := pz55.other h2 (by omega)
      replace h3 := pz55.other h3 (by omega)
      replace h4 := pz55.other h4 (by omega)
      replace h6 : At Wz54 Wz31.heap.size (.cells #[.int .i64 (N1 : Nat), .int .i64 (mxS 0 1 m N2 : Nat), .int .i64 (mxS 0 2 k N3 : Nat)] 68 (0, 0)) := pz55.at_
      refine hK' _ _ ?_
      clear hK' K' pz55
      refine wpList_nil ?_
      go_upto_region 10 with (fail)
      refine wp_region_lit ?_
      refine ls_ex (some 43) (.int .i64 1) rfl rfl (exec_add _ _ _ _ rfl 0 1 1 rfl rfl rfl) ?_
      go_frame
      refine ls_ex (some 33) (.int .i64 1) rfl rfl (exec_move _ rfl (.int .i64 1) rfl) ?_
      go_frame
      refine wpList_nil ?_
      go_wp2_with fail
      go_roundw
      case rel => exact ⟨1, by omega, by go_num, hB, h2, h3, h4, h6⟩
      case measure => simp [intOf]
    · go_upto_region 7 with (fail)
      refine wp_region_lit ?_
      refine ls_ex (some 34) (.bool true) rfl rfl (exec_lss _ _ _ _ rfl 1 3 rfl rfl true rfl) ?_
      go_frame
      refine wpList_nil ?_
      go_upto_region 8 with (fail)
      refine wp_region_lit ?_
      refine ls_ex (some 35) (.int .i64 1) rfl rfl (exec_move _ rfl (.int .i64 1) rfl) ?_
      go_frame
      refine ls_ex (some 36) (.int .i64 (v : Nat)) rfl rfl (exec_index_arr3 68 2 _ _ rfl 3 1 _ _ rfl rfl Try.underlying68 _ Try.underlying2 rfl (by kernel_rfl) (by omega) rfl) ?_
      go_frame
      refine ls_ex (some 7) (.int .i64 1) rfl rfl (exec_assign _ rfl (.int .i64 1) rfl) ?_
      go_frame
      refine ls_ex (some 8) (.int .i64 (v : Nat)) rfl rfl (exec_assign _ rfl (.int .i64 (v : Nat)) rfl) ?_
      go_frame
      refine wpList_nil ?_
      go_upto_region 9 with (fail)
      refine wp_region_lit ?_
      refine ls_ex (some 37) (.int .i64 1) rfl rfl (exec_move _ rfl (.int .i64 1) rfl) ?_
      go_frame
      refine ls_ex (some 38) (.pointer (some ⟨Wz31.heap.size, 1, none⟩)) rfl rfl (exec_index_arr _ 2 _ _ rfl Wz31.heap.size 0 3 1 1 rfl rfl Try.underlying68 (by kernel_rfl) (by omega)) ?_
      go_frame
      refine ls_ex (some 39) (.int .i64 (mxS 1 1 m N2 : Nat)) rfl rfl (exec_load_one 2 _ rfl Wz31.heap.size 1 rfl (.int .i64 (mxS 1 1 m N2 : Nat)) _ Try.underlying2 rfl (h6.at_ 1)) ?_
      go_frame
      refine ls_ex (some 40) (.int .i64 (v : Nat)) rfl rfl (exec_move _ rfl (.int .i64 (v : Nat)) rfl) ?_
      go_frame
      refine ls_ex (some 41) (.int .i64 (N2 : Nat)) rfl rfl (exec_mul _ _ _ _ rfl (m : Nat) (v : Nat) (N2 : Nat) rfl rfl HN2.out) ?_
      go_frame
      refine ls_ex (some 42) (.pointer (some ⟨Wz31.heap.size, 1, none⟩)) rfl rfl (exec_index_arr _ 2 _ _ rfl Wz31.heap.size 0 3 1 1 rfl rfl Try.underlying68 (by kernel_rfl) (by omega)) ?_
      go_frame
      refine ls_op rfl (fun K' hK' => ?_)
      refine wp_store_one 2 _ _ rfl rfl Wz31.heap.size 1 rfl (.int .i64 (N2 : Nat)) rfl rfl rfl _ _ h6 (by kernel_rfl) (by simp) (fun Wz56 pz57 => ?_)
      replace hB := pz57.below hB (by omega)
      replace h2 := pz57.other h2 (by omega)
      replace h3 := pz57.other h3 (by omega)
      replace h4 := pz57.other h4 (by omega)
      replace h6 : At Wz56 Wz31.heap.size (.cells #[.int .i64 (mxS 1 0 n N1 : Nat), .int .i64 (N2 : Nat), .int .i64 (mxS 1 2 k N3 : Nat)] 68 (0, 0)) := pz57.at_
      refine hK' _ _ ?_
      clear hK' K' pz57
      refine wpList_nil ?_
      go_upto_region 10 with (fail)
      refine wp_region_lit ?_
      refine ls_ex (some 43) (.int .i64 2) rfl rfl (exec_add _ _ _ _ rfl 1 1 2 rfl rfl rfl) ?_
      go_frame
      refine ls_ex (some 33) (.int .i64 2) rfl rfl (exec_move _ rfl (.int .i64 2) rfl) ?_
      go_frame
      refine wpList_nil ?_
      go_wp2_with fail
      go_roundw
      case rel => exact ⟨2, by omega, by go_num, hB, h2, h3, h4, h6⟩
      case measure => simp [intOf]
    · go_upto_region 7 with (fail)
      refine wp_region_lit ?_
      refine ls_ex (some 34) (.bool true) rfl rfl (exec_lss _ _ _ _ rfl 2 3 rfl rfl true rfl) ?_
      go_frame
      refine wpList_nil ?_
      go_upto_region 8 with (fail)
      refine wp_region_lit ?_
      refine ls_ex (some 35) (.int .i64 2) rfl rfl (exec_move _ rfl (.int .i64 2) rfl) ?_
      go_frame
      refine ls_ex (some 36) (.int .i64 (t : Nat)) rfl rfl (exec_index_arr3 68 2 _ _ rfl 3 2 _ _ rfl rfl Try.underlying68 _ Try.underlying2 rfl (by kernel_rfl) (by omega) rfl) ?_
      go_frame
      refine ls_ex (some 7) (.int .i64 2) rfl rfl (exec_assign _ rfl (.int .i64 2) rfl) ?_
      go_frame
      refine ls_ex (some 8) (.int .i64 (t : Nat)) rfl rfl (exec_assign _ rfl (.int .i64 (t : Nat)) rfl) ?_
      go_frame
      refine wpList_nil ?_
      go_upto_region 9 with (fail)
      refine wp_region_lit ?_
      refine ls_ex (some 37) (.int .i64 2) rfl rfl (exec_move _ rfl (.int .i64 2) rfl) ?_
      go_frame
      refine ls_ex (some 38) (.pointer (some ⟨Wz31.heap.size, 2, none⟩)) rfl rfl (exec_index_arr _ 2 _ _ rfl Wz31.heap.size 0 3 2 1 rfl rfl Try.underlying68 (by kernel_rfl) (by omega)) ?_
      go_frame
      refine ls_ex (some 39) (.int .i64 (mxS 2 2 k N3 : Nat)) rfl rfl (exec_load_one 2 _ rfl Wz31.heap.size 2 rfl (.int .i64 (mxS 2 2 k N3 : Nat)) _ Try.underlying2 rfl (h6.at_ 2)) ?_
      go_frame
      refine ls_ex (some 40) (.int .i64 (t : Nat)) rfl rfl (exec_move _ rfl (.int .i64 (t : Nat)) rfl) ?_
      go_frame
      refine ls_ex (some 41) (.int .i64 (N3 : Nat)) rfl rfl (exec_mul _ _ _ _ rfl (k : Nat) (t : Nat) (N3 : Nat) rfl rfl HN3.out) ?_
      go_frame
      refine ls_ex (some 42) (.pointer (some ⟨Wz31.heap.size, 2, none⟩)) rfl rfl (exec_index_arr _ 2 _ _ rfl Wz31.heap.size 0 3 2 1 rfl rfl Try.underlying68 (by kernel_rfl) (by omega)) ?_
      go_frame
      refine ls_op rfl (fun K' hK' => ?_)
      refine wp_store_one 2 _ _ rfl rfl Wz31.heap.size 2 rfl (.int .i64 (N3 : Nat)) rfl rfl rfl _ _ h6 (by kernel_rfl) (by simp) (fun Wz58 pz59 => ?_)
      replace hB := pz59.below hB (by omega)
      replace h2 := pz59.other h2 (by omega)
      replace h3 := pz59.other h3 (by omega)
      replace h4 := pz59.other h4 (by omega)
      replace h6 : At Wz58 Wz31.heap.size (.cells #[.int .i64 (mxS 2 0 n N1 : Nat), .int .i64 (mxS 2 1 m N2 : Nat), .int .i64 (N3 : Nat)] 68 (0, 0)) := pz59.at_
      refine hK' _ _ ?_
      clear hK' K' pz59
      refine wpList_nil ?_
      go_upto_region 10 with (fail)
      refine wp_region_lit ?_
      refine ls_ex (some 43) (.int .i64 3) rfl rfl (exec_add _ _ _ _ rfl 2 1 3 rfl rfl rfl) ?_
      go_frame
      refine ls_ex (some 33) (.int .i64 3) rfl rfl (exec_move _ rfl (.int .i64 3) rfl) ?_
      go_frame
      refine wpList_nil ?_
      go_wp2_with fail
      go_roundw
      case rel => exact ⟨3, by omega, by go_num, hB, h2, h3, h4, h6⟩
      case measure => simp [intOf]
    · replace h6 : At wr Wz31.heap.size (.cells #[.int .i64 (N1 : Nat), .int .i64 (N2 : Nat), .int .i64 (N3 : Nat)] 68 (0, 0)) := h6
      obtain ⟨wk, rfl⟩ : ∃ x : World, x = wr := ⟨_, rfl⟩
      go_upto_region 7 with (fail)
      refine wp_region_lit ?_
      refine ls_ex (some 34) (.bool false) rfl rfl (exec_lss _ _ _ _ rfl 3 3 rfl rfl false rfl) ?_
      go_frame
      refine wpList_nil ?_
      go_upto_region 11 with (fail)
      refine wp_region_lit ?_
      refine ls_ex (some 44) (.slice (some ⟨Wz31.heap.size, 0, none⟩) 3 3) rfl rfl (exec_slice_sz _ rfl Wz31.heap.size rfl) ?_
      go_frame
      refine ls_op rfl (fun K' hK' => ?_)
      have lz62 := hB.size
      have lz63 := h2.lt
      have lz64 := h3.lt
      have lz65 := h4.lt
      have lz66 := h6.lt
      refine wp_call1 (some 45) rfl 40 _ _ rfl (fun args w => by kernel_rfl) _ rfl _ (HMX.out _ _ h6) (fun e Wz60 h => ?_)
      obtain ⟨rfl, rfl⟩ := h
      refine ⟨_, rfl, ?_⟩
      refine hK' _ _ ?_
      clear hK' K'
      go_frame
      refine ls_ex (some 46) (.bool false) rfl rfl (exec_gtr _ _ _ _ rfl MX 3 rfl rfl false (decide_eq_false (by omega))) ?_
      go_frame
      refine ls_ex (some 47) (.bool false) rfl rfl (exec_move _ rfl (.bool false) rfl) ?_
      go_frame
      refine ls_ex_g (some 48) (.pointer (some ⟨w.heap.size, 4, none⟩)) rfl rfl (exec_fieldAddr 39 _ 4 rfl _ (by kernel_rfl)) ?_
      go_frame
      refine ls_ex_g (some 49) (.slice A qs.length c) rfl rfl (exec_load_one 26 _ rfl w.heap.size 4 rfl (.slice A qs.length c) _ Try.underlying26 rfl (h2.at_ 4)) ?_
      go_frame
      refine ls_ex_g (some 50) (.int .i64 qs.length) rfl rfl (exec_len _ 26 53 rfl A qs.length c rfl Try.underlying26) ?_
      go_frame
      refine ls_ex_g (some 51) (.pointer (some ⟨Wz2.heap.size, 4, none⟩)) rfl rfl (exec_fieldAddr 39 _ 4 rfl _ (by kernel_rfl)) ?_
      go_frame
      refine ls_ex_g (some 52) (.slice B rs.length d) rfl rfl (exec_load_one 26 _ rfl Wz2.heap.size 4 rfl (.slice B rs.length d) _ Try.underlying26 rfl (h3.at_ 4)) ?_
      go_frame
      refine ls_ex_g (some 53) (.int .i64 rs.length) rfl rfl (exec_len _ 26 53 rfl B rs.length d rfl Try.underlying26) ?_
      go_frame
      refine ls_ex_g (some 54) (.int .i64 (LL : Nat)) rfl rfl (exec_mul _ _ _ _ rfl (qs.length : Nat) (rs.length : Nat) (LL : Nat) rfl rfl HLL.out) ?_
      go_frame
      refine ls_ex_g (some 55) (.bool true) rfl rfl (exec_gtr _ _ _ _ rfl ((LL : Nat)) 30 rfl rfl true (decide_eq_true (by omega))) ?_
      go_frame
      refine ls_ex (some 56) (.bool true) rfl rfl (exec_pick _ _ _ rfl false rfl (.bool true) rfl) ?_
      go_frame
      refine wpList_nil ?_
      go_upto_region 12 with (fail)
      refine wp_region_lit ?_
      refine ls_ex (some 57) (.agg #[.int .i64 0, .int .i64 0, .int .i64 0, .int .i64 0, .slice none 0 0]) rfl rfl (exec_build_sch0 rfl) ?_
      go_frame
      refine ls_op rfl (fun K' hK' => ?_)
      refine wp_store_all 39 _ _ rfl rfl Wz8.heap.size rfl #[.int .i64 0, .int .i64 0, .int .i64 0, .int .i64 0, .slice none 0 0] rfl _ _ h4 5 (by kernel_rfl) rfl rfl (one5 _ _ _ _ _ _ _) (fun Wz67 pz68 => ?_)
      replace hB := pz68.below hB (by omega)
      replace h2 := pz68.other h2 (by omega)
      replace h3 := pz68.other h3 (by omega)
      replace h6 := pz68.other h6 (by omega)
      replace h4 : At Wz67 Wz8.heap.size (.cells #[.int .i64 0, .int .i64 0, .int .i64 0, .int .i64 0, .slice none 0 0] 39 (0, 0)) := pz68.at_
      refine hK' _ _ ?_
      clear hK' K' pz68
      refine ls_ex (some 5) (.int .i64 3) rfl rfl (exec_assign _ rfl (.int .i64 3) rfl) ?_
      go_frame
      refine wpList_nil ?_
      go_wp2_with fail
      refine bodyPost_ret (results_at2 rfl _ _ Wz8.heap.size _ _ _ rfl _ rfl h4 Try.underlying39 rfl 5 (by kernel_rfl) rfl) rfl ?_
      unfold ResS muZ muL
      rw [HC.out]
      exact ⟨_, rfl, Own.nil _ _, hB⟩
set_option maxHeartbeats 25600000 in
theorem implMu_y (P n m k : Nat) (A : Option Addr) (c : Nat) (qs : List (List Nat)) (u v t : Nat) (B : Option Addr) (d : Nat) (rs : List (List Nat)) (w : World) (hR : Rd w A qs) (hlx : qs.length ≤ 1048576) (hS : Rd w B rs) (hly : rs.length ≤ 1048576) (hx : schemeB P n m k qs = true) (hy : schemeB P u v t rs = true) (h1 : n * u ≤ 3) (h2 : m * v ≤ 3) (h3 : k * t ≤ 3) (h4 : qs.length * rs.length ≤ 30) :
    Calls Try.prog 16 #[.agg #[.int .i64 (P : Nat), .int .i64 (n : Nat), .int .i64 (m : Nat), .int .i64 (k : Nat), .slice A qs.length c], .agg #[.int .i64 (P : Nat), .int .i64 (u : Nat), .int .i64 (v : Nat), .int .i64 (t : Nat), .slice B rs.length d]] w (ResS w (muZ (muCode P n m k qs P u v t rs) P) (muZ (muCode P n m k qs P u v t rs) (n * u)) (muZ (muCode P n m k qs P u v t rs) (m * v)) (muZ (muCode P n m k qs P u v t rs) (k * t)) (muL (muCode P n m k qs P u v t rs) (muR P n m k u v t qs rs)) (muCode P n m k qs P u v t rs)) := by
  have hB := Below.refl w.heap.size w
  have hl30 := schemeB_len hx
  have hs30 := schemeB_len hy
  obtain ⟨s0, s1, s2, s3⟩ := sizesB_parts (schemeB_sizes hx)
  obtain ⟨_, t1, t2, t3⟩ := sizesB_parts (schemeB_sizes hy)
  have hP : 2 ≤ P ∧ P ≤ 5 := by have := prime_le5 s0; omega
  have b1 : 1 ≤ n ∧ n ≤ 3 := by simp only [sizeB, Bool.and_eq_true, decide_eq_true_eq] at s1; omega
  have b2 : 1 ≤ m ∧ m ≤ 3 := by simp only [sizeB, Bool.and_eq_true, decide_eq_true_eq] at s2; omega
  have b3 : 1 ≤ k ∧ k ≤ 3 := by simp only [sizeB, Bool.and_eq_true, decide_eq_true_eq] at s3; omega
  have b4 : 1 ≤ u ∧ u ≤ 3 := by simp only [sizeB, Bool.and_eq_true, decide_eq_true_eq] at t1; omega
  have b5 : 1 ≤ v ∧ v ≤ 3 := by simp only [sizeB, Bool.and_eq_true, decide_eq_true_eq] at t2; omega
  have b6 : 1 ≤ t ∧ t ≤ 3 := by simp only [sizeB, Bool.and_eq_true, decide_eq_true_eq] at t3; omega
  obtain ⟨N1, hN1⟩ : ∃ N, n * u = N := ⟨_, rfl⟩
  obtain ⟨N2, hN2⟩ : ∃ N, m * v = N := ⟨_, rfl⟩
  obtain ⟨N3, hN3⟩ : ∃ N, k * t = N := ⟨_, rfl⟩
  obtain ⟨LL, hLL⟩ : ∃ N, qs.length * rs.length = N := ⟨_, rfl⟩
  have c1 : N1 ≤ 3 * 3 := by rw [← hN1]; exact Nat.mul_le_mul b1.2 b4.2
  have c2 : N2 ≤ 3 * 3 := by rw [← hN2]; exact Nat.mul_le_mul b2.2 b5.2
  have c3 : N3 ≤ 3 * 3 := by rw [← hN3]; exact Nat.mul_le_mul b3.2 b6.2
  have c4 : LL ≤ 30 * 30 := by rw [← hLL]; exact Nat.mul_le_mul hl30 hs30
  have e1 : (n : Int) * (u : Int) = (N1 : Int) := by rw [← hN1]; simp
  have e2 : (m : Int) * (v : Int) = (N2 : Int) := by rw [← hN2]; simp
  have e3 : (k : Int) * (t : Int) = (N3 : Int) := by rw [← hN3]; simp
  have e4 : (qs.length : Int) * (rs.length : Int) = (LL : Int) := by rw [← hLL]; simp
  have HN1 : Hid (IntKind.i64.wrap ((n : Int) * (u : Int)) = (N1 : Int)) := Lib.hid (by rw [e1]; exact IntWalk.i64_in _ (by omega))
  have HN2 : Hid (IntKind.i64.wrap ((m : Int) * (v : Int)) = (N2 : Int)) := Lib.hid (by rw [e2]; exact IntWalk.i64_in _ (by omega))
  have HN3 : Hid (IntKind.i64.wrap ((k : Int) * (t : Int)) = (N3 : Int)) := Lib.hid (by rw [e3]; exact IntWalk.i64_in _ (by omega))
  have HLL : Hid (IntKind.i64.wrap ((qs.length : Int) * (rs.length : Int)) = (LL : Int)) := Lib.hid (by rw [e4]; exact IntWalk.i64_in _ (by omega))
  have HX := Lib.hid hx
  have HY := Lib.hid hy
  rw [hN1] at h1
  rw [hN2] at h2
  rw [hN3] at h3
  rw [hLL] at h4
  have HC : Hid (muCode P n m k qs P u v t rs = 0) := Lib.hid (by unfold muCode; rw [hx, hy, e1, e2, e3, hLL]; simp; omega)
  have HK0 : Hid (okK n m u v = true) := Lib.hid (okK_of b1.1 b2.1 b4.1 b5.1 (by rw [hN1]; exact h1) (by rw [hN2]; exact h2))
  have HK9 : Hid (okK m k v t = true) := Lib.hid (okK_of b2.1 b3.1 b5.1 b6.1 (by rw [hN2]; exact h2) (by rw [hN3]; exact h3))
  have HK18 : Hid (okK n k u t = true) := Lib.hid (okK_of b1.1 b3.1 b4.1 b6.1 (by rw [hN1]; exact h1) (by rw [hN3]; exact h3))
  obtain ⟨MX, hMX⟩ : ∃ MX : Int, sMax (N1 : Nat) (N2 : Nat) (N3 : Nat) 3 = MX := ⟨_, rfl⟩
  have hmx : MX ≤ 3 := by rw [← hMX, sMax_eq]; omega
  have HMX : Hid (∀ (g : Nat) (w : World), At w g (.cells #[.int .i64 (N1 : Nat), .int .i64 (N2 : Nat), .int .i64 (N3 : Nat)] 68 (0, 0)) → Calls Try.prog 40 #[.slice (some ⟨g, 0, none⟩) 3 3] w fun e w' => e = .returned (.int .i64 MX) ∧ w = w') := Lib.hid (fun g w h => by rw [← hMX]; exact szsMax_c g _ _ _ w h)
  clear hMX
  rw [e1, e2, e3]
  have HBB := Lib.hid (⟨b1, b2, b3, b4, b5, b6⟩ : (1 ≤ n ∧ n ≤ 3) ∧ (1 ≤ m ∧ m ≤ 3) ∧ (1 ≤ k ∧ k ≤ 3) ∧ (1 ≤ u ∧ u ≤ 3) ∧ (1 ≤ v ∧ v ≤ 3) ∧ (1 ≤ t ∧ t ≤ 3))
  clear hx hy s0 s1 s2 s3 t1 t2 t3 hN1 hN2 hN3 hLL e1 e2 e3 e4 b1 b2 b3 b4 b5 b6
  go_enter Try.func16, Try.ntmps16
  go_upto_region 0 with (fail)
  refine wp_region_lit ?_
  refine ls_op rfl (fun K' hK' => ?_)
  have lz1 := hB.size
  refine wp_new (some 2) rfl (exec_box 39 _ rfl (#[.int .i64 (P : Nat), .int .i64 (n : Nat), .int .i64 (m : Nat), .int .i64 (k : Nat), .slice A qs.length c]) rfl) (fun Wz2 nnz3 => ?_)
  have bz4 := nnz3.below (Below.refl _ _) (Nat.le_refl _)
  replace hB := below_after hB bz4
  have hz5 : At Wz2 w.heap.size (.cells #[.int .i64 (P : Nat), .int .i64 (n : Nat), .int .i64 (m : Nat), .int .i64 (k : Nat), .slice A qs.length c] 39 (0, 0)) := nnz3.at_
  refine hK' _ _ ?_
  clear hK' K' nnz3 bz4
  go_frame
  refine ls_op rfl (fun K' hK' => ?_)
  have lz6 := hB.size
  have lz7 := hz5.lt
  refine wp_new (some 3) rfl (exec_box 39 _ rfl (#[.int .i64 (P : Nat), .int .i64 (u : Nat), .int .i64 (v : Nat), .int .i64 (t : Nat), .slice B rs.length d]) rfl) (fun Wz8 nnz9 => ?_)
  have bz10 := nnz9.below (Below.refl _ _) (Nat.le_refl _)
  replace hB := below_after hB bz10
  replace hz5 := hz5.after bz10
  have hz11 : At Wz8 Wz2.heap.size (.cells #[.int .i64 (P : Nat), .int .i64 (u : Nat), .int .i64 (v : Nat), .int .i64 (t : Nat), .slice B rs.length d] 39 (0, 0)) := nnz9.at_
  refine hK' _ _ ?_
  clear hK' K' nnz9 bz10
  go_frame
  refine ls_op rfl (fun K' hK' => ?_)
  have lz12 := hB.size
  have lz13 := hz5.lt
  have lz14 := hz11.lt
  refine wp_new (some 4) rfl (alV_impl_Scheme rfl) (fun Wz15 nnz16 => ?_)
  have bz17 := nnz16.below (Below.refl _ _) (Nat.le_refl _)
  replace hB := below_after hB bz17
  replace hz5 := hz5.after bz17
  replace hz11 := hz11.after bz17
  have hz18 : At Wz15 Wz8.heap.size (.cells #[.int .i64 0, .int .i64 0, .int .i64 0, .int .i64 0, .slice none 0 0] 39 (0, 0)) := nnz16.at_
  refine hK' _ _ ?_
  clear hK' K' nnz16 bz17
  go_frame
  refine ls_ex (some 5) (.int .i64 0) rfl rfl (exec_assign _ rfl (.int .i64 0) rfl) ?_
  go_frame
  refine wpList_nil ?_
  go_upto_region 1 with (fail)
  refine wp_region_lit ?_
  refine ls_ex (some 14) (.agg #[.int .i64 (P : Nat), .int .i64 (n : Nat), .int .i64 (m : Nat), .int .i64 (k : Nat), .slice A qs.length c]) rfl rfl (exec_load_all 39 _ rfl w.heap.size rfl _ _ _ hz5 Try.underlying39 rfl 5 (by kernel_rfl) rfl) ?_
  go_frame
  refine ls_op rfl (fun K' hK' => ?_)
  have lz21 := hB.size
  have lz22 := hz5.lt
  have lz23 := hz11.lt
  have lz24 := hz18.lt
  refine wp_call1 (some 15) rfl 38 _ _ rfl (fun args w => by kernel_rfl) _ rfl _ (implIsScheme_c (P : Nat) (n : Nat) (m : Nat) (k : Nat) A c qs _ (hR.keep hB) hlx) (fun e Wz19 h => ?_)
  obtain ⟨rfl, bz20⟩ := h
  replace hB := below_after hB bz20
  replace hz5 := hz5.after bz20
  replace hz11 := hz11.after bz20
  replace hz18 := hz18.after bz20
  rw [HX.out]
  clear bz20
  refine ⟨_, rfl, ?_⟩
  refine hK' _ _ ?_
  clear hK' K'
  go_frame
  refine ls_ex (some 16) (.bool false) rfl rfl (exec_not _ _ rfl true rfl) ?_
  go_frame
  refine ls_ex (some 17) (.bool false) rfl rfl (exec_move _ rfl (.bool false) rfl) ?_
  go_frame
  refine ls_ex_g (some 18) (.agg #[.int .i64 (P : Nat), .int .i64 (u : Nat), .int .i64 (v : Nat), .int .i64 (t : Nat), .slice B rs.length d]) rfl rfl (exec_load_all 39 _ rfl Wz2.heap.size rfl _ _ _ hz11 Try.underlying39 rfl 5 (by kernel_rfl) rfl) ?_
  go_frame
  refine ls_op_g rfl (fun K' hK' => ?_)
  have lz27 := hB.size
  have lz28 := hz5.lt
  have lz29 := hz11.lt
  have lz30 := hz18.lt
  refine wp_call1 (some 19) rfl 38 _ _ rfl (fun args w => by kernel_rfl) _ rfl _ (implIsScheme_c (P : Nat) (u : Nat) (v : Nat) (t : Nat) B d rs _ (hS.keep hB) hly) (fun e Wz25 h => ?_)
  obtain ⟨rfl, bz26⟩ := h
  replace hB := below_after hB bz26
  replace hz5 := hz5.after bz26
  replace hz11 := hz11.after bz26
  replace hz18 := hz18.after bz26
  rw [HY.out]
  clear bz26
  refine ⟨_, rfl, ?_⟩
  refine hK' _ _ ?_
  clear hK' K'
  go_frame
  refine ls_ex_g (some 20) (.bool false) rfl rfl (exec_not _ _ rfl true rfl) ?_
  go_frame
  refine ls_ex (some 21) (.bool false) rfl rfl (exec_pick _ _ _ rfl false rfl (.bool false) rfl) ?_
  go_frame
  refine wpList_nil ?_
  go_upto_region 3 with (fail)
  refine wp_region_lit ?_
  refine ls_ex (some 23) (.pointer (some ⟨w.heap.size, 0, none⟩)) rfl rfl (exec_fieldAddr 39 _ 0 rfl _ (by kernel_rfl)) ?_
  go_frame
  refine ls_ex (some 24) (.int .i64 (P : Nat)) rfl rfl (exec_load_one 2 _ rfl w.heap.size 0 rfl (.int .i64 (P : Nat)) _ Try.underlying2 rfl (hz5.at_ 0)) ?_
  go_frame
  refine ls_ex (some 25) (.pointer (some ⟨Wz2.heap.size, 0, none⟩)) rfl rfl (exec_fieldAddr 39 _ 0 rfl _ (by kernel_rfl)) ?_
  go_frame
  refine ls_ex (some 26) (.int .i64 (P : Nat)) rfl rfl (exec_load_one 2 _ rfl Wz2.heap.size 0 rfl (.int .i64 (P : Nat)) _ Try.underlying2 rfl (hz11.at_ 0)) ?_
  go_frame
  refine ls_ex (some 27) (.bool false) rfl rfl (exec_neq _ _ _ _ rfl ((P : Nat)) ((P : Nat)) rfl rfl false (by simp)) ?_
  go_frame
  refine wpList_nil ?_
  go_upto_region 5 with (fail)
  refine wp_region_lit ?_
  refine ls_ex (some 29) (.agg #[.int .i64 (P : Nat), .int .i64 (n : Nat), .int .i64 (m : Nat), .int .i64 (k : Nat), .slice A qs.length c]) rfl rfl (exec_load_all 39 _ rfl w.heap.size rfl _ _ _ hz5 Try.underlying39 rfl 5 (by kernel_rfl) rfl) ?_
  go_frame
  refine ls_op rfl (fun K' hK' => ?_)
  have lz33 := hB.size
  have lz34 := hz5.lt
  have lz35 := hz11.lt
  have lz36 := hz18.lt
  refine wp_call1 (some 30) rfl 39 _ _ rfl (fun args w => by kernel_rfl) _ rfl _ (sizesOf_c _ _ _ _ _ _) (fun e Wz31 h => ?_)
  obtain ⟨rfl, bz32⟩ := h
  replace hB := below_after hB bz32
  replace hz5 := hz5.after bz32
  replace hz11 := hz11.after bz32
  replace hz18 := hz18.after bz32
  clear bz32
  refine ⟨_, rfl, ?_⟩
  refine hK' _ _ ?_
  clear hK' K'
  go_frame
  refine ls_op rfl (fun K' hK' => ?_)
  have lz37 := hB.size
  have lz38 := hz5.lt
  have lz39 := hz11.lt
  have lz40 := hz18.lt
  refine wp_new (some 6) rfl (alV_impl_sizes rfl) (fun Wz41 nnz42 => ?_)
  have bz43 := nnz42.below (Below.refl _ _) (Nat.le_refl _)
  replace hB := below_after hB bz43
  replace hz5 := hz5.after bz43
  replace hz11 := hz11.after bz43
  replace hz18 := hz18.after bz43
  have hz44 : At Wz41 Wz31.heap.size (.cells #[.int .i64 0, .int .i64 0, .int .i64 0] 68 (0, 0)) := nnz42.at_
  refine hK' _ _ ?_
  clear hK' K' nnz42 bz43
  go_frame
  refine ls_op rfl (fun K' hK' => ?_)
  refine wp_store_all 68 _ _ rfl rfl Wz31.heap.size rfl #[.int .i64 (n : Nat), .int .i64 (m : Nat), .int .i64 (k : Nat)] rfl _ _ hz44 3 (by kernel_rfl) rfl rfl (by intro x hx; simp at hx; rcases hx with rfl | rfl | rfl <;> rfl) (fun Wz45 pz46 => ?_)
  replace hB := pz46.below hB (by omega)
  replace hz5 := pz46.other hz5 (by omega)
  replace hz11 := pz46.other hz11 (by omega)
  replace hz18 := pz46.other hz18 (by omega)
  replace hz44 : At Wz45 Wz31.heap.size (.cells #[.int .i64 (n : Nat), .int .i64 (m : Nat), .int .i64 (k : Nat)] 68 (0, 0)) := pz46.at_
  refine hK' _ _ ?_
  clear hK' K' pz46
  refine wpList_nil ?_
  go_upto_region 6 with (fail)
  refine wp_region_lit ?_
  refine ls_ex (some 31) (.agg #[.int .i64 (P : Nat), .int .i64 (u : Nat), .int .i64 (v : Nat), .int .i64 (t : Nat), .slice B rs.length d]) rfl rfl (exec_load_all 39 _ rfl Wz2.heap.size rfl _ _ _ hz11 Try.underlying39 rfl 5 (by kernel_rfl) rfl) ?_
  go_frame
  refine ls_op rfl (fun K' hK' => ?_)
  have lz49 := hB.size
  have lz50 := hz5.lt
  have lz51 := hz11.lt
  have lz52 := hz18.lt
  have lz53 := hz44.lt
  refine wp_call1 (some 32) rfl 39 _ _ rfl (fun args w => by kernel_rfl) _ rfl _ (sizesOf_c _ _ _ _ _ _) (fun e Wz47 h => ?_)
  obtain ⟨rfl, bz48⟩ := h
  replace hB := below_after hB bz48
  replace hz5 := hz5.after bz48
  replace hz11 := hz11.after bz48
  replace hz18 := hz18.after bz48
  replace hz44 := hz44.after bz48
  clear bz48
  refine ⟨_, rfl, ?_⟩
  refine hK' _ _ ?_
  clear hK' K'
  go_frame
  refine ls_ex (some 33) (.int .i64 0) rfl rfl (exec_move _ rfl (.int .i64 0) rfl) ?_
  go_frame
  refine wpList_nil ?_
  go_wp2_with fail
  go_loopw [33] (fun s33 wr => ∃ i : Nat, i ≤ 3 ∧ s33 = .int .i64 i ∧ Below w.heap.size w wr ∧ At wr w.heap.size (.cells #[.int .i64 (P : Nat), .int .i64 (n : Nat), .int .i64 (m : Nat), .int .i64 (k : Nat), .slice A qs.length c] 39 (0, 0)) ∧ At wr Wz2.heap.size (.cells #[.int .i64 (P : Nat), .int .i64 (u : Nat), .int .i64 (v : Nat), .int .i64 (t : Nat), .slice B rs.length d] 39 (0, 0)) ∧ At wr Wz8.heap.size (.cells #[.int .i64 0, .int .i64 0, .int .i64 0, .int .i64 0, .slice none 0 0] 39 (0, 0)) ∧ At wr Wz31.heap.size (.cells #[.int .i64 (mxS i 0 n N1 : Nat), .int .i64 (mxS i 1 m N2 : Nat), .int .i64 (mxS i 2 k N3 : Nat)] 68 (0, 0))) (fun s33 _ => 3 - (intOf s33).toNat)
  case atStart => exact ⟨0, by omega, rfl, hB, hz5, hz11, hz18, hz44⟩
  case round =>
    clear hB hz5 hz11 hz18 hz44
    obtain ⟨i, hle, rfl, hB, h2, h3, h4, h6⟩ := hrel
    rcases (show i = 0 ∨ i = 1 ∨ i = 2 ∨ i = 3 by omega) with rfl | rfl | rfl | rfl
    · go_upto_region 7 with (fail)
      refine wp_region_lit ?_
      refine ls_ex (some 34) (.bool true) rfl rfl (exec_lss _ _ _ _ rfl 0 3 rfl rfl true rfl) ?_
      go_frame
      refine wpList_nil ?_
      go_upto_region 8 with (fail)
      refine wp_region_lit ?_
      refine ls_ex (some 35) (.int .i64 0) rfl rfl (exec_move _ rfl (.int .i64 0) rfl) ?_
      go_frame
      refine ls_ex (some 36) (.int .i64 (u : Nat)) rfl rfl (exec_index_arr3 68 2 _ _ rfl 3 0 _ _ rfl rfl Try.underlying68 _ Try.underlying2 rfl (by kernel_rfl) (by omega) rfl) ?_
      go_frame
      refine ls_ex (some 7) (.int .i64 0) rfl rfl (exec_assign _ rfl (.int .i64 0) rfl) ?_
      go_frame
      refine ls_ex (some 8) (.int .i64 (u : Nat)) rfl rfl (exec_assign _ rfl (.int .i64 (u : Nat)) rfl) ?_
      go_frame
      refine wpList_nil ?_
      go_upto_region 9 with (fail)
      refine wp_region_lit ?_
      refine ls_ex (some 37) (.int .i64 0) rfl rfl (exec_move _ rfl (.int .i64 0) rfl) ?_
      go_frame
      refine ls_ex (some 38) (.pointer (some ⟨Wz31.heap.size, 0, none⟩)) rfl rfl (exec_index_arr _ 2 _ _ rfl Wz31.heap.size 0 3 0 1 rfl rfl Try.underlying68 (by kernel_rfl) (by omega)) ?_
      go_frame
      refine ls_ex (some 39) (.int .i64 (mxS 0 0 n N1 : Nat)) rfl rfl (exec_load_one 2 _ rfl Wz31.heap.size 0 rfl (.int .i64 (mxS 0 0 n N1 : Nat)) _ Try.underlying2 rfl (h6.at_ 0)) ?_
      go_frame
      refine ls_ex (some 40) (.int .i64 (u : Nat)) rfl rfl (exec_move _ rfl (.int .i64 (u : Nat)) rfl) ?_
      go_frame
      refine ls_ex (some 41) (.int .i64 (N1 : Nat)) rfl rfl (exec_mul _ _ _ _ rfl (n : Nat) (u : Nat) (N1 : Nat) rfl rfl HN1.out) ?_
      go_frame
      refine ls_ex (some 42) (.pointer (some ⟨Wz31.heap.size, 0, none⟩)) rfl rfl (exec_index_arr _ 2 _ _ rfl Wz31.heap.size 0 3 0 1 rfl rfl Try.underlying68 (by kernel_rfl) (by omega)) ?_
      go_frame
      refine ls_op rfl (fun K' hK' => ?_)
      refine wp_store_one 2 _ _ rfl rfl Wz31.heap.size 0 rfl (.int .i64 (N1 : Nat)) rfl rfl rfl _ _ h6 (by kernel_rfl) (by simp) (fun Wz54 pz55 => ?_)
      replace hB := pz55.below hB (by omega)
      replace h2 := pz55.other h2 (by omega)
      replace h3 := pz55.other h3 (by omega)
      replace h4 := pz55.other h4 (by omega)
      replace h6 : At Wz54 Wz31.heap.size (.cells #[.int .i64 (N1 : Nat), .int .i64 (mxS 0 1 m N2 : Nat), .int .i64 (mxS 0 2 k N3 : Nat)] 68 (0, 0)) := pz55.at_
      refine hK' _ _ ?_
      clear hK' K' pz55
      refine wpList_nil ?_
      go_upto_region 10 with (fail)
      refine wp_region_lit ?_
      refine ls_ex (some 43) (.int .i64 1) rfl rfl (exec_add _ _ _ _ rfl 0 1 1 rfl rfl rfl) ?_
      go_frame
      refine ls_ex (some 33) (.int .i64 1) rfl rfl (exec_move _ rfl (.int .i64 1) rfl) ?_
      go_frame
      refine wpList_nil ?_
      go_wp2_with fail
      go_roundw
      case rel => exact ⟨1, by omega, by go_num, hB, h2, h3, h4, h6⟩
      case measure => simp [intOf]
    · go_upto_region 7 with (fail)
      refine wp_region_lit ?_
      refine ls_ex (some 34) (.bool true) rfl rfl (exec_lss _ _ _ _ rfl 1 3 rfl rfl true rfl) ?_
      go_frame
      refine wpList_nil ?_
      go_upto_region 8 with (fail)
      refine wp_region_lit ?_
      refine ls_ex (some 35) (.int .i64 1) rfl rfl (exec_move _ rfl (.int .i64 1) rfl) ?_
      go_frame
      refine ls_ex (some 36) (.int .i64 (v : Nat)) rfl rfl (exec_index_arr3 68 2 _ _ rfl 3 1 _ _ rfl rfl Try.underlying68 _ Try.underlying2 rfl (by kernel_rfl) (by omega) rfl) ?_
      go_frame
      refine ls_ex (some 7) (.int .i64 1) rfl rfl (exec_assign _ rfl (.int .i64 1) rfl) ?_
      go_frame
      refine ls_ex (some 8) (.int .i64 (v : Nat)) rfl rfl (exec_assign _ rfl (.int .i64 (v : Nat)) rfl) ?_
      go_frame
      refine wpList_nil ?_
      go_upto_region 9 with (fail)
      refine wp_region_lit ?_
      refine ls_ex (some 37) (.int .i64 1) rfl rfl (exec_move _ rfl (.int .i64 1) rfl) ?_
      go_frame
      refine ls_ex (some 38) (.pointer (some ⟨Wz31.heap.size, 1, none⟩)) rfl rfl (exec_index_arr _ 2 _ _ rfl Wz31.heap.size 0 3 1 1 rfl rfl Try.underlying68 (by kernel_rfl) (by omega)) ?_
      go_frame
      refine ls_ex (some 39) (.int .i64 (mxS 1 1 m N2 : Nat)) rfl rfl (exec_load_one 2 _ rfl Wz31.heap.size 1 rfl (.int .i64 (mxS 1 1 m N2 : Nat)) _ Try.underlying2 rfl (h6.at_ 1)) ?_
      go_frame
      refine ls_ex (some 40) (.int .i64 (v : Nat)) rfl rfl (exec_move _ rfl (.int .i64 (v : Nat)) rfl) ?_
      go_frame
      refine ls_ex (some 41) (.int .i64 (N2 : Nat)) rfl rfl (exec_mul _ _ _ _ rfl (m : Nat) (v : Nat) (N2 : Nat) rfl rfl HN2.out) ?_
      go_frame
      refine ls_ex (some 42) (.pointer (some ⟨Wz31.heap.size, 1, none⟩)) rfl rfl (exec_index_arr _ 2 _ _ rfl Wz31.heap.size 0 3 1 1 rfl rfl Try.underlying68 (by kernel_rfl) (by omega)) ?_
      go_frame
      refine ls_op rfl (fun K' hK' => ?_)
      refine wp_store_one 2 _ _ rfl rfl Wz31.heap.size 1 rfl (.int .i64 (N2 : Nat)) rfl rfl rfl _ _ h6 (by kernel_rfl) (by simp) (fun Wz56 pz57 => ?_)
      replace hB := pz57.below hB (by omega)
      replace h2 := pz57.other h2 (by omega)
      replace h3 := pz57.other h3 (by omega)
      replace h4 := pz57.other h4 (by omega)
      replace h6 : At Wz56 Wz31.heap.size (.cells #[.int .i64 (mxS 1 0 n N1 : Nat), .int .i64 (N2 : Nat), .int .i64 (mxS 1 2 k N3 : Nat)] 68 (0, 0)) := pz57.at_
      refine hK' _ _ ?_
      clear hK' K' pz57
      refine wpList_nil ?_
      go_upto_region 10 with (fail)
      refine wp_region_lit ?_
      refine ls_ex (some 43) (.int .i64 2) rfl rfl (exec_add _ _ _ _ rfl 1 1 2 rfl rfl rfl) ?_
      go_frame
      refine ls_ex (some 33) (.int .i64 2) rfl rfl (exec_move _ rfl (.int .i64 2) rfl) ?_
      go_frame
      refine wpList_nil ?_
      go_wp2_with fail
      go_roundw
      case rel => exact ⟨2, by omega, by go_num, hB, h2, h3, h4, h6⟩
      case measure => simp [intOf]
    · go_upto_region 7 with (fail)
      refine wp_region_lit ?_
      refine ls_ex (some 34) (.bool true) rfl rfl (exec_lss _ _ _ _ rfl 2 3 rfl rfl true rfl) ?_
      go_frame
      refine wpList_nil ?_
      go_upto_region 8 with (fail)
      refine wp_region_lit ?_
      refine ls_ex (some 35) (.int .i64 2) rfl rfl (exec_move _ rfl (.int .i64 2) rfl) ?_
      go_frame
      refine ls_ex (some 36) (.int .i64 (t : Nat)) rfl rfl (exec_index_arr3 68 2 _ _ rfl 3 2 _ _ rfl rfl Try.underlying68 _ Try.underlying2 rfl (by kernel_rfl) (by omega) rfl) ?_
      go_frame
      refine ls_ex (some 7) (.int .i64 2) rfl rfl (exec_assign _ rfl (.int .i64 2) rfl) ?_
      go_frame
      refine ls_ex (some 8) (.int .i64 (t : Nat)) rfl rfl (exec_assign _ rfl (.int .i64 (t : Nat)) rfl) ?_
      go_frame
      refine wpList_nil ?_
      go_upto_region 9 with (fail)
      refine wp_region_lit ?_
      refine ls_ex (some 37) (.int .i64 2) rfl rfl (exec_move _ rfl (.int .i64 2) rfl) ?_
      go_frame
      refine ls_ex (some 38) (.pointer (some ⟨Wz31.heap.size, 2, none⟩)) rfl rfl (exec_index_arr _ 2 _ _ rfl Wz31.heap.size 0 3 2 1 rfl rfl Try.underlying68 (by kernel_rfl) (by omega)) ?_
      go_frame
      refine ls_ex (some 39) (.int .i64 (mxS 2 2 k N3 : Nat)) rfl rfl (exec_load_one 2 _ rfl Wz31.heap.size 2 rfl (.int .i64 (mxS 2 2 k N3 : Nat)) _ Try.underlying2 rfl (h6.at_ 2)) ?_
      go_frame
      refine ls_ex (some 40) (.int .i64 (t : Nat)) rfl rfl (exec_move _ rfl (.int .i64 (t : Nat)) rfl) ?_
      go_frame
      refine ls_ex (some 41) (.int .i64 (N3 : Nat)) rfl rfl (exec_mul _ _ _ _ rfl (k : Nat) (t : Nat) (N3 : Nat) rfl rfl HN3.out) ?_
      go_frame
      refine ls_ex (some 42) (.pointer (some ⟨Wz31.heap.size, 2, none⟩)) rfl rfl (exec_index_arr _ 2 _ _ rfl Wz31.heap.size 0 3 2 1 rfl rfl Try.underlying68 (by kernel_rfl) (by omega)) ?_
      go_frame
      refine ls_op rfl (fun K' hK' => ?_)
      refine wp_store_one 2 _ _ rfl rfl Wz31.heap.size 2 rfl (.int .i64 (N3 : Nat)) rfl rfl rfl _ _ h6 (by kernel_rfl) (by simp) (fun Wz58 pz59 => ?_)
      replace hB := pz59.below hB (by omega)
      replace h2 := pz59.other h2 (by omega)
      replace h3 := pz59.other h3 (by omega)
      replace h4 := pz59.other h4 (by omega)
      replace h6 : At Wz58 Wz31.heap.size (.cells #[.int .i64 (mxS 2 0 n N1 : Nat), .int .i64 (mxS 2 1 m N2 : Nat), .int .i64 (N3 : Nat)] 68 (0, 0)) := pz59.at_
      refine hK' _ _ ?_
      clear hK' K' pz59
      refine wpList_nil ?_
      go_upto_region 10 with (fail)
      refine wp_region_lit ?_
      refine ls_ex (some 43) (.int .i64 3) rfl rfl (exec_add _ _ _ _ rfl 2 1 3 rfl rfl rfl) ?_
      go_frame
      refine ls_ex (some 33) (.int .i64 3) rfl rfl (exec_move _ rfl (.int .i64 3) rfl) ?_
      go_frame
      refine wpList_nil ?_
      go_wp2_with fail
      go_roundw
      case rel => exact ⟨3, by omega, by go_num, hB, h2, h3, h4, h6⟩
      case measure => simp [intOf]
    · replace h6 : At wr Wz31.heap.size (.cells #[.int .i64 (N1 : Nat), .int .i64 (N2 : Nat), .int .i64 (N3 : Nat)] 68 (0, 0)) := h6
      obtain ⟨wk, rfl⟩ : ∃ x : World, x = wr := ⟨_, rfl⟩
      go_upto_region 7 with (fail)
      refine wp_region_lit ?_
      refine ls_ex (some 34) (.bool false) rfl rfl (exec_lss _ _ _ _ rfl 3 3 rfl rfl false rfl) ?_
      go_frame
      refine wpList_nil ?_
      go_upto_region 11 with (fail)
      refine wp_region_lit ?_
      refine ls_ex (some 44) (.slice (some ⟨Wz31.heap.size, 0, none⟩) 3 3) rfl rfl (exec_slice_sz _ rfl Wz31.heap.size rfl) ?_
      go_frame
      refine ls_op rfl (fun K' hK' => ?_)
      have lz62 := hB.size
      have lz63 := h2.lt
      have lz64 := h3.lt
      have lz65 := h4.lt
      have lz66 := h6.lt
      refine wp_call1 (some 45) rfl 40 _ _ rfl (fun args w => by kernel_rfl) _ rfl _ (HMX.out _ _ h6) (fun e Wz60 h => ?_)
      obtain ⟨rfl, rfl⟩ := h
      refine ⟨_, rfl, ?_⟩
      refine hK' _ _ ?_
      clear hK' K'
      go_frame
      refine ls_ex (some 46) (.bool false) rfl rfl (exec_gtr _ _ _ _ rfl MX 3 rfl rfl false (decide_eq_false (by omega))) ?_
      go_frame
      refine ls_ex (some 47) (.bool false) rfl rfl (exec_move _ rfl (.bool false) rfl) ?_
      go_frame
      refine ls_ex_g (some 48) (.pointer (some ⟨w.heap.size, 4, none⟩)) rfl rfl (exec_fieldAddr 39 _ 4 rfl _ (by kernel_rfl)) ?_
      go_frame
      refine ls_ex_g (some 49) (.slice A qs.length c) rfl rfl (exec_load_one 26 _ rfl w.heap.size 4 rfl (.slice A qs.length c) _ Try.underlying26 rfl (h2.at_ 4)) ?_
      go_frame
      refine ls_ex_g (some 50) (.int .i64 qs.length) rfl rfl (exec_len _ 26 53 rfl A qs.length c rfl Try.underlying26) ?_
      go_frame
      refine ls_ex_g (some 51) (.pointer (some ⟨Wz2.heap.size, 4, none⟩)) rfl rfl (exec_fieldAddr 39 _ 4 rfl _ (by kernel_rfl)) ?_
      go_frame
      refine ls_ex_g (some 52) (.slice B rs.length d) rfl rfl (exec_load_one 26 _ rfl Wz2.heap.size 4 rfl (.slice B rs.length d) _ Try.underlying26 rfl (h3.at_ 4)) ?_
      go_frame
      refine ls_ex_g (some 53) (.int .i64 rs.length) rfl rfl (exec_len _ 26 53 rfl B rs.length d rfl Try.underlying26) ?_
      go_frame
      refine ls_ex_g (some 54) (.int .i64 (LL : Nat)) rfl rfl (exec_mul _ _ _ _ rfl (qs.length : Nat) (rs.length : Nat) (LL : Nat) rfl rfl HLL.out) ?_
      go_frame
      refine ls_ex_g (some 55) (.bool false) rfl rfl (exec_gtr _ _ _ _ rfl ((LL : Nat)) 30 rfl rfl false (decide_eq_false (by omega))) ?_
      go_frame
      refine ls_ex (some 56) (.bool false) rfl rfl (exec_pick _ _ _ rfl false rfl (.bool false) rfl) ?_
      go_frame
      refine wpList_nil ?_
      go_upto_region 13 with (fail)
      refine wp_region_lit ?_
      refine ls_ex (some 9) (.slice none 0 0) rfl rfl (exec_assign _ rfl (.slice none 0 0) rfl) ?_
      go_frame
      refine wpList_nil ?_
      go_upto_region 14 with (fail)
      refine wp_region_lit ?_
      refine ls_ex (some 58) (.pointer (some ⟨w.heap.size, 4, none⟩)) rfl rfl (exec_fieldAddr 39 _ 4 rfl _ (by kernel_rfl)) ?_
      go_frame
      refine ls_ex (some 59) (.slice A qs.length c) rfl rfl (exec_load_one 26 _ rfl w.heap.size 4 rfl (.slice A qs.length c) _ Try.underlying26 rfl (h2.at_ 4)) ?_
      go_frame
      refine ls_ex (some 60) (.int .i64 qs.length) rfl rfl (exec_len _ 26 53 rfl A qs.length c rfl Try.underlying26) ?_
      go_frame
      refine ls_ex (some 61) (.int .i64 0) rfl rfl (exec_move _ rfl (.int .i64 0) rfl) ?_
      go_frame
      refine wpList_nil ?_
      go_wp2_with fail
      go_loopw [9, 61] (fun s9 s61 wr => ∃ (a : Nat) (v9 : Value), a ≤ qs.length ∧ s9 = v9 ∧ s61 = .int .i64 a ∧ Below w.heap.size w wr ∧ At wr w.heap.size (.cells #[.int .i64 (P : Nat), .int .i64 (n : Nat), .int .i64 (m : Nat), .int .i64 (k : Nat), .slice A qs.length c] 39 (0, 0)) ∧ At wr Wz2.heap.size (.cells #[.int .i64 (P : Nat), .int .i64 (u : Nat), .int .i64 (v : Nat), .int .i64 (t : Nat), .slice B rs.length d] 39 (0, 0)) ∧ At wr Wz8.heap.size (.cells #[.int .i64 0, .int .i64 0, .int .i64 0, .int .i64 0, .slice none 0 0] 39 (0, 0)) ∧ At wr Wz31.heap.size (.cells #[.int .i64 (N1 : Nat), .int .i64 (N2 : Nat), .int .i64 (N3 : Nat)] 68 (0, 0)) ∧ Own wr w.heap.size (v9) (muO P n m k u v t qs rs (a))) (fun _ s61 _ => qs.length - (intOf s61).toNat)
      case atStart => exact ⟨0, _, by omega, rfl, rfl, hB, h2, h3, h4, h6, Own.nil _ _⟩
      case round =>
        clear hB h2 h3 h4 h6
        obtain ⟨a, v9, hle, rfl, rfl, hB, h2, h3, h4, h6, ho⟩ := hrel
        by_cases hlt : a < qs.length
        · obtain ⟨bA, oA, rfl, hcA⟩ := (hR.keep hB).at_ hlt
          clear hcA
          have hq := hR.good _ (List.getElem_mem hlt)
          obtain ⟨L7, hL7⟩ : ∃ z9, (muO P n m k u v t qs rs (a)).length = z9 := ⟨_, rfl⟩
          obtain ⟨A7, c7, rfl⟩ := Own.rdN2 ho hL7
          clear hL7
          go_upto_region 15 with (fail)
          refine wp_region_lit ?_
          refine ls_ex (some 62) (.bool true) rfl rfl (exec_lss _ _ _ _ rfl a qs.length rfl rfl true (decide_eq_true (by omega))) ?_
          go_frame
          refine wpList_nil ?_
          go_upto_region 16 with (fail)
          refine wp_region_lit ?_
          refine ls_ex (some 63) (.pointer (some ⟨bA, oA + a * 27, none⟩)) rfl rfl (exec_index_slice _ 53 _ _ rfl bA oA qs.length c a 27 rfl rfl Try.underlying26 (by kernel_rfl) (by omega)) ?_
          go_frame
          refine ls_ex (some 64) (.agg (u8s (qs[a]))) rfl rfl (exec_load_cells 53 _ rfl bA (oA + a * 27) rfl (qs[a]) _ 27 (Rd.c27m (hR.keep hB) hlt) Try.underlying53 rfl (by kernel_rfl) (hq.len)) ?_
          go_frame
          refine ls_op rfl (fun K' hK' => ?_)
          have lz67 := hB.size
          have lz68 := h2.lt
          have lz69 := h3.lt
          have lz70 := h4.lt
          have lz71 := h6.lt
          have naz76 := ho.away_new
          refine wp_new (some 11) rfl (alV_impl_Product rfl) (fun Wz72 nnz73 => ?_)
          have bz74 := nnz73.below (Below.refl _ _) (Nat.le_refl _)
          replace hB := below_after hB bz74
          replace h2 := h2.after bz74
          replace h3 := h3.after bz74
          replace h4 := h4.after bz74
          replace h6 := h6.after bz74
          replace ho := ho.below bz74
          have hz75 : At Wz72 wr.heap.size (.cells (u8s (List.replicate 27 0)) 53 (0, 0)) := nnz73.at_
          refine hK' _ _ ?_
          clear hK' K' nnz73 bz74
          go_frame
          refine ls_op rfl (fun K' hK' => ?_)
          refine wp_store_bytes 53 _ _ rfl rfl wr.heap.size rfl (qs[a]) rfl _ _ hz75 27 (by kernel_rfl) hq.len (by simp) (fun Wz77 pz78 => ?_)
          replace hB := pz78.below hB (by omega)
          replace h2 := pz78.other h2 (by omega)
          replace h3 := pz78.other h3 (by omega)
          replace h4 := pz78.other h4 (by omega)
          replace h6 := pz78.other h6 (by omega)
          replace ho := ho.put pz78 naz76
          replace hz75 : At Wz77 wr.heap.size (.cells (u8s (qs[a])) 53 (0, 0)) := pz78.at_
          refine hK' _ _ ?_
          clear hK' K' pz78
          refine wpList_nil ?_
          go_upto_region 17 with (fail)
          refine wp_region_lit ?_
          refine ls_ex (some 65) (.pointer (some ⟨Wz2.heap.size, 4, none⟩)) rfl rfl (exec_fieldAddr 39 _ 4 rfl _ (by kernel_rfl)) ?_
          go_frame
          refine ls_ex (some 66) (.slice B rs.length d) rfl rfl (exec_load_one 26 _ rfl Wz2.heap.size 4 rfl (.slice B rs.length d) _ Try.underlying26 rfl (h3.at_ 4)) ?_
          go_frame
          refine ls_ex (some 67) (.int .i64 rs.length) rfl rfl (exec_len _ 26 53 rfl B rs.length d rfl Try.underlying26) ?_
          go_frame
          refine ls_ex (some 68) (.int .i64 0) rfl rfl (exec_move _ rfl (.int .i64 0) rfl) ?_
          go_frame
          refine wpList_nil ?_
          go_wp2_with fail
          obtain ⟨we, rfl⟩ : ∃ x : World, x = wr := ⟨_, rfl⟩
          go_loopw [9, 68] (fun s9 s68 wr => ∃ (b : Nat) (v9 : Value), b ≤ rs.length ∧ s9 = v9 ∧ s68 = .int .i64 b ∧ Below w.heap.size w wr ∧ At wr w.heap.size (.cells #[.int .i64 (P : Nat), .int .i64 (n : Nat), .int .i64 (m : Nat), .int .i64 (k : Nat), .slice (some ⟨bA, oA, none⟩) qs.length c] 39 (0, 0)) ∧ At wr Wz2.heap.size (.cells #[.int .i64 (P : Nat), .int .i64 (u : Nat), .int .i64 (v : Nat), .int .i64 (t : Nat), .slice B rs.length d] 39 (0, 0)) ∧ At wr Wz8.heap.size (.cells #[.int .i64 0, .int .i64 0, .int .i64 0, .int .i64 0, .slice none 0 0] 39 (0, 0)) ∧ At wr Wz31.heap.size (.cells #[.int .i64 (N1 : Nat), .int .i64 (N2 : Nat), .int .i64 (N3 : Nat)] 68 (0, 0)) ∧ Own wr w.heap.size (v9) (muI P n m k u v t qs rs qs[a] a (b)) ∧ At wr we.heap.size (.cells (u8s (qs[a])) 53 (0, 0)) ∧ some (we.heap.size) ≠ v9.ownBlock) (fun _ s68 _ => rs.length - (intOf s68).toNat)
          case atStart => exact ⟨0, _, by omega, rfl, rfl, hB, h2, h3, h4, h6, by rw [muI_zero]; exact ho, hz75, naz76⟩
          case round =>
            clear hB h2 h3 h4 h6 ho hz75
            obtain ⟨b, v9, hle2, rfl, rfl, hB, h2, h3, h4, h6, ho, h11, na11⟩ := hrel
            by_cases hlt2 : b < rs.length
            · obtain ⟨bB, oB, rfl, hcB⟩ := (hS.keep hB).at_ hlt2
              clear hcB
              have hr := hS.good _ (List.getElem_mem hlt2)
              obtain ⟨L9, hL9⟩ : ∃ z9, (muI P n m k u v t qs rs qs[a] a (b)).length = z9 := ⟨_, rfl⟩
              obtain ⟨A9, c9, rfl⟩ := Own.rdN2 ho hL9
              have HT : Hid (muI P n m k u v t qs rs qs[a] a (b) ++ [muQ P n m k u v t qs[a] rs[b]] = muI P n m k u v t qs rs qs[a] a (b + 1)) := Lib.hid (muI_step hlt2)
              have hAL := muI_le (P := P) (n := n) (m := m) (k := k) (u := u) (v := v) (t := t) (q := qs[a]) (a := a) (b := b) hl30 hs30 (by omega) (by omega)
              have HAS : Hid ((muI P n m k u v t qs rs qs[a] a (b + 1)).length = L9 + 1) := Lib.hid (by rw [← HT.out, List.length_append, hL9]; rfl)
              have HL9 := Lib.hid hL9
              rw [hL9] at hAL
              clear hL9
              go_upto_region 18 with (fail)
              refine wp_region_lit ?_
              refine ls_ex (some 69) (.bool true) rfl rfl (exec_lss _ _ _ _ rfl b rs.length rfl rfl true (decide_eq_true (by omega))) ?_
              go_frame
              refine wpList_nil ?_
              go_upto_region 19 with (fail)
              refine wp_region_lit ?_
              refine ls_ex (some 70) (.pointer (some ⟨bB, oB + b * 27, none⟩)) rfl rfl (exec_index_slice _ 53 _ _ rfl bB oB rs.length d b 27 rfl rfl Try.underlying26 (by kernel_rfl) (by omega)) ?_
              go_frame
              refine ls_ex (some 71) (.agg (u8s (rs[b]))) rfl rfl (exec_load_cells 53 _ rfl bB (oB + b * 27) rfl (rs[b]) _ 27 (Rd.c27m (hS.keep hB) hlt2) Try.underlying53 rfl (by kernel_rfl) (hr.len)) ?_
              go_frame
              refine ls_op rfl (fun K' hK' => ?_)
              have lz79 := hB.size
              have lz80 := h2.lt
              have lz81 := h3.lt
              have lz82 := h4.lt
              have lz83 := h6.lt
              have lz84 := h11.lt
              have naz89 := ho.away_new
              refine wp_new (some 13) rfl (alV_impl_Product rfl) (fun Wz85 nnz86 => ?_)
              have bz87 := nnz86.below (Below.refl _ _) (Nat.le_refl _)
              replace hB := below_after hB bz87
              replace h2 := h2.after bz87
              replace h3 := h3.after bz87
              replace h4 := h4.after bz87
              replace h6 := h6.after bz87
              replace ho := ho.below bz87
              replace h11 := h11.after bz87
              have hz88 : At Wz85 wr.heap.size (.cells (u8s (List.replicate 27 0)) 53 (0, 0)) := nnz86.at_
              refine hK' _ _ ?_
              clear hK' K' nnz86 bz87
              go_frame
              refine ls_op rfl (fun K' hK' => ?_)
              refine wp_store_bytes 53 _ _ rfl rfl wr.heap.size rfl (rs[b]) rfl _ _ hz88 27 (by kernel_rfl) hr.len (by simp) (fun Wz90 pz91 => ?_)
              replace hB := pz91.below hB (by omega)
              replace h2 := pz91.other h2 (by omega)
              replace h3 := pz91.other h3 (by omega)
              replace h4 := pz91.other h4 (by omega)
              replace h6 := pz91.other h6 (by omega)
              replace ho := ho.put pz91 naz89
              replace h11 := pz91.other h11 (by omega)
              replace hz88 : At Wz90 wr.heap.size (.cells (u8s (rs[b])) 53 (0, 0)) := pz91.at_
              refine hK' _ _ ?_
              clear hK' K' pz91
              refine wpList_nil ?_
              go_upto_region 20 with (fail)
              refine wp_region_y (zs := [12]) (S := fun w' => Below w.heap.size w w' ∧ At w' w.heap.size (.cells #[.int .i64 (P : Nat), .int .i64 (n : Nat), .int .i64 (m : Nat), .int .i64 (k : Nat), .slice (some ⟨bA, oA, none⟩) qs.length c] 39 (0, 0)) ∧ At w' we.heap.size (.cells (u8s (qs[a])) 53 (0, 0)) ∧ At w' wr.heap.size (.cells (u8s (rs[b])) 53 (0, 0)) ∧ At w' Wz2.heap.size (.cells #[.int .i64 (P : Nat), .int .i64 (u : Nat), .int .i64 (v : Nat), .int .i64 (t : Nat), .slice (some ⟨bB, oB, none⟩) rs.length d] 39 (0, 0))) (S2 := fun w' => True) (by kernel_rfl) ?_
              change wpAnyY _ _ _ _ _ _ _ _ _ _ (World.drew _)
              generalize hwdz92 : World.drew _ = wdz92
              replace hB : Below w.heap.size w wdz92 := by rw [← hwdz92]; exact hB.drew
              replace h2 : At wdz92 w.heap.size (.cells #[.int .i64 (P : Nat), .int .i64 (n : Nat), .int .i64 (m : Nat), .int .i64 (k : Nat), .slice (some ⟨bA, oA, none⟩) qs.length c] 39 (0, 0)) := by rw [← hwdz92]; exact h2
              replace h3 : At wdz92 Wz2.heap.size (.cells #[.int .i64 (P : Nat), .int .i64 (u : Nat), .int .i64 (v : Nat), .int .i64 (t : Nat), .slice (some ⟨bB, oB, none⟩) rs.length d] 39 (0, 0)) := by rw [← hwdz92]; exact h3
              replace h4 : At wdz92 Wz8.heap.size (.cells #[.int .i64 0, .int .i64 0, .int .i64 0, .int .i64 0, .slice none 0 0] 39 (0, 0)) := by rw [← hwdz92]; exact h4
              replace h6 : At wdz92 Wz31.heap.size (.cells #[.int .i64 (N1 : Nat), .int .i64 (N2 : Nat), .int .i64 (N3 : Nat)] 68 (0, 0)) := by rw [← hwdz92]; exact h6
              replace ho : Own wdz92 w.heap.size (.slice A9 L9 c9) (muI P n m k u v t qs rs qs[a] a (b)) := by rw [← hwdz92]; exact ho.drew
              replace h11 : At wdz92 we.heap.size (.cells (u8s (qs[a])) 53 (0, 0)) := by rw [← hwdz92]; exact h11
              replace hz88 : At wdz92 wr.heap.size (.cells (u8s (rs[b])) 53 (0, 0)) := by rw [← hwdz92]; exact hz88
              clear hwdz92
              refine y_yield 0 (some 72) (.slice A9 L9 c9) rfl (by kernel_rfl) (by kernel_rfl) (by kernel_rfl) (fun _ _ _ h => h) rfl rfl ⟨hB, h2, h11, hz88, h3⟩ (fun w' h' => exec_move _ rfl (.slice A9 L9 c9) rfl) ?_
              go_frame
              refine y_yield 1 (some 73) (.pointer (some ⟨w.heap.size, 0, none⟩)) rfl (by kernel_rfl) (by kernel_rfl) (by kernel_rfl) (fun _ _ _ h => h) rfl rfl ⟨hB, h2, h11, hz88, h3⟩ (fun w' h' => exec_fieldAddr 39 _ 0 rfl _ (by kernel_rfl)) ?_
              go_frame
              refine y_yield 2 (some 74) (.int .i64 (P : Nat)) rfl (by kernel_rfl) (by kernel_rfl) (by kernel_rfl) (fun _ _ _ h => h) rfl rfl ⟨hB, h2, h11, hz88, h3⟩ (fun w' h' => exec_load_one 2 _ rfl w.heap.size 0 rfl (.int .i64 (P : Nat)) _ Try.underlying2 rfl (h'.2.1.at_ 0)) ?_
              go_frame
              refine y_yield 3 (some 75) (.agg (u8s (qs[a]))) rfl (by kernel_rfl) (by kernel_rfl) (by kernel_rfl) (fun _ _ _ h => h) rfl rfl ⟨hB, h2, h11, hz88, h3⟩ (fun w' h' => exec_load_all 53 _ rfl we.heap.size rfl _ _ _ h'.2.2.1 Try.underlying53 rfl 27 (by kernel_rfl) ((u8s_size _).trans hq.len)) ?_
              go_frame
              refine y_yield 4 (some 76) (.agg #[.int .i64 (P : Nat), .int .i64 (n : Nat), .int .i64 (m : Nat), .int .i64 (k : Nat), .slice (some ⟨bA, oA, none⟩) qs.length c]) rfl (by kernel_rfl) (by kernel_rfl) (by kernel_rfl) (fun _ _ _ h => h) rfl rfl ⟨hB, h2, h11, hz88, h3⟩ (fun w' h' => exec_load_all 39 _ rfl w.heap.size rfl _ _ _ h'.2.1 Try.underlying39 rfl 5 (by kernel_rfl) rfl) ?_
              go_frame
              refine y_yield 6 (some 78) (.agg (u8s (rs[b]))) rfl (by kernel_rfl) (by kernel_rfl) (by kernel_rfl) (fun _ _ _ h => h) rfl rfl ⟨hB, h2, h11, hz88, h3⟩ (fun w' h' => exec_load_all 53 _ rfl wr.heap.size rfl _ _ _ h'.2.2.2.1 Try.underlying53 rfl 27 (by kernel_rfl) ((u8s_size _).trans hr.len)) ?_
              go_frame
              refine y_yield 7 (some 79) (.agg #[.int .i64 (P : Nat), .int .i64 (u : Nat), .int .i64 (v : Nat), .int .i64 (t : Nat), .slice (some ⟨bB, oB, none⟩) rs.length d]) rfl (by kernel_rfl) (by kernel_rfl) (by kernel_rfl) (fun _ _ _ h => h) rfl rfl ⟨hB, h2, h11, hz88, h3⟩ (fun w' h' => exec_load_all 39 _ rfl Wz2.heap.size rfl _ _ _ h'.2.2.2.2 Try.underlying39 rfl 5 (by kernel_rfl) rfl) ?_
              go_frame
              refine y_oper 5 (by kernel_rfl) rfl rfl (fun K' hK' => ?_)
              have lz95 := hB.size
              have lz96 := h2.lt
              have lz97 := h3.lt
              have lz98 := h4.lt
              have lz99 := h6.lt
              have lz100 := h11.lt
              have lz101 := hz88.lt
              refine wp_call1 (some 77) rfl 42 _ _ rfl (fun args w => by kernel_rfl) _ rfl _ (shapesOf_c _ _ _ _ _ _) (fun e Wz93 h => ?_)
              obtain ⟨rfl, bz94⟩ := h
              replace hB := below_after hB bz94
              replace h2 := h2.after bz94
              replace h3 := h3.after bz94
              replace h4 := h4.after bz94
              replace h6 := h6.after bz94
              replace ho := ho.below bz94
              replace h11 := h11.after bz94
              replace hz88 := hz88.after bz94
              clear bz94
              refine ⟨_, rfl, ?_⟩
              refine hK' _ _ ⟨hB, h2, h11, hz88, h3⟩ (fun _ => trivial) ?_
              clear hK' K'
              go_frame
              refine y_oper 8 (by kernel_rfl) rfl rfl (fun K' hK' => ?_)
              have lz104 := hB.size
              have lz105 := h2.lt
              have lz106 := h3.lt
              have lz107 := h4.lt
              have lz108 := h6.lt
              have lz109 := h11.lt
              have lz110 := hz88.lt
              refine wp_call1 (some 80) rfl 42 _ _ rfl (fun args w => by kernel_rfl) _ rfl _ (shapesOf_c _ _ _ _ _ _) (fun e Wz102 h => ?_)
              obtain ⟨rfl, bz103⟩ := h
              replace hB := below_after hB bz103
              replace h2 := h2.after bz103
              replace h3 := h3.after bz103
              replace h4 := h4.after bz103
              replace h6 := h6.after bz103
              replace ho := ho.below bz103
              replace h11 := h11.after bz103
              replace hz88 := hz88.after bz103
              clear bz103
              refine ⟨_, rfl, ?_⟩
              refine hK' _ _ ⟨hB, h2, h11, hz88, h3⟩ (fun _ => trivial) ?_
              clear hK' K'
              go_frame
              refine y_oper 9 (by kernel_rfl) rfl rfl (fun K' hK' => ?_)
              have lz113 := hB.size
              have lz114 := h2.lt
              have lz115 := h3.lt
              have lz116 := h4.lt
              have lz117 := h6.lt
              have lz118 := h11.lt
              have lz119 := hz88.lt
              refine wp_call5m (some 81) rfl 41 _ _ _ _ _ _ rfl (fun args w => by kernel_rfl) _ _ _ _ _ rfl rfl rfl rfl rfl _ (muProd_c P n m k u v t qs[a] rs[b] hq hr _ hP HBB.out HK0.out HK9.out HK18.out) (fun e Wz111 h => ?_)
              obtain ⟨rfl, bz112⟩ := h
              replace hB := below_after hB bz112
              replace h2 := h2.after bz112
              replace h3 := h3.after bz112
              replace h4 := h4.after bz112
              replace h6 := h6.after bz112
              replace ho := ho.below bz112
              replace h11 := h11.after bz112
              replace hz88 := hz88.after bz112
              clear bz112
              refine ⟨_, rfl, ?_⟩
              refine hK' _ _ ⟨hB, h2, h11, hz88, h3⟩ (fun _ => trivial) ?_
              clear hK' K'
              go_frame
              refine y_oper 10 (by kernel_rfl) rfl rfl (fun K' hK' => ?_)
              have lz120 := hB.size
              have lz121 := h2.lt
              have lz122 := h3.lt
              have lz123 := h4.lt
              have lz124 := h6.lt
              have lz125 := h11.lt
              have lz126 := hz88.lt
              refine wp_slice1 (some 82) rfl 26 53 _ rfl (muQ P n m k u v t qs[a] rs[b]) rfl Try.underlying26 infoProd (muQ_len _ _ _ _ _ _ _ _ _) (fun Wz127 nnz128 => ?_)
              have bz129 := nnz128.below (Below.refl _ _) (Nat.le_refl _)
              replace hB := below_after hB bz129
              replace h2 := h2.after bz129
              replace h3 := h3.after bz129
              replace h4 := h4.after bz129
              replace h6 := h6.after bz129
              replace ho := ho.below bz129
              replace h11 := h11.after bz129
              replace hz88 := hz88.after bz129
              have hqz130 : At Wz127 Wz111.heap.size (.cells (u8s (muQ P n m k u v t qs[a] rs[b])) 53 (0, 0)) := nnz128.at_
              refine hK' _ _ ⟨hB, h2, h11, hz88, h3⟩ (fun _ => trivial) ?_
              clear hK' K' nnz128 bz129
              go_frame
              refine y_oper 11 (by kernel_rfl) rfl rfl (fun K' hK' => ?_)
              have lz135 := hB.size
              have lz136 := h2.lt
              have lz137 := h3.lt
              have lz138 := h4.lt
              have lz139 := h6.lt
              have lz140 := h11.lt
              have lz141 := hz88.lt
              have lz142 := hqz130.lt
              refine wp_appP2 (some 83) rfl _ _ rfl (.slice A9 L9 c9) (muI P n m k u v t qs rs qs[a] a (b)) (muQ P n m k u v t qs[a] rs[b]) rfl ho Wz111.heap.size rfl hqz130 (muQ_len _ _ _ _ _ _ _ _ _) (by rw [HL9.out]; omega) (by omega) (fun v8 Wz131 noz133 grz132 lyz134 => ?_)
              rw [HT.out] at noz133
              have nb11 := lyz134 _ h11.lt na11
              clear lyz134
              obtain ⟨A8, c8, rfl⟩ := Own.rdN2 noz133 (n := L9 + 1) HAS.out
              replace hB := below_grown hB grz132 ho (by omega)
              replace h2 := h2.grown grz132 (ho.off h2 (by decide))
              replace h3 := h3.grown grz132 (ho.off h3 (by decide))
              replace h4 := h4.grown grz132 (ho.off h4 (by decide))
              replace h6 := h6.grown grz132 (ho.off h6 (by decide))
              replace h11 := h11.grown grz132 na11
              replace hz88 := hz88.grown grz132 naz89
              replace ho := noz133
              refine hK' _ _ ⟨hB, h2, h11, hz88, h3⟩ (fun _ => trivial) ?_
              clear hK' K' grz132 hqz130
              go_frame
              refine y_oper 12 (by kernel_rfl) rfl rfl (fun K' hK' => ?_)
              refine wp_exec (some 9) rfl (.slice A8 (L9 + 1) c8) (exec_assign _ rfl (.slice A8 (L9 + 1) c8) rfl) ?_
              refine hK' _ _ ⟨hB, h2, h11, hz88, h3⟩ (fun h => absurd (by decide) h) ?_
              clear hK' K'
              go_frame
              refine y_done (by kernel_rfl) ?_ _
              go_upto_region 21 with (fail)
              refine wp_region_lit ?_
              refine ls_ex (some 84) (.int .i64 (b + 1)) rfl rfl (exec_add _ _ _ _ rfl b 1 (b + 1) rfl rfl (IntWalk.i64_in _ (by omega))) ?_
              go_frame
              refine ls_ex (some 68) (.int .i64 (b + 1)) rfl rfl (exec_move _ rfl (.int .i64 (b + 1)) rfl) ?_
              go_frame
              refine wpList_nil ?_
              go_wp2_with fail
              go_roundw
              case rel => exact ⟨b + 1, _, by omega, rfl, by go_num, hB, h2, h3, h4, h6, ho, h11, nb11⟩
              case measure => simp [intOf]; omega
            · obtain ⟨L9, hL9⟩ : ∃ z9, (muI P n m k u v t qs rs qs[a] a (b)).length = z9 := ⟨_, rfl⟩
              obtain ⟨A9, c9, rfl⟩ := Own.rdN2 ho hL9
              clear hL9
              have HF : Hid (muI P n m k u v t qs rs qs[a] a (b) = muO P n m k u v t qs rs (a + 1)) := Lib.hid (by rw [show b = rs.length by omega]; exact muI_all hlt)
              rw [HF.out] at ho
              go_upto_region 18 with (fail)
              refine wp_region_lit ?_
              refine ls_ex (some 69) (.bool false) rfl rfl (exec_lss _ _ _ _ rfl b rs.length rfl rfl false (decide_eq_false (by omega))) ?_
              go_frame
              refine wpList_nil ?_
              go_upto_region 22 with (fail)
              refine wp_region_lit ?_
              refine ls_ex (some 85) (.int .i64 (a + 1)) rfl rfl (exec_add _ _ _ _ rfl a 1 (a + 1) rfl rfl (IntWalk.i64_in _ (by omega))) ?_
              go_frame
              refine ls_ex (some 61) (.int .i64 (a + 1)) rfl rfl (exec_move _ rfl (.int .i64 (a + 1)) rfl) ?_
              go_frame
              refine wpList_nil ?_
              go_wp2_with fail
              go_roundw
              case rel => exact ⟨a + 1, _, by omega, rfl, by go_num, hB, h2, h3, h4, h6, ho⟩
              case measure => simp [intOf]; omega
        · obtain ⟨L9, hL9⟩ : ∃ z9, (muO P n m k u v t qs rs (a)).length = z9 := ⟨_, rfl⟩
          obtain ⟨A9, c9, rfl⟩ := Own.rdN2 ho hL9
          clear hL9
          rw [show a = qs.length by omega] at ho
          go_upto_region 15 with (fail)
          refine wp_region_lit ?_
          refine ls_ex (some 62) (.bool false) rfl rfl (exec_lss _ _ _ _ rfl a qs.length rfl rfl false (decide_eq_false (by omega))) ?_
          go_frame
          refine wpList_nil ?_
          go_upto_region 23 with (fail)
          refine wp_region_lit ?_
          refine ls_ex (some 86) (.pointer (some ⟨w.heap.size, 0, none⟩)) rfl rfl (exec_fieldAddr 39 _ 0 rfl _ (by kernel_rfl)) ?_
          go_frame
          refine ls_ex (some 87) (.int .i64 (P : Nat)) rfl rfl (exec_load_one 2 _ rfl w.heap.size 0 rfl (.int .i64 (P : Nat)) _ Try.underlying2 rfl (h2.at_ 0)) ?_
          go_frame
          refine ls_ex (some 88) (.agg #[.int .i64 (N1 : Nat), .int .i64 (N2 : Nat), .int .i64 (N3 : Nat)]) rfl rfl (exec_load_all 68 _ rfl Wz31.heap.size rfl _ _ _ h6 Try.underlying68 rfl 3 (by kernel_rfl) rfl) ?_
          go_frame
          refine ls_ex (some 89) (.slice A9 L9 c9) rfl rfl (exec_move _ rfl (.slice A9 L9 c9) rfl) ?_
          go_frame
          refine ls_op rfl (fun K' hK' => ?_)
          have lz145 := hB.size
          have lz146 := h2.lt
          have lz147 := h3.lt
          have lz148 := h4.lt
          have lz149 := h6.lt
          refine wp_call3 (some 90) rfl 43 _ _ _ _ rfl (fun args w => by kernel_rfl) _ _ _ rfl rfl rfl _ (schemeFor_c _ _ _ _ _ _ _ _) (fun e Wz143 h => ?_)
          obtain ⟨rfl, bz144⟩ := h
          replace hB := below_after hB bz144
          replace h2 := h2.after bz144
          replace h3 := h3.after bz144
          replace h4 := h4.after bz144
          replace h6 := h6.after bz144
          replace ho := ho.below bz144
          clear bz144
          refine ⟨_, rfl, ?_⟩
          refine hK' _ _ ?_
          clear hK' K'
          go_frame
          refine ls_op rfl (fun K' hK' => ?_)
          refine wp_store_all 39 _ _ rfl rfl Wz8.heap.size rfl #[.int .i64 (P : Nat), .int .i64 (N1 : Nat), .int .i64 (N2 : Nat), .int .i64 (N3 : Nat), .slice A9 L9 c9] rfl _ _ h4 5 (by kernel_rfl) rfl rfl (one5 _ _ _ _ _ _ _) (fun Wz150 pz151 => ?_)
          replace hB := pz151.below hB (by omega)
          replace h2 := pz151.other h2 (by omega)
          replace h3 := pz151.other h3 (by omega)
          replace h6 := pz151.other h6 (by omega)
          replace ho := ho.put pz151 (ho.off h4 (by decide))
          replace h4 : At Wz150 Wz8.heap.size (.cells #[.int .i64 (P : Nat), .int .i64 (N1 : Nat), .int .i64 (N2 : Nat), .int .i64 (N3 : Nat), .slice A9 L9 c9] 39 (0, 0)) := pz151.at_
          refine hK' _ _ ?_
          clear hK' K' pz151
          refine ls_ex (some 5) (.int .i64 0) rfl rfl (exec_assign _ rfl (.int .i64 0) rfl) ?_
          go_frame
          refine wpList_nil ?_
          go_wp2_with fail
          refine bodyPost_ret (results_at2 rfl _ _ Wz8.heap.size _ _ _ rfl _ rfl h4 Try.underlying39 rfl 5 (by kernel_rfl) rfl) rfl ?_
          unfold ResS muZ muL
          rw [HC.out]
          exact ⟨_, rfl, ho.mono (by omega), hB⟩
theorem specMultiplySchemes_c (xp xn xm xk : Int) (A : Option Addr) (c : Nat) (qs : List (List Nat)) (yp yn ym yk : Int) (B : Option Addr) (d : Nat) (rs : List (List Nat)) (w : World) (hR : Rd w A qs) (hlx : qs.length ≤ 1048576) (hS : Rd w B rs) (hly : rs.length ≤ 1048576) : Calls Try.prog 14 #[.agg #[.int .i64 xp, .int .i64 xn, .int .i64 xm, .int .i64 xk, .slice A qs.length c], .agg #[.int .i64 yp, .int .i64 yn, .int .i64 ym, .int .i64 yk, .slice B rs.length d]] w (ResS w (muZ (muCode xp xn xm xk qs yp yn ym yk rs) xp) (muZ (muCode xp xn xm xk qs yp yn ym yk rs) (xn * yn)) (muZ (muCode xp xn xm xk qs yp yn ym yk rs) (xm * ym)) (muZ (muCode xp xn xm xk qs yp yn ym yk rs) (xk * yk)) (muL (muCode xp xn xm xk qs yp yn ym yk rs) (muR xp xn xm xk yn ym yk qs rs)) (muCode xp xn xm xk qs yp yn ym yk rs)) := by
  by_cases hx : schemeB xp xn xm xk qs = true
  · by_cases hy : schemeB yp yn ym yk rs = true
    · by_cases hp : xp = yp
      · subst hp
        obtain ⟨P, n, m, k, rfl, rfl, rfl, rfl⟩ := muNat hx
        obtain ⟨P', u, v, t, _, rfl, rfl, rfl⟩ := muNat hy
        by_cases h1 : n * u ≤ 3
        · by_cases h2 : m * v ≤ 3
          · by_cases h3 : k * t ≤ 3
            · by_cases h4 : qs.length * rs.length ≤ 30
              · exact specMu_y P n m k A c qs u v t B d rs w hR hlx hS hly hx hy h1 h2 h3 h4
              · exact specMu_c4 P n m k A c qs u v t B d rs w hR hlx hS hly hx hy h1 h2 h3 (by omega)
            · exact specMu_c3 P n m k A c qs u v t B d rs w hR hlx hS hly hx hy h1 h2 (by omega)
          · exact specMu_c2 P n m k A c qs u v t B d rs w hR hlx hS hly hx hy h1 (by omega)
        · exact specMu_c1 P n m k A c qs u v t B d rs w hR hlx hS hly hx hy (by omega)
      · exact specMu_b xp xn xm xk A c qs yp yn ym yk B d rs w hR hlx hS hly hx hy hp
    · exact specMu_a2 xp xn xm xk A c qs yp yn ym yk B d rs w hR hlx hS hly hx (by simpa using hy)
  · exact specMu_a1 xp xn xm xk A c qs yp yn ym yk B d rs w hR hlx hS hly (by simpa using hx)
theorem implMultiplySchemes_c (xp xn xm xk : Int) (A : Option Addr) (c : Nat) (qs : List (List Nat)) (yp yn ym yk : Int) (B : Option Addr) (d : Nat) (rs : List (List Nat)) (w : World) (hR : Rd w A qs) (hlx : qs.length ≤ 1048576) (hS : Rd w B rs) (hly : rs.length ≤ 1048576) : Calls Try.prog 16 #[.agg #[.int .i64 xp, .int .i64 xn, .int .i64 xm, .int .i64 xk, .slice A qs.length c], .agg #[.int .i64 yp, .int .i64 yn, .int .i64 ym, .int .i64 yk, .slice B rs.length d]] w (ResS w (muZ (muCode xp xn xm xk qs yp yn ym yk rs) xp) (muZ (muCode xp xn xm xk qs yp yn ym yk rs) (xn * yn)) (muZ (muCode xp xn xm xk qs yp yn ym yk rs) (xm * ym)) (muZ (muCode xp xn xm xk qs yp yn ym yk rs) (xk * yk)) (muL (muCode xp xn xm xk qs yp yn ym yk rs) (muR xp xn xm xk yn ym yk qs rs)) (muCode xp xn xm xk qs yp yn ym yk rs)) := by
  by_cases hx : schemeB xp xn xm xk qs = true
  · by_cases hy : schemeB yp yn ym yk rs = true
    · by_cases hp : xp = yp
      · subst hp
        obtain ⟨P, n, m, k, rfl, rfl, rfl, rfl⟩ := muNat hx
        obtain ⟨P', u, v, t, _, rfl, rfl, rfl⟩ := muNat hy
        by_cases h : n * u ≤ 3 ∧ m * v ≤ 3 ∧ k * t ≤ 3
        · obtain ⟨h1, h2, h3⟩ := h
          by_cases h4 : qs.length * rs.length ≤ 30
          · exact implMu_y P n m k A c qs u v t B d rs w hR hlx hS hly hx hy h1 h2 h3 h4
          · exact implMu_d P n m k A c qs u v t B d rs w hR hlx hS hly hx hy h1 h2 h3 (by omega)
        · exact implMu_c P n m k A c qs u v t B d rs w hR hlx hS hly hx hy h
      · exact implMu_b xp xn xm xk A c qs yp yn ym yk B d rs w hR hlx hS hly hx hy hp
    · exact implMu_a2 xp xn xm xk A c qs yp yn ym yk B d rs w hR hlx hS hly hx (by simpa using hy)
  · exact implMu_a1 xp xn xm xk A c qs yp yn ym yk B d rs w hR hlx hS hly (by simpa using hx)
theorem muR_bytes {P n m k u v t : Int} {qs rs : List (List Nat)} (hP : 2 ≤ P ∧ P ≤ 5) : ∀ r ∈ muR P n m k u v t qs rs, Bytes 27 r := by
  intro r hr
  unfold muR muO at hr
  obtain ⟨q, hq, hr⟩ := List.mem_flatMap.1 hr
  obtain ⟨s, hs, rfl⟩ := List.mem_map.1 hr
  refine ⟨muQ_len _ _ _ _ _ _ _ _ _, fun x hx => ?_⟩
  have b := fun (a b c d : Nat) (f g : List Nat) => (mulF_bytes a b c d f g (show 2 ≤ P.toNat ∧ P.toNat ≤ 5 by omega)).2 x
  simp only [muQ, cat3] at hx
  rcases List.mem_append.1 hx with hx | hx
  · rcases List.mem_append.1 hx with hx | hx
    · exact b _ _ _ _ _ _ hx
    · exact b _ _ _ _ _ _ hx
  · exact b _ _ _ _ _ _ hx
section
variable {xp xn xm xk yp yn ym yk : Int} {qs rs : List (List Nat)}
theorem mu_code0 (h : muCode xp xn xm xk qs yp yn ym yk rs = 0) : schemeB xp xn xm xk qs = true ∧ qs.length * rs.length ≤ 30 := by
  unfold muCode at h
  split at h
  · rename_i h1
    split at h
    · split at h
      · rename_i h2
        exact ⟨by simp only [Bool.and_eq_true] at h1; exact h1.1, h2.2.2.2⟩
      · cases h
    · cases h
  · cases h
theorem mu_bytes : ∀ r ∈ muL (muCode xp xn xm xk qs yp yn ym yk rs) (muR xp xn xm xk yn ym yk qs rs), Bytes 27 r := by
  intro r hr
  unfold muL at hr
  split at hr
  · rename_i h
    exact muR_bytes (prime_le5 (sizesB_parts (schemeB_sizes (mu_code0 h).1)).1) r hr
  · cases hr
theorem mu_len : (muL (muCode xp xn xm xk qs yp yn ym yk rs) (muR xp xn xm xk yn ym yk qs rs)).length ≤ 1048576 := by
  unfold muL
  split
  · rename_i h
    have h1 := (mu_code0 h).2
    have h2 := muO_len (P := xp.toNat) (n := xn.toNat) (m := xm.toNat) (k := xk.toNat) (u := yn.toNat) (v := ym.toNat) (t := yk.toNat) (qs := qs) (rs := rs) (a := qs.length)
    unfold muR
    omega
  · simp
end
end Go.Proofs.Ytopdfblfhdooaaa
