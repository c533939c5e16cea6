/-
  spec.PlainMethod. (Made by mkpmm.py.)
-/
import Derived.Test.YtdbcgbbokodndaaMt3
import Derived.Test.YtdbcgbbokodndaaTen2
import Derived.Test.YtdbcgbbokodndaaHeldT
namespace Go.Proofs.Ytdbcgbbokodndaa
open Go.RowKit
set_option maxRecDepth 100000
attribute [local irreducible] wpList
theorem tqM_wrap {c M x : Nat} (h : c / M = x) (hc : c < 1000000) : IntKind.i64.wrap ((c : Int).tdiv (M : Int)) = (x : Int) := by
  have h1 := Nat.div_le_self c M
  rw [← Int.ofNat_tdiv, h]
  exact IntWalk.i64_in _ (by omega)
theorem tmM_cast {c M x : Nat} (h : c % M = x) : (c : Int).tmod (M : Int) = (x : Int) := by rw [← Int.ofNat_tmod, h]
theorem mwM_cast {a b c : Nat} (h : a * b = c) (hc : c < 1000000000000) : IntKind.i64.wrap ((a : Int) * (b : Int)) = (c : Int) := by
  rw [← Int.natCast_mul, h]
  exact IntWalk.i64_in _ (by omega)
theorem RdI.c1m {w : World} {b off : Nat} {xs : List Int} {X : Int} {i : Nat} (h : RdI w (some ⟨b, off, none⟩) xs) (hi : xs[i]? = some X) : w.cell? ⟨b, off + i * 1, none⟩ = some (.int .i64 X) := by
  have hlt : i < xs.length := by
    rcases Nat.lt_or_ge i xs.length with h9 | h9
    · exact h9
    · rw [List.getElem?_eq_none h9] at hi; cases hi
  obtain ⟨b', off', hA0, hc⟩ := h.at_ hlt
  cases hA0
  rw [List.getElem?_eq_getElem hlt] at hi
  cases hi
  rw [Nat.mul_one]
  exact hc
theorem exec_conv8m {o : Oper} {a : Act} {w : World} (x : Operand) (ho : o.op = .convert 2 5 x) (m : Int) (y : Nat) (hx : a.eval x = .int .i64 m) (hy : y < 256) (hm : m = (y : Int)) : (execOp a.eval o).run Try.prog w = .ok (.value (.int .u8 (y : Int))) w := by
  subst hm
  have hw : IntKind.u8.wrap (y : Int) = (y : Int) := by unfold IntKind.wrap; simp [IntKind.signed, IntKind.bits]; omega
  unfold execOp
  simp only [ho, hx]
  simp [go_sem, Try.underlying5, Try.underlying2, hw]
/-- The product of the plain method for a place. -/
def plP (b d : Nat) (x : Int) (t : Nat) : List Nat := (((List.replicate 27 0).set (t / (b * d)) x.toNat).set (9 + t / d % b) 1).set (18 + t % d) 1
def plL (b d : Nat) (xs : List Int) (n : Nat) : List (List Nat) := ((List.range n).filter fun t => !(xs[t]?.getD 0 == 0)).map fun t => plP b d (xs[t]?.getD 0) t
def plCode (p a b d : Int) (xs : List Int) : Int := if tenB p a b d xs = true then (if (plL b.toNat d.toNat xs xs.length).length ≤ 30 then 0 else 3) else 1
theorem plL_zero {b d t : Nat} {xs : List Int} {X : Int} (_ : xs[t]? = some X) (h : xs[t]?.getD 0 = 0) : plL b d xs (t + 1) = plL b d xs t := by
  unfold plL
  rw [List.range_succ, List.filter_append, List.map_append]
  simp [h]
theorem plL_step {b d t : Nat} {xs : List Int} {X : Int} (hX : xs[t]? = some X) (h : ¬ xs[t]?.getD 0 = 0) : plL b d xs (t + 1) = plL b d xs t ++ [plP b d X t] := by
  unfold plL
  rw [List.range_succ, List.filter_append, List.map_append]
  rw [hX, Option.getD_some] at h
  simp [hX, h]
theorem plL_mono {b d : Nat} {xs : List Int} {t n : Nat} (h : t ≤ n) : (plL b d xs t).length ≤ (plL b d xs n).length := by
  obtain ⟨k, rfl⟩ := Nat.le.dest h
  unfold plL
  rw [List.length_map, List.length_map]
  exact (List.Sublist.filter _ (by rw [List.range_add]; exact List.sublist_append_left _ _)).length_le
theorem plCode_full {p : Int} {a b d t : Nat} {xs : List Int} {X : Int} (hs : tenB p a b d xs = true) (hX : xs[t]? = some X) (h : ¬ xs[t]?.getD 0 = 0) (hl : 30 ≤ (plL b d xs t).length) (ht : t < xs.length) : plCode p a b d xs = 3 := by
  unfold plCode
  rw [hs, if_pos rfl, Int.toNat_natCast, Int.toNat_natCast]
  have h1 := plL_mono (b := b) (d := d) (xs := xs) (show t + 1 ≤ xs.length by omega)
  rw [plL_step hX h, List.length_append] at h1
  simp only [List.length_cons, List.length_nil] at h1
  rw [if_neg (by omega)]
theorem plCode_ok {p : Int} {a b d : Nat} {xs : List Int} (hs : tenB p a b d xs = true) (hl : (plL b d xs xs.length).length ≤ 30) : plCode p a b d xs = 0 := by
  unfold plCode
  rw [hs, if_pos rfl, Int.toNat_natCast, Int.toNat_natCast, if_pos hl]
theorem inB_of {p : Int} {xs : List Int} {t : Nat} {X : Int} (h : numsB p xs = true) (hX : xs[t]? = some X) : 0 ≤ X ∧ X < p := by
  unfold numsB at h
  have h9 := List.all_eq_true.1 h X (List.mem_of_getElem? hX)
  simpa [inB] using h9
theorem ten_parts {p : Int} {a b d : Nat} {xs : List Int} (h : tenB p a b d xs = true) : primeB p = true ∧ (1 ≤ a ∧ a ≤ 9) ∧ (1 ≤ b ∧ b ≤ 9) ∧ (1 ≤ d ∧ d ≤ 9) ∧ xs.length = a * b * d ∧ numsB p xs = true := by
  unfold tenB sideB at h
  simp only [Bool.and_eq_true, decide_eq_true_eq] at h
  obtain ⟨⟨⟨⟨⟨h1, h2⟩, h3⟩, h4⟩, h5⟩, h6⟩ := h
  refine ⟨h1, by omega, by omega, by omega, ?_, h6⟩
  rw [← Int.natCast_mul, ← Int.natCast_mul] at h5
  omega
theorem pl_idx {t a b d : Nat} (h : t < a * b * d) (hb : 0 < b) (hd : 0 < d) : t / (b * d) < a ∧ t / d % b < b ∧ t % d < d := by
  refine ⟨?_, Nat.mod_lt _ hb, Nat.mod_lt _ hd⟩
  exact Nat.div_lt_of_lt_mul (by rw [Nat.mul_comm, ← Nat.mul_assoc]; exact h)
theorem l05IsN_c (p i j k : Int) (A : Option Addr) (N c : Nat) (xs : List Int) (w : World) (hN : xs.length = N) (hr : RdI w A xs) (hn : N ≤ 1048576) :
    Calls Try.prog 30 #[.agg #[.int .i64 p, .int .i64 i, .int .i64 j, .int .i64 k, .slice A N c]] w fun e w' => e = .returned (.bool (tenB p i j k xs)) ∧ Below w.heap.size w w' := by
  subst hN
  exact l05Is_c p i j k A c xs w hr hn
set_option maxHeartbeats 4000000 in
theorem specPlain_a (p a b d : Int) (A : Option Addr) (c : Nat) (xs : List Int) (w : World) (hX : RdI w A xs) (hlen : xs.length ≤ 1048576) (hs : tenB p a b d xs = false) :
    Calls Try.prog 9 #[.agg #[.int .i64 p, .int .i64 a, .int .i64 b, .int .i64 d, .slice A xs.length c]] w (ResH w (hZ (plCode p a b d xs) p) (hZ (plCode p a b d xs) a) (hZ (plCode p a b d xs) b) (hZ (plCode p a b d xs) d) (hL (plCode p a b d xs) (plL b.toNat d.toNat xs xs.length)) (plCode p a b d xs)) := by
  have hB := Below.refl w.heap.size w
  have HC : Hid (plCode p a b d xs = 1) := Lib.hid (by unfold plCode; rw [hs]; rfl)
  have Hs := Lib.hid hs
  clear hs
  go_enter Try.func9, Try.ntmps9
  go_upto_region 0 with (fail)
  refine wp_region_lit ?_
  refine ls_op rfl (fun K' hK' => ?_)
  have lz1 := hB.size
  refine wp_new (some 1) rfl (exec_box 31 _ rfl (#[.int .i64 p, .int .i64 a, .int .i64 b, .int .i64 d, .slice A xs.length c]) rfl) (fun Wz2 nnz3 => ?_)
  have bz4 := nnz3.below (Below.refl _ _) (Nat.le_refl _)
  replace hB := below_after hB bz4
  have hz5 : At Wz2 w.heap.size (.cells #[.int .i64 p, .int .i64 a, .int .i64 b, .int .i64 d, .slice A xs.length c] 31 (0, 0)) := nnz3.at_
  refine hK' _ _ ?_
  clear hK' K' nnz3 bz4
  go_frame
  refine ls_op rfl (fun K' hK' => ?_)
  have lz6 := hB.size
  have lz7 := hz5.lt
  refine wp_new (some 2) rfl (al_impl_Method rfl) (fun Wz8 nnz9 => ?_)
  have bz10 := nnz9.below (Below.refl _ _) (Nat.le_refl _)
  replace hB := below_after hB bz10
  replace hz5 := hz5.after bz10
  have hz11 : At Wz8 Wz2.heap.size (.cells #[.int .i64 0, .int .i64 0, .int .i64 0, .int .i64 0, .slice none 0 0] 28 (0, 0)) := nnz9.at_
  refine hK' _ _ ?_
  clear hK' K' nnz9 bz10
  go_frame
  refine ls_ex (some 3) (.int .i64 0) rfl rfl (exec_assign _ rfl (.int .i64 0) rfl) ?_
  go_frame
  refine wpList_nil ?_
  go_upto_region 1 with (fail)
  refine wp_region_lit ?_
  refine ls_ex (some 7) (.agg #[.int .i64 p, .int .i64 a, .int .i64 b, .int .i64 d, .slice A xs.length c]) rfl rfl (exec_load_all 31 _ rfl w.heap.size rfl _ _ _ hz5 Try.underlying31 rfl 5 (by kernel_rfl) rfl) ?_
  go_frame
  refine ls_op rfl (fun K' hK' => ?_)
  have lz14 := hB.size
  have lz15 := hz5.lt
  have lz16 := hz11.lt
  refine wp_call1 (some 8) rfl 30 _ _ rfl (fun args w => by kernel_rfl) _ rfl _ (l05Is_c p a b d A c xs _ (hX.keep hB) (by omega)) (fun e Wz12 h => ?_)
  obtain ⟨rfl, bz13⟩ := h
  replace hB := below_after hB bz13
  replace hz5 := hz5.after bz13
  replace hz11 := hz11.after bz13
  rw [Hs.out]
  clear bz13
  refine ⟨_, rfl, ?_⟩
  refine hK' _ _ ?_
  clear hK' K'
  go_frame
  refine ls_ex (some 9) (.bool true) rfl rfl (exec_not _ _ rfl false rfl) ?_
  go_frame
  refine wpList_nil ?_
  go_upto_region 2 with (fail)
  refine wp_region_lit ?_
  refine ls_ex (some 10) (.agg #[.int .i64 0, .int .i64 0, .int .i64 0, .int .i64 0, .slice none 0 0]) rfl rfl (exec_build_nil 28 rfl _ (by kernel_rfl)) ?_
  go_frame
  refine ls_op rfl (fun K' hK' => ?_)
  refine wp_store_all 28 _ _ rfl rfl Wz2.heap.size rfl #[.int .i64 0, .int .i64 0, .int .i64 0, .int .i64 0, .slice none 0 0] rfl _ _ hz11 5 (by kernel_rfl) rfl rfl (one5 _ _ _ _ _ _ _) (fun Wz17 pz18 => ?_)
  replace hB := pz18.below hB (by omega)
  replace hz5 := pz18.other hz5 (by omega)
  replace hz11 : At Wz17 Wz2.heap.size (.cells #[.int .i64 0, .int .i64 0, .int .i64 0, .int .i64 0, .slice none 0 0] 28 (0, 0)) := pz18.at_
  refine hK' _ _ ?_
  clear hK' K' pz18
  refine ls_ex (some 3) (.int .i64 1) rfl rfl (exec_assign _ rfl (.int .i64 1) rfl) ?_
  go_frame
  refine wpList_nil ?_
  go_wp2_with fail
  refine bodyPost_ret (results_at2 rfl _ _ Wz2.heap.size _ _ _ rfl _ rfl hz11 Try.underlying28 rfl 5 (by kernel_rfl) rfl) rfl ?_
  unfold ResH hZ hL
  rw [HC.out]
  exact ⟨_, rfl, Own.nil _ _, hB⟩
set_option maxHeartbeats 25600000 in
theorem specPlain_y (p : Int) (a b d : Nat) (bB oB c N : Nat) (xs : List Int) (w : World) (hX : RdI w (some ⟨bB, oB, none⟩) xs) (hxl : xs.length = N) (hs : tenB p a b d xs = true) :
    Calls Try.prog 9 #[.agg #[.int .i64 p, .int .i64 a, .int .i64 b, .int .i64 d, .slice (some ⟨bB, oB, none⟩) N c]] w (ResH w (hZ (plCode p a b d xs) p) (hZ (plCode p a b d xs) a) (hZ (plCode p a b d xs) b) (hZ (plCode p a b d xs) d) (hL (plCode p a b d xs) (plL ((b : Int)).toNat ((d : Int)).toNat xs xs.length)) (plCode p a b d xs)) := by
  have hB := Below.refl w.heap.size w
  have hp5 := prime_le5 (ten_parts hs).1
  have hdm := (ten_parts hs).2
  have ha1 : 1 ≤ a ∧ a ≤ 9 := hdm.1
  have hb0 : 1 ≤ b ∧ b ≤ 9 := hdm.2.1
  have hd0 : 1 ≤ d ∧ d ≤ 9 := hdm.2.2.1
  have hb1 : 0 < b := hb0.1
  have hd1 : 0 < d := hd0.1
  have HN3 : Hid (a * b * d = N) := Lib.hid (by rw [← hxl]; exact hdm.2.2.2.1.symm)
  have HNb := Lib.hid hdm.2.2.2.2
  have hNb : N ≤ 729 := by rw [← HN3.out]; exact Nat.le_trans (Nat.mul_le_mul (Nat.mul_le_mul ha1.2 hb0.2) hd0.2) (by decide)
  have HXl := Lib.hid hxl
  have hs9 := Lib.hid hs
  have Hs := Lib.hid hs
  clear hs hxl hdm
  go_enter Try.func9, Try.ntmps9
  go_upto_region 0 with (fail)
  refine wp_region_lit ?_
  refine ls_op rfl (fun K' hK' => ?_)
  have lz1 := hB.size
  refine wp_new (some 1) rfl (exec_box 31 _ rfl (#[.int .i64 p, .int .i64 a, .int .i64 b, .int .i64 d, .slice (some ⟨bB, oB, none⟩) N c]) rfl) (fun Wz2 nnz3 => ?_)
  have bz4 := nnz3.below (Below.refl _ _) (Nat.le_refl _)
  replace hB := below_after hB bz4
  have hz5 : At Wz2 w.heap.size (.cells #[.int .i64 p, .int .i64 a, .int .i64 b, .int .i64 d, .slice (some ⟨bB, oB, none⟩) N c] 31 (0, 0)) := nnz3.at_
  refine hK' _ _ ?_
  clear hK' K' nnz3 bz4
  go_frame
  refine ls_op rfl (fun K' hK' => ?_)
  have lz6 := hB.size
  have lz7 := hz5.lt
  refine wp_new (some 2) rfl (al_impl_Method rfl) (fun Wz8 nnz9 => ?_)
  have bz10 := nnz9.below (Below.refl _ _) (Nat.le_refl _)
  replace hB := below_after hB bz10
  replace hz5 := hz5.after bz10
  have hz11 : At Wz8 Wz2.heap.size (.cells #[.int .i64 0, .int .i64 0, .int .i64 0, .int .i64 0, .slice none 0 0] 28 (0, 0)) := nnz9.at_
  refine hK' _ _ ?_
  clear hK' K' nnz9 bz10
  go_frame
  refine ls_ex (some 3) (.int .i64 0) rfl rfl (exec_assign _ rfl (.int .i64 0) rfl) ?_
  go_frame
  refine wpList_nil ?_
  go_upto_region 1 with (fail)
  refine wp_region_lit ?_
  refine ls_ex (some 7) (.agg #[.int .i64 p, .int .i64 a, .int .i64 b, .int .i64 d, .slice (some ⟨bB, oB, none⟩) N c]) rfl rfl (exec_load_all 31 _ rfl w.heap.size rfl _ _ _ hz5 Try.underlying31 rfl 5 (by kernel_rfl) rfl) ?_
  go_frame
  refine ls_op rfl (fun K' hK' => ?_)
  have lz14 := hB.size
  have lz15 := hz5.lt
  have lz16 := hz11.lt
  refine wp_call1 (some 8) rfl 30 _ _ rfl (fun args w => by kernel_rfl) _ rfl _ (l05IsN_c p a b d (some ⟨bB, oB, none⟩) N c xs _ HXl.out (hX.keep hB) (by omega)) (fun e Wz12 h => ?_)
  obtain ⟨rfl, bz13⟩ := h
  replace hB := below_after hB bz13
  replace hz5 := hz5.after bz13
  replace hz11 := hz11.after bz13
  rw [Hs.out]
  clear bz13
  refine ⟨_, rfl, ?_⟩
  refine hK' _ _ ?_
  clear hK' K'
  go_frame
  refine ls_ex (some 9) (.bool false) rfl rfl (exec_not _ _ rfl true rfl) ?_
  go_frame
  refine wpList_nil ?_
  go_upto_region 3 with (fail)
  refine wp_region_lit ?_
  refine ls_ex (some 11) (.pointer (some ⟨w.heap.size, 0, none⟩)) rfl rfl (exec_fieldAddr 31 _ 0 rfl _ (by kernel_rfl)) ?_
  go_frame
  refine ls_ex (some 12) (.int .i64 p) rfl rfl (exec_load_one 2 _ rfl w.heap.size 0 rfl (.int .i64 p) _ Try.underlying2 rfl (hz5.at_ 0)) ?_
  go_frame
  refine ls_ex (some 13) (.pointer (some ⟨w.heap.size, 1, none⟩)) rfl rfl (exec_fieldAddr 31 _ 1 rfl _ (by kernel_rfl)) ?_
  go_frame
  refine ls_ex (some 14) (.int .i64 a) rfl rfl (exec_load_one 2 _ rfl w.heap.size 1 rfl (.int .i64 a) _ Try.underlying2 rfl (hz5.at_ 1)) ?_
  go_frame
  refine ls_ex (some 15) (.pointer (some ⟨w.heap.size, 2, none⟩)) rfl rfl (exec_fieldAddr 31 _ 2 rfl _ (by kernel_rfl)) ?_
  go_frame
  refine ls_ex (some 16) (.int .i64 b) rfl rfl (exec_load_one 2 _ rfl w.heap.size 2 rfl (.int .i64 b) _ Try.underlying2 rfl (hz5.at_ 2)) ?_
  go_frame
  refine ls_ex (some 17) (.pointer (some ⟨w.heap.size, 3, none⟩)) rfl rfl (exec_fieldAddr 31 _ 3 rfl _ (by kernel_rfl)) ?_
  go_frame
  refine ls_ex (some 18) (.int .i64 d) rfl rfl (exec_load_one 2 _ rfl w.heap.size 3 rfl (.int .i64 d) _ Try.underlying2 rfl (hz5.at_ 3)) ?_
  go_frame
  refine ls_op rfl (fun K' hK' => ?_)
  have lz20 := hB.size
  have lz21 := hz5.lt
  have lz22 := hz11.lt
  refine wp_new (some 19) rfl (exec_bs0 rfl) (fun Wz17 nnz18 => ?_)
  have bz19 := nnz18.below (Below.refl _ _) (Nat.le_refl _)
  replace hB := below_after hB bz19
  replace hz5 := hz5.after bz19
  replace hz11 := hz11.after bz19
  have ho : Own Wz17 w.heap.size (.slice (some ⟨Wz12.heap.size, 0, none⟩) 0 0) [] := (own_bs0 nnz18).mono (by have := hB.size; omega)
  refine hK' _ _ ?_
  clear hK' K' nnz18 bz19
  go_frame
  refine ls_ex (some 20) (.agg #[.int .i64 p, .int .i64 a, .int .i64 b, .int .i64 d, .slice (some ⟨Wz12.heap.size, 0, none⟩) 0 0]) rfl rfl (exec_build_meth _ _ _ _ _ rfl p a b d _ 0 0 rfl rfl rfl rfl rfl) ?_
  go_frame
  refine ls_op rfl (fun K' hK' => ?_)
  have lz23 := hB.size
  have lz24 := hz5.lt
  have lz25 := hz11.lt
  have naz30 := ho.away_new
  refine wp_new (some 4) rfl (al_impl_Method rfl) (fun Wz26 nnz27 => ?_)
  have bz28 := nnz27.below (Below.refl _ _) (Nat.le_refl _)
  replace hB := below_after hB bz28
  replace hz5 := hz5.after bz28
  replace hz11 := hz11.after bz28
  replace ho := ho.below bz28
  have hz29 : At Wz26 Wz17.heap.size (.cells #[.int .i64 0, .int .i64 0, .int .i64 0, .int .i64 0, .slice none 0 0] 28 (0, 0)) := nnz27.at_
  refine hK' _ _ ?_
  clear hK' K' nnz27 bz28
  go_frame
  refine ls_op rfl (fun K' hK' => ?_)
  refine wp_store_all 28 _ _ rfl rfl Wz17.heap.size rfl #[.int .i64 p, .int .i64 a, .int .i64 b, .int .i64 d, .slice (some ⟨Wz12.heap.size, 0, none⟩) 0 0] rfl _ _ hz29 5 (by kernel_rfl) rfl rfl (one5 _ _ _ _ _ _ _) (fun Wz31 pz32 => ?_)
  replace hB := pz32.below hB (by omega)
  replace hz5 := pz32.other hz5 (by omega)
  replace hz11 := pz32.other hz11 (by omega)
  replace ho := ho.put pz32 naz30
  replace hz29 : At Wz31 Wz17.heap.size (.cells #[.int .i64 p, .int .i64 a, .int .i64 b, .int .i64 d, .slice (some ⟨Wz12.heap.size, 0, none⟩) 0 0] 28 (0, 0)) := pz32.at_
  refine hK' _ _ ?_
  clear hK' K' pz32
  refine wpList_nil ?_
  go_upto_region 4 with (fail)
  refine wp_region_lit ?_
  refine ls_ex (some 5) (.int .i64 0) rfl rfl (exec_assign _ rfl (.int .i64 0) rfl) ?_
  go_frame
  refine wpList_nil ?_
  go_wp2_with fail
  go_loopw [5] (fun s5 wr => ∃ (t : Nat) (v : Value), t ≤ N ∧ s5 = .int .i64 t ∧ (plL b d xs (t)).length ≤ 30 ∧ Below w.heap.size w wr ∧ At wr w.heap.size (.cells #[.int .i64 p, .int .i64 a, .int .i64 b, .int .i64 d, .slice (some ⟨bB, oB, none⟩) N c] 31 (0, 0)) ∧ At wr Wz2.heap.size (.cells #[.int .i64 0, .int .i64 0, .int .i64 0, .int .i64 0, .slice none 0 0] 28 (0, 0)) ∧ At wr Wz17.heap.size (.cells #[.int .i64 p, .int .i64 a, .int .i64 b, .int .i64 d, v] 28 (0, 0)) ∧ Own wr w.heap.size v (plL b d xs (t))) (fun s5 _ => N - (intOf s5).toNat)
  case atStart => exact ⟨0, _, by omega, rfl, by simp [plL], hB, hz5, hz11, hz29, ho.mono (by omega)⟩
  case round =>
    clear hB hz5 hz11 ho hz29
    obtain ⟨t, v, ht, rfl, hl30, hB, h1, h2, h4, ho⟩ := hrel
    by_cases hlt : t < N
    · by_cases hx0 : xs[t]?.getD 0 = 0
      · obtain ⟨X, hXg⟩ : ∃ z9, xs[t]? = some z9 := ⟨_, List.getElem?_eq_getElem (by rw [HXl.out]; exact hlt)⟩
        have hXb := inB_of HNb.out hXg
        have HXg := Lib.hid hXg
        have hxX : xs[t]?.getD 0 = X := by rw [hXg]; rfl
        have hX0 : X = 0 := by rw [← hxX]; exact hx0
        have HP : Hid (plL b d xs (t + 1) = plL b d xs (t)) := Lib.hid (plL_zero hXg hx0)
        obtain ⟨A9, c9, rfl⟩ := Own.rdN2 ho rfl
        clear hXg
        go_upto_region 5 with (fail)
        refine wp_region_lit ?_
        refine ls_ex (some 21) (.int .i64 t) rfl rfl (exec_move _ rfl (.int .i64 t) rfl) ?_
        go_frame
        refine ls_ex (some 22) (.pointer (some ⟨w.heap.size, 4, none⟩)) rfl rfl (exec_fieldAddr 31 _ 4 rfl _ (by kernel_rfl)) ?_
        go_frame
        refine ls_ex (some 23) (.slice (some ⟨bB, oB, none⟩) N c) rfl rfl (exec_load_one 22 _ rfl w.heap.size 4 rfl (.slice (some ⟨bB, oB, none⟩) N c) _ Try.underlying22 rfl (h1.at_ 4)) ?_
        go_frame
        refine ls_ex (some 24) (.int .i64 N) rfl rfl (exec_len _ 22 2 rfl ((some ⟨bB, oB, none⟩)) N c rfl Try.underlying22) ?_
        go_frame
        refine ls_ex (some 25) (.bool true) rfl rfl (exec_lss _ _ _ _ rfl t N rfl rfl true (decide_eq_true (by omega))) ?_
        go_frame
        refine wpList_nil ?_
        go_upto_region 7 with (fail)
        refine wp_region_lit ?_
        refine ls_ex (some 28) (.pointer (some ⟨w.heap.size, 4, none⟩)) rfl rfl (exec_fieldAddr 31 _ 4 rfl _ (by kernel_rfl)) ?_
        go_frame
        refine ls_ex (some 29) (.slice (some ⟨bB, oB, none⟩) N c) rfl rfl (exec_load_one 22 _ rfl w.heap.size 4 rfl (.slice (some ⟨bB, oB, none⟩) N c) _ Try.underlying22 rfl (h1.at_ 4)) ?_
        go_frame
        refine ls_ex (some 30) (.int .i64 t) rfl rfl (exec_move _ rfl (.int .i64 t) rfl) ?_
        go_frame
        refine ls_ex (some 31) (.pointer (some ⟨bB, oB + t * 1, none⟩)) rfl rfl (exec_index_slice _ 2 _ _ rfl bB oB N c t 1 rfl rfl Try.underlying22 (by kernel_rfl) hlt) ?_
        go_frame
        refine ls_ex (some 32) (.int .i64 X) rfl rfl (exec_load_one 2 _ rfl bB (oB + t * 1) rfl (.int .i64 X) _ Try.underlying2 rfl (RdI.c1m (hX.keep hB) HXg.out)) ?_
        go_frame
        refine ls_ex (some 33) (.bool true) rfl rfl (exec_eql _ _ _ _ rfl X 0 rfl rfl true (by rw [hX0]; rfl)) ?_
        go_frame
        refine wpList_nil ?_
        go_upto_region 6 with (fail)
        refine wp_region_lit ?_
        refine ls_ex (some 26) (.int .i64 t) rfl rfl (exec_move _ rfl (.int .i64 t) rfl) ?_
        go_frame
        refine ls_ex (some 27) (.int .i64 (t + 1)) rfl rfl (exec_add _ _ _ _ rfl t 1 (t + 1) rfl rfl (IntWalk.i64_in _ (by omega))) ?_
        go_frame
        refine ls_ex (some 5) (.int .i64 (t + 1)) rfl rfl (exec_assign _ rfl (.int .i64 (t + 1)) rfl) ?_
        go_frame
        refine wpList_nil ?_
        go_wp2_with fail
        go_roundw
        case rel => exact ⟨t + 1, _, by omega, by go_num, by rw [HP.out]; exact hl30, hB, h1, h2, h4, by rw [HP.out]; exact ho⟩
        case measure => simp [intOf]; omega
      · by_cases hfull : (plL b d xs (t)).length = 30
        · obtain ⟨X, hXg⟩ : ∃ z9, xs[t]? = some z9 := ⟨_, List.getElem?_eq_getElem (by rw [HXl.out]; exact hlt)⟩
          have hXb := inB_of HNb.out hXg
          have HXg := Lib.hid hXg
          have hxX : xs[t]?.getD 0 = X := by rw [hXg]; rfl
          have hXn : X ≠ 0 := by rw [← hxX]; exact hx0
          obtain ⟨L, hL⟩ : ∃ z9, (plL b d xs (t)).length = z9 := ⟨_, rfl⟩
          rw [hL] at hl30 hfull
          obtain ⟨A9, c9, rfl⟩ := Own.rdN2 ho hL
          have HC : Hid (plCode p a b d xs = 3) := Lib.hid (plCode_full hs9.out hXg hx0 (by omega) (by rw [HXl.out]; exact hlt))
          clear hXg hL
          go_upto_region 5 with (fail)
          refine wp_region_lit ?_
          refine ls_ex (some 21) (.int .i64 t) rfl rfl (exec_move _ rfl (.int .i64 t) rfl) ?_
          go_frame
          refine ls_ex (some 22) (.pointer (some ⟨w.heap.size, 4, none⟩)) rfl rfl (exec_fieldAddr 31 _ 4 rfl _ (by kernel_rfl)) ?_
          go_frame
          refine ls_ex (some 23) (.slice (some ⟨bB, oB, none⟩) N c) rfl rfl (exec_load_one 22 _ rfl w.heap.size 4 rfl (.slice (some ⟨bB, oB, none⟩) N c) _ Try.underlying22 rfl (h1.at_ 4)) ?_
          go_frame
          refine ls_ex (some 24) (.int .i64 N) rfl rfl (exec_len _ 22 2 rfl ((some ⟨bB, oB, none⟩)) N c rfl Try.underlying22) ?_
          go_frame
          refine ls_ex (some 25) (.bool true) rfl rfl (exec_lss _ _ _ _ rfl t N rfl rfl true (decide_eq_true (by omega))) ?_
          go_frame
          refine wpList_nil ?_
          go_upto_region 7 with (fail)
          refine wp_region_lit ?_
          refine ls_ex (some 28) (.pointer (some ⟨w.heap.size, 4, none⟩)) rfl rfl (exec_fieldAddr 31 _ 4 rfl _ (by kernel_rfl)) ?_
          go_frame
          refine ls_ex (some 29) (.slice (some ⟨bB, oB, none⟩) N c) rfl rfl (exec_load_one 22 _ rfl w.heap.size 4 rfl (.slice (some ⟨bB, oB, none⟩) N c) _ Try.underlying22 rfl (h1.at_ 4)) ?_
          go_frame
          refine ls_ex (some 30) (.int .i64 t) rfl rfl (exec_move _ rfl (.int .i64 t) rfl) ?_
          go_frame
          refine ls_ex (some 31) (.pointer (some ⟨bB, oB + t * 1, none⟩)) rfl rfl (exec_index_slice _ 2 _ _ rfl bB oB N c t 1 rfl rfl Try.underlying22 (by kernel_rfl) hlt) ?_
          go_frame
          refine ls_ex (some 32) (.int .i64 X) rfl rfl (exec_load_one 2 _ rfl bB (oB + t * 1) rfl (.int .i64 X) _ Try.underlying2 rfl (RdI.c1m (hX.keep hB) HXg.out)) ?_
          go_frame
          refine ls_ex (some 33) (.bool false) rfl rfl (exec_eql _ _ _ _ rfl X 0 rfl rfl false (beq_eq_false_iff_ne.2 hXn)) ?_
          go_frame
          refine wpList_nil ?_
          go_upto_region 8 with (fail)
          refine wp_region_lit ?_
          refine ls_ex (some 34) (.pointer (some ⟨Wz17.heap.size, 4, none⟩)) rfl rfl (exec_fieldAddr 28 _ 4 rfl _ (by kernel_rfl)) ?_
          go_frame
          refine ls_ex (some 35) (.slice A9 L c9) rfl rfl (exec_load_one 26 _ rfl Wz17.heap.size 4 rfl (.slice A9 L c9) _ Try.underlying26 rfl (h4.at_ 4)) ?_
          go_frame
          refine ls_ex (some 36) (.int .i64 L) rfl rfl (exec_len _ 26 54 rfl A9 L c9 rfl Try.underlying26) ?_
          go_frame
          refine ls_ex (some 37) (.bool true) rfl rfl (exec_eql _ _ _ _ rfl L 30 rfl rfl true (by rw [hfull]; rfl)) ?_
          go_frame
          refine wpList_nil ?_
          go_upto_region 9 with (fail)
          refine wp_region_lit ?_
          refine ls_ex (some 38) (.agg #[.int .i64 0, .int .i64 0, .int .i64 0, .int .i64 0, .slice none 0 0]) rfl rfl (exec_build_nil 28 rfl _ (by kernel_rfl)) ?_
          go_frame
          refine ls_op rfl (fun K' hK' => ?_)
          refine wp_store_all 28 _ _ rfl rfl Wz2.heap.size rfl #[.int .i64 0, .int .i64 0, .int .i64 0, .int .i64 0, .slice none 0 0] rfl _ _ h2 5 (by kernel_rfl) rfl rfl (one5 _ _ _ _ _ _ _) (fun Wz33 pz34 => ?_)
          replace hB := pz34.below hB (by omega)
          replace h1 := pz34.other h1 (by omega)
          replace h4 := pz34.other h4 (by omega)
          replace ho := ho.put pz34 (ho.off h2 (by decide))
          replace h2 : At Wz33 Wz2.heap.size (.cells #[.int .i64 0, .int .i64 0, .int .i64 0, .int .i64 0, .slice none 0 0] 28 (0, 0)) := pz34.at_
          refine hK' _ _ ?_
          clear hK' K' pz34
          refine ls_ex (some 3) (.int .i64 3) rfl rfl (exec_assign _ rfl (.int .i64 3) rfl) ?_
          go_frame
          refine wpList_nil ?_
          go_wp2_with fail
          refine bodyPost_ret (results_at2 rfl _ _ Wz2.heap.size _ _ _ rfl _ rfl h2 Try.underlying28 rfl 5 (by kernel_rfl) rfl) rfl ?_
          unfold ResH hZ hL
          rw [HC.out]
          exact ⟨_, rfl, Own.nil _ _, hB⟩
        · obtain ⟨X, hXg⟩ : ∃ z9, xs[t]? = some z9 := ⟨_, List.getElem?_eq_getElem (by rw [HXl.out]; exact hlt)⟩
          have hXb := inB_of HNb.out hXg
          have HXg := Lib.hid hXg
          have hxX : xs[t]?.getD 0 = X := by rw [hXg]; rfl
          have hXn : X ≠ 0 := by rw [← hxX]; exact hx0
          obtain ⟨L, hL⟩ : ∃ z9, (plL b d xs (t)).length = z9 := ⟨_, rfl⟩
          rw [hL] at hl30 hfull
          obtain ⟨A9, c9, rfl⟩ := Own.rdN2 ho hL
          obtain ⟨Y, rfl⟩ := Int.eq_ofNat_of_zero_le hXb.1
          have hY8 : Y < 256 := by omega
          obtain ⟨M, hM⟩ : ∃ z9 : Nat, b * d = z9 := ⟨_, rfl⟩
          obtain ⟨I, hI⟩ : ∃ z9 : Nat, t / M = z9 := ⟨_, rfl⟩
          obtain ⟨K1, hK1⟩ : ∃ z9 : Nat, t / d = z9 := ⟨_, rfl⟩
          obtain ⟨J, hJ⟩ : ∃ z9 : Nat, K1 % b = z9 := ⟨_, rfl⟩
          obtain ⟨K, hK⟩ : ∃ z9 : Nat, t % d = z9 := ⟨_, rfl⟩
          have hIJK := pl_idx (t := t) (a := a) (b := b) (d := d) (by rw [HN3.out]; exact hlt) hb1 hd1
          rw [hM, hI, hK1, hJ, hK] at hIJK
          have hI9 : I < 9 := by omega
          have hJ9 : J < 9 := by omega
          have hK9 : K < 9 := by omega
          have hMb : 1 ≤ M ∧ M ≤ 81 := by rw [← hM]; exact ⟨Nat.mul_pos hb1 hd1, Nat.le_trans (Nat.mul_le_mul hb0.2 hd0.2) (by decide)⟩
          have hMz : (M : Int) ≠ 0 := by omega
          have hbz : (b : Int) ≠ 0 := by omega
          have hdz : (d : Int) ≠ 0 := by omega
          have HM : Hid (IntKind.i64.wrap ((b : Int) * (d : Int)) = (M : Int)) := Lib.hid (mwM_cast hM (by omega))
          have HI : Hid (IntKind.i64.wrap ((t : Int).tdiv (M : Int)) = (I : Int)) := Lib.hid (tqM_wrap hI (by omega))
          have HK1 : Hid (IntKind.i64.wrap ((t : Int).tdiv (d : Int)) = (K1 : Int)) := Lib.hid (tqM_wrap hK1 (by omega))
          have HJ : Hid ((K1 : Int).tmod (b : Int) = (J : Int)) := Lib.hid (tmM_cast hJ)
          have HK : Hid ((t : Int).tmod (d : Int) = (K : Int)) := Lib.hid (tmM_cast hK)
          obtain ⟨q1, hq1⟩ : ∃ z9, (List.replicate 27 0).set I Y = z9 := ⟨_, rfl⟩
          obtain ⟨q2, hq2⟩ : ∃ z9, q1.set (9 + J) 1 = z9 := ⟨_, rfl⟩
          obtain ⟨q3, hq3⟩ : ∃ z9, q2.set (18 + K) 1 = z9 := ⟨_, rfl⟩
          have l1 : q1.length = 27 := by rw [← hq1]; simp
          have l2 : q2.length = 27 := by rw [← hq2]; simpa using l1
          have l3 : q3.length = 27 := by rw [← hq3]; simpa using l2
          have HP : Hid (plL b d xs (t) ++ [q3] = plL b d xs (t + 1)) := Lib.hid (by rw [plL_step hXg hx0]; unfold plP; rw [hM, hI, hK1, hJ, hK, Int.toNat_natCast, hq1, hq2, hq3])
          have HL1 : Hid ((plL b d xs (t + 1)).length = L + 1) := Lib.hid (by rw [← HP.out, List.length_append, hL]; rfl)
          have HL := Lib.hid hL
          have Hq1 := Lib.hid hq1
          have Hq2 := Lib.hid hq2
          have Hq3 := Lib.hid hq3
          have H1l := Lib.hid l1
          have H2l := Lib.hid l2
          have H3l := Lib.hid l3
          clear hXg hL hM hI hK1 hJ hK hq1 hq2 hq3 l1 l2 l3 hIJK
          go_upto_region 5 with (fail)
          refine wp_region_lit ?_
          refine ls_ex (some 21) (.int .i64 t) rfl rfl (exec_move _ rfl (.int .i64 t) rfl) ?_
          go_frame
          refine ls_ex (some 22) (.pointer (some ⟨w.heap.size, 4, none⟩)) rfl rfl (exec_fieldAddr 31 _ 4 rfl _ (by kernel_rfl)) ?_
          go_frame
          refine ls_ex (some 23) (.slice (some ⟨bB, oB, none⟩) N c) rfl rfl (exec_load_one 22 _ rfl w.heap.size 4 rfl (.slice (some ⟨bB, oB, none⟩) N c) _ Try.underlying22 rfl (h1.at_ 4)) ?_
          go_frame
          refine ls_ex (some 24) (.int .i64 N) rfl rfl (exec_len _ 22 2 rfl ((some ⟨bB, oB, none⟩)) N c rfl Try.underlying22) ?_
          go_frame
          refine ls_ex (some 25) (.bool true) rfl rfl (exec_lss _ _ _ _ rfl t N rfl rfl true (decide_eq_true (by omega))) ?_
          go_frame
          refine wpList_nil ?_
          go_upto_region 7 with (fail)
          refine wp_region_lit ?_
          refine ls_ex (some 28) (.pointer (some ⟨w.heap.size, 4, none⟩)) rfl rfl (exec_fieldAddr 31 _ 4 rfl _ (by kernel_rfl)) ?_
          go_frame
          refine ls_ex (some 29) (.slice (some ⟨bB, oB, none⟩) N c) rfl rfl (exec_load_one 22 _ rfl w.heap.size 4 rfl (.slice (some ⟨bB, oB, none⟩) N c) _ Try.underlying22 rfl (h1.at_ 4)) ?_
          go_frame
          refine ls_ex (some 30) (.int .i64 t) rfl rfl (exec_move _ rfl (.int .i64 t) rfl) ?_
          go_frame
          refine ls_ex (some 31) (.pointer (some ⟨bB, oB + t * 1, none⟩)) rfl rfl (exec_index_slice _ 2 _ _ rfl bB oB N c t 1 rfl rfl Try.underlying22 (by kernel_rfl) hlt) ?_
          go_frame
          refine ls_ex (some 32) (.int .i64 Y) rfl rfl (exec_load_one 2 _ rfl bB (oB + t * 1) rfl (.int .i64 Y) _ Try.underlying2 rfl (RdI.c1m (hX.keep hB) HXg.out)) ?_
          go_frame
          refine ls_ex (some 33) (.bool false) rfl rfl (exec_eql _ _ _ _ rfl Y 0 rfl rfl false (beq_eq_false_iff_ne.2 hXn)) ?_
          go_frame
          refine wpList_nil ?_
          go_upto_region 8 with (fail)
          refine wp_region_lit ?_
          refine ls_ex (some 34) (.pointer (some ⟨Wz17.heap.size, 4, none⟩)) rfl rfl (exec_fieldAddr 28 _ 4 rfl _ (by kernel_rfl)) ?_
          go_frame
          refine ls_ex (some 35) (.slice A9 L c9) rfl rfl (exec_load_one 26 _ rfl Wz17.heap.size 4 rfl (.slice A9 L c9) _ Try.underlying26 rfl (h4.at_ 4)) ?_
          go_frame
          refine ls_ex (some 36) (.int .i64 L) rfl rfl (exec_len _ 26 54 rfl A9 L c9 rfl Try.underlying26) ?_
          go_frame
          refine ls_ex (some 37) (.bool false) rfl rfl (exec_eql _ _ _ _ rfl L 30 rfl rfl false (beq_eq_false_iff_ne.2 (by omega))) ?_
          go_frame
          refine wpList_nil ?_
          go_upto_region 10 with (fail)
          refine wp_region_lit ?_
          refine ls_ex (some 39) (.agg (u8s (List.replicate 27 0))) rfl rfl (exec_build_nil 54 rfl _ (by kernel_rfl)) ?_
          go_frame
          refine ls_op rfl (fun K' hK' => ?_)
          have lz35 := hB.size
          have lz36 := h1.lt
          have lz37 := h2.lt
          have lz38 := h4.lt
          have naz43 := ho.away_new
          refine wp_new (some 6) rfl (al_impl_Product rfl) (fun Wz39 nnz40 => ?_)
          have bz41 := nnz40.below (Below.refl _ _) (Nat.le_refl _)
          replace hB := below_after hB bz41
          replace h1 := h1.after bz41
          replace h2 := h2.after bz41
          replace h4 := h4.after bz41
          replace ho := ho.below bz41
          have hz42 : At Wz39 wr.heap.size (.cells (u8s (List.replicate 27 0)) 54 (0, 0)) := nnz40.at_
          refine hK' _ _ ?_
          clear hK' K' nnz40 bz41
          go_frame
          refine ls_op rfl (fun K' hK' => ?_)
          refine wp_store_bytes 54 _ _ rfl rfl wr.heap.size rfl (List.replicate 27 0) rfl _ _ hz42 27 (by kernel_rfl) (by simp) (by simp) (fun Wz44 pz45 => ?_)
          replace hB := pz45.below hB (by omega)
          replace h1 := pz45.other h1 (by omega)
          replace h2 := pz45.other h2 (by omega)
          replace h4 := pz45.other h4 (by omega)
          replace ho := ho.put pz45 naz43
          replace hz42 : At Wz44 wr.heap.size (.cells (u8s (List.replicate 27 0)) 54 (0, 0)) := pz45.at_
          refine hK' _ _ ?_
          clear hK' K' pz45
          refine wpList_nil ?_
          go_upto_region 11 with (fail)
          refine wp_region_y (zs := [15]) (S := fun w' => Below w.heap.size w w' ∧ At w' w.heap.size (.cells #[.int .i64 p, .int .i64 a, .int .i64 b, .int .i64 d, .slice (some ⟨bB, oB, none⟩) N c] 31 (0, 0))) (S2 := fun w' => True) (by kernel_rfl) ?_
          change wpAnyY _ _ _ _ _ _ _ _ _ _ (World.drew _)
          generalize hwdz46 : World.drew _ = wdz46
          replace hB : Below w.heap.size w wdz46 := by rw [← hwdz46]; exact hB.drew
          replace h1 : At wdz46 w.heap.size (.cells #[.int .i64 p, .int .i64 a, .int .i64 b, .int .i64 d, .slice (some ⟨bB, oB, none⟩) N c] 31 (0, 0)) := by rw [← hwdz46]; exact h1
          replace h2 : At wdz46 Wz2.heap.size (.cells #[.int .i64 0, .int .i64 0, .int .i64 0, .int .i64 0, .slice none 0 0] 28 (0, 0)) := by rw [← hwdz46]; exact h2
          replace h4 : At wdz46 Wz17.heap.size (.cells #[.int .i64 p, .int .i64 a, .int .i64 b, .int .i64 d, .slice A9 L c9] 28 (0, 0)) := by rw [← hwdz46]; exact h4
          replace ho : Own wdz46 w.heap.size (.slice A9 L c9) (plL b d xs (t)) := by rw [← hwdz46]; exact ho.drew
          replace hz42 : At wdz46 wr.heap.size (.cells (u8s (List.replicate 27 0)) 54 (0, 0)) := by rw [← hwdz46]; exact hz42
          clear hwdz46
          refine y_yield 0 (some 40) (.int .i64 t) rfl (by kernel_rfl) (by kernel_rfl) (by kernel_rfl) (fun _ _ _ h => h) rfl rfl ⟨hB, h1⟩ (fun w' h' => exec_move _ rfl (.int .i64 t) rfl) ?_
          go_frame
          refine y_yield 1 (some 41) (.pointer (some ⟨w.heap.size, 2, none⟩)) rfl (by kernel_rfl) (by kernel_rfl) (by kernel_rfl) (fun _ _ _ h => h) rfl rfl ⟨hB, h1⟩ (fun w' h' => exec_fieldAddr 31 _ 2 rfl _ (by kernel_rfl)) ?_
          go_frame
          refine y_yield 2 (some 42) (.int .i64 b) rfl (by kernel_rfl) (by kernel_rfl) (by kernel_rfl) (fun _ _ _ h => h) rfl rfl ⟨hB, h1⟩ (fun w' h' => exec_load_one 2 _ rfl w.heap.size 2 rfl (.int .i64 b) _ Try.underlying2 rfl (h'.2.at_ 2)) ?_
          go_frame
          refine y_yield 3 (some 43) (.pointer (some ⟨w.heap.size, 3, none⟩)) rfl (by kernel_rfl) (by kernel_rfl) (by kernel_rfl) (fun _ _ _ h => h) rfl rfl ⟨hB, h1⟩ (fun w' h' => exec_fieldAddr 31 _ 3 rfl _ (by kernel_rfl)) ?_
          go_frame
          refine y_yield 4 (some 44) (.int .i64 d) rfl (by kernel_rfl) (by kernel_rfl) (by kernel_rfl) (fun _ _ _ h => h) rfl rfl ⟨hB, h1⟩ (fun w' h' => exec_load_one 2 _ rfl w.heap.size 3 rfl (.int .i64 d) _ Try.underlying2 rfl (h'.2.at_ 3)) ?_
          go_frame
          refine y_yield 5 (some 45) (.int .i64 M) rfl (by kernel_rfl) (by kernel_rfl) (by kernel_rfl) (fun _ _ _ h => h) rfl rfl ⟨hB, h1⟩ (fun w' h' => exec_mul _ _ _ _ rfl b d M rfl rfl HM.out) ?_
          go_frame
          refine y_yield 6 (some 46) (.int .i64 I) rfl (by kernel_rfl) (by kernel_rfl) (by kernel_rfl) (fun _ _ _ h => h) rfl rfl ⟨hB, h1⟩ (fun w' h' => exec_quo _ _ _ _ rfl t M I rfl rfl hMz HI.out) ?_
          go_frame
          refine y_yield 7 (some 47) (.pointer (some ⟨w.heap.size, 4, none⟩)) rfl (by kernel_rfl) (by kernel_rfl) (by kernel_rfl) (fun _ _ _ h => h) rfl rfl ⟨hB, h1⟩ (fun w' h' => exec_fieldAddr 31 _ 4 rfl _ (by kernel_rfl)) ?_
          go_frame
          refine y_yield 8 (some 48) (.slice (some ⟨bB, oB, none⟩) N c) rfl (by kernel_rfl) (by kernel_rfl) (by kernel_rfl) (fun _ _ _ h => h) rfl rfl ⟨hB, h1⟩ (fun w' h' => exec_load_one 22 _ rfl w.heap.size 4 rfl (.slice (some ⟨bB, oB, none⟩) N c) _ Try.underlying22 rfl (h'.2.at_ 4)) ?_
          go_frame
          refine y_yield 9 (some 49) (.int .i64 t) rfl (by kernel_rfl) (by kernel_rfl) (by kernel_rfl) (fun _ _ _ h => h) rfl rfl ⟨hB, h1⟩ (fun w' h' => exec_move _ rfl (.int .i64 t) rfl) ?_
          go_frame
          refine y_yield 10 (some 50) (.pointer (some ⟨bB, oB + t * 1, none⟩)) rfl (by kernel_rfl) (by kernel_rfl) (by kernel_rfl) (fun _ _ _ h => h) rfl rfl ⟨hB, h1⟩ (fun w' h' => exec_index_slice _ 2 _ _ rfl bB oB N c t 1 rfl rfl Try.underlying22 (by kernel_rfl) hlt) ?_
          go_frame
          refine y_yield 11 (some 51) (.int .i64 Y) rfl (by kernel_rfl) (by kernel_rfl) (by kernel_rfl) (fun _ _ _ h => h) rfl rfl ⟨hB, h1⟩ (fun w' h' => exec_load_one 2 _ rfl bB (oB + t * 1) rfl (.int .i64 Y) _ Try.underlying2 rfl (RdI.c1m (hX.keep h'.1) HXg.out)) ?_
          go_frame
          refine y_yield 12 (some 52) (.int .u8 (Y : Nat)) rfl (by kernel_rfl) (by kernel_rfl) (by kernel_rfl) (fun _ _ _ h => h) rfl rfl ⟨hB, h1⟩ (fun w' h' => exec_conv8m _ rfl _ Y rfl hY8 rfl) ?_
          go_frame
          refine y_yield 13 (some 53) (.pointer (some ⟨wr.heap.size, 0, none⟩)) rfl (by kernel_rfl) (by kernel_rfl) (by kernel_rfl) (fun _ _ _ h => h) rfl rfl ⟨hB, h1⟩ (fun w' h' => exec_fieldAddr 54 _ 0 rfl _ (by kernel_rfl)) ?_
          go_frame
          refine y_yield 14 (some 54) (.pointer (some ⟨wr.heap.size, 0 + I * 1, none⟩)) rfl (by kernel_rfl) (by kernel_rfl) (by kernel_rfl) (fun _ _ _ h => h) rfl rfl ⟨hB, h1⟩ (fun w' h' => exec_index_arr _ 5 _ _ rfl wr.heap.size 0 9 I 1 rfl rfl Try.underlying52 (by kernel_rfl) hI9) ?_
          go_frame
          refine y_oper 15 (by kernel_rfl) rfl rfl (fun K' hK' => ?_)
          have lz49 := hB.size
          have lz50 := h1.lt
          have lz51 := h2.lt
          have lz52 := h4.lt
          have lz53 := hz42.lt
          refine wp_store_one 5 _ _ rfl rfl wr.heap.size (0 + I * 1) rfl (.int .u8 (Y : Nat)) rfl rfl rfl _ _ hz42 (by kernel_rfl) (by rw [u8s_size, List.length_replicate]; omega) (fun Wz47 pz48 => ?_)
          replace hB := pz48.below hB (by omega)
          replace h1 := pz48.other h1 (by omega)
          replace h2 := pz48.other h2 (by omega)
          replace h4 := pz48.other h4 (by omega)
          replace ho := ho.put pz48 naz43
          replace hz42 : At Wz47 wr.heap.size (.cells (u8s (q1)) 54 (0, 0)) := by have h9 := pz48.at_; rwa [show 0 + I * 1 = I by omega, u8s_set, Hq1.out] at h9
          refine hK' _ _ ⟨hB, h1⟩ (fun h => absurd (by decide) h) ?_
          clear hK' K' pz48
          refine y_done (by kernel_rfl) ?_ _
          go_upto_region 12 with (fail)
          refine wp_region_y (zs := [9]) (S := fun w' => Below w.heap.size w w' ∧ At w' w.heap.size (.cells #[.int .i64 p, .int .i64 a, .int .i64 b, .int .i64 d, .slice (some ⟨bB, oB, none⟩) N c] 31 (0, 0))) (S2 := fun w' => True) (by kernel_rfl) ?_
          change wpAnyY _ _ _ _ _ _ _ _ _ _ (World.drew _)
          generalize hwdz54 : World.drew _ = wdz54
          replace hB : Below w.heap.size w wdz54 := by rw [← hwdz54]; exact hB.drew
          replace h1 : At wdz54 w.heap.size (.cells #[.int .i64 p, .int .i64 a, .int .i64 b, .int .i64 d, .slice (some ⟨bB, oB, none⟩) N c] 31 (0, 0)) := by rw [← hwdz54]; exact h1
          replace h2 : At wdz54 Wz2.heap.size (.cells #[.int .i64 0, .int .i64 0, .int .i64 0, .int .i64 0, .slice none 0 0] 28 (0, 0)) := by rw [← hwdz54]; exact h2
          replace h4 : At wdz54 Wz17.heap.size (.cells #[.int .i64 p, .int .i64 a, .int .i64 b, .int .i64 d, .slice A9 L c9] 28 (0, 0)) := by rw [← hwdz54]; exact h4
          replace ho : Own wdz54 w.heap.size (.slice A9 L c9) (plL b d xs (t)) := by rw [← hwdz54]; exact ho.drew
          replace hz42 : At wdz54 wr.heap.size (.cells (u8s (q1)) 54 (0, 0)) := by rw [← hwdz54]; exact hz42
          clear hwdz54
          refine y_yield 0 (some 55) (.int .i64 t) rfl (by kernel_rfl) (by kernel_rfl) (by kernel_rfl) (fun _ _ _ h => h) rfl rfl ⟨hB, h1⟩ (fun w' h' => exec_move _ rfl (.int .i64 t) rfl) ?_
          go_frame
          refine y_yield 1 (some 56) (.pointer (some ⟨w.heap.size, 3, none⟩)) rfl (by kernel_rfl) (by kernel_rfl) (by kernel_rfl) (fun _ _ _ h => h) rfl rfl ⟨hB, h1⟩ (fun w' h' => exec_fieldAddr 31 _ 3 rfl _ (by kernel_rfl)) ?_
          go_frame
          refine y_yield 2 (some 57) (.int .i64 d) rfl (by kernel_rfl) (by kernel_rfl) (by kernel_rfl) (fun _ _ _ h => h) rfl rfl ⟨hB, h1⟩ (fun w' h' => exec_load_one 2 _ rfl w.heap.size 3 rfl (.int .i64 d) _ Try.underlying2 rfl (h'.2.at_ 3)) ?_
          go_frame
          refine y_yield 3 (some 58) (.int .i64 K1) rfl (by kernel_rfl) (by kernel_rfl) (by kernel_rfl) (fun _ _ _ h => h) rfl rfl ⟨hB, h1⟩ (fun w' h' => exec_quo _ _ _ _ rfl t d K1 rfl rfl hdz HK1.out) ?_
          go_frame
          refine y_yield 4 (some 59) (.pointer (some ⟨w.heap.size, 2, none⟩)) rfl (by kernel_rfl) (by kernel_rfl) (by kernel_rfl) (fun _ _ _ h => h) rfl rfl ⟨hB, h1⟩ (fun w' h' => exec_fieldAddr 31 _ 2 rfl _ (by kernel_rfl)) ?_
          go_frame
          refine y_yield 5 (some 60) (.int .i64 b) rfl (by kernel_rfl) (by kernel_rfl) (by kernel_rfl) (fun _ _ _ h => h) rfl rfl ⟨hB, h1⟩ (fun w' h' => exec_load_one 2 _ rfl w.heap.size 2 rfl (.int .i64 b) _ Try.underlying2 rfl (h'.2.at_ 2)) ?_
          go_frame
          refine y_yield 6 (some 61) (.int .i64 J) rfl (by kernel_rfl) (by kernel_rfl) (by kernel_rfl) (fun _ _ _ h => h) rfl rfl ⟨hB, h1⟩ (fun w' h' => exec_rem _ _ _ _ rfl K1 b J rfl rfl hbz HJ.out) ?_
          go_frame
          refine y_yield 7 (some 62) (.pointer (some ⟨wr.heap.size, 9, none⟩)) rfl (by kernel_rfl) (by kernel_rfl) (by kernel_rfl) (fun _ _ _ h => h) rfl rfl ⟨hB, h1⟩ (fun w' h' => exec_fieldAddr 54 _ 1 rfl _ (by kernel_rfl)) ?_
          go_frame
          refine y_yield 8 (some 63) (.pointer (some ⟨wr.heap.size, 9 + J * 1, none⟩)) rfl (by kernel_rfl) (by kernel_rfl) (by kernel_rfl) (fun _ _ _ h => h) rfl rfl ⟨hB, h1⟩ (fun w' h' => exec_index_arr _ 5 _ _ rfl wr.heap.size 9 9 J 1 rfl rfl Try.underlying52 (by kernel_rfl) hJ9) ?_
          go_frame
          refine y_oper 9 (by kernel_rfl) rfl rfl (fun K' hK' => ?_)
          have lz57 := hB.size
          have lz58 := h1.lt
          have lz59 := h2.lt
          have lz60 := h4.lt
          have lz61 := hz42.lt
          refine wp_store_one 5 _ _ rfl rfl wr.heap.size (9 + J * 1) rfl (.int .u8 (1 : Nat)) rfl rfl rfl _ _ hz42 (by kernel_rfl) (by rw [u8s_size, H1l.out]; omega) (fun Wz55 pz56 => ?_)
          replace hB := pz56.below hB (by omega)
          replace h1 := pz56.other h1 (by omega)
          replace h2 := pz56.other h2 (by omega)
          replace h4 := pz56.other h4 (by omega)
          replace ho := ho.put pz56 naz43
          replace hz42 : At Wz55 wr.heap.size (.cells (u8s (q2)) 54 (0, 0)) := by have h9 := pz56.at_; rwa [show 9 + J * 1 = 9 + J by omega, u8s_set, Hq2.out] at h9
          refine hK' _ _ ⟨hB, h1⟩ (fun h => absurd (by decide) h) ?_
          clear hK' K' pz56
          refine y_done (by kernel_rfl) ?_ _
          go_upto_region 13 with (fail)
          refine wp_region_lit ?_
          refine ls_ex (some 64) (.int .i64 t) rfl rfl (exec_move _ rfl (.int .i64 t) rfl) ?_
          go_frame
          refine ls_ex (some 65) (.pointer (some ⟨w.heap.size, 3, none⟩)) rfl rfl (exec_fieldAddr 31 _ 3 rfl _ (by kernel_rfl)) ?_
          go_frame
          refine ls_ex (some 66) (.int .i64 d) rfl rfl (exec_load_one 2 _ rfl w.heap.size 3 rfl (.int .i64 d) _ Try.underlying2 rfl (h1.at_ 3)) ?_
          go_frame
          refine ls_ex (some 67) (.int .i64 K) rfl rfl (exec_rem _ _ _ _ rfl t d K rfl rfl hdz HK.out) ?_
          go_frame
          refine ls_ex (some 68) (.pointer (some ⟨wr.heap.size, 18, none⟩)) rfl rfl (exec_fieldAddr 54 _ 2 rfl _ (by kernel_rfl)) ?_
          go_frame
          refine ls_ex (some 69) (.pointer (some ⟨wr.heap.size, 18 + K * 1, none⟩)) rfl rfl (exec_index_arr _ 5 _ _ rfl wr.heap.size 18 9 K 1 rfl rfl Try.underlying52 (by kernel_rfl) hK9) ?_
          go_frame
          refine ls_op rfl (fun K' hK' => ?_)
          have lz64 := hB.size
          have lz65 := h1.lt
          have lz66 := h2.lt
          have lz67 := h4.lt
          have lz68 := hz42.lt
          refine wp_store_one 5 _ _ rfl rfl wr.heap.size (18 + K * 1) rfl (.int .u8 (1 : Nat)) rfl rfl rfl _ _ hz42 (by kernel_rfl) (by rw [u8s_size, H2l.out]; omega) (fun Wz62 pz63 => ?_)
          replace hB := pz63.below hB (by omega)
          replace h1 := pz63.other h1 (by omega)
          replace h2 := pz63.other h2 (by omega)
          replace h4 := pz63.other h4 (by omega)
          replace ho := ho.put pz63 naz43
          replace hz42 : At Wz62 wr.heap.size (.cells (u8s (q3)) 54 (0, 0)) := by have h9 := pz63.at_; rwa [show 18 + K * 1 = 18 + K by omega, u8s_set, Hq3.out] at h9
          refine hK' _ _ ?_
          clear hK' K' pz63
          refine wpList_nil ?_
          go_upto_region 14 with (fail)
          refine wp_region_lit ?_
          refine ls_ex (some 70) (.pointer (some ⟨Wz17.heap.size, 4, none⟩)) rfl rfl (exec_fieldAddr 28 _ 4 rfl _ (by kernel_rfl)) ?_
          go_frame
          refine ls_ex (some 71) (.slice A9 L c9) rfl rfl (exec_load_one 26 _ rfl Wz17.heap.size 4 rfl (.slice A9 L c9) _ Try.underlying26 rfl (h4.at_ 4)) ?_
          go_frame
          refine ls_ex (some 72) (.agg (u8s (q3))) rfl rfl (exec_load_all 54 _ rfl wr.heap.size rfl _ _ _ hz42 Try.underlying54 rfl 27 (by kernel_rfl) ((u8s_size _).trans H3l.out)) ?_
          go_frame
          refine ls_op rfl (fun K' hK' => ?_)
          have lz69 := hB.size
          have lz70 := h1.lt
          have lz71 := h2.lt
          have lz72 := h4.lt
          have lz73 := hz42.lt
          refine wp_slice1 (some 73) rfl 26 54 _ rfl (q3) rfl Try.underlying26 infoProd H3l.out (fun Wz74 nnz75 => ?_)
          have bz76 := nnz75.below (Below.refl _ _) (Nat.le_refl _)
          replace hB := below_after hB bz76
          replace h1 := h1.after bz76
          replace h2 := h2.after bz76
          replace h4 := h4.after bz76
          replace ho := ho.below bz76
          replace hz42 := hz42.after bz76
          have hqz77 : At Wz74 Wz62.heap.size (.cells (u8s (q3)) 54 (0, 0)) := nnz75.at_
          refine hK' _ _ ?_
          clear hK' K' nnz75 bz76
          go_frame
          refine ls_op rfl (fun K' hK' => ?_)
          have lz81 := hB.size
          have lz82 := h1.lt
          have lz83 := h2.lt
          have lz84 := h4.lt
          have lz85 := hz42.lt
          have lz86 := hqz77.lt
          refine wp_appP (some 74) rfl _ _ rfl (.slice A9 L c9) (plL b d xs (t)) (q3) rfl ho Wz62.heap.size rfl hqz77 H3l.out (by rw [HL.out]; omega) (by omega) (fun v8 Wz78 noz80 grz79 => ?_)
          rw [HP.out] at noz80
          obtain ⟨A8, c8, rfl⟩ := Own.rdN2 noz80 (n := L + 1) HL1.out
          replace hB := below_grown hB grz79 ho (by omega)
          replace h1 := h1.grown grz79 (ho.off h1 (by decide))
          replace h2 := h2.grown grz79 (ho.off h2 (by decide))
          replace h4 := h4.grown grz79 (ho.off h4 (by decide))
          replace hz42 := hz42.grown grz79 naz43
          replace ho := noz80
          refine hK' _ _ ?_
          clear hK' K' grz79 hqz77
          go_frame
          refine ls_ex (some 75) (.pointer (some ⟨Wz17.heap.size, 4, none⟩)) rfl rfl (exec_fieldAddr 28 _ 4 rfl _ (by kernel_rfl)) ?_
          go_frame
          refine ls_op rfl (fun K' hK' => ?_)
          refine wp_store_one 26 _ _ rfl rfl Wz17.heap.size 4 rfl (.slice A8 (L + 1) c8) rfl rfl rfl _ _ h4 (by kernel_rfl) (by simp) (fun Wz87 pz88 => ?_)
          replace hB := pz88.below hB (by omega)
          replace h1 := pz88.other h1 (by omega)
          replace h2 := pz88.other h2 (by omega)
          replace ho := ho.put pz88 (ho.off h4 (by decide))
          replace hz42 := pz88.other hz42 (by omega)
          replace h4 : At Wz87 Wz17.heap.size (.cells #[.int .i64 p, .int .i64 a, .int .i64 b, .int .i64 d, .slice A8 (L + 1) c8] 28 (0, 0)) := pz88.at_
          refine hK' _ _ ?_
          clear hK' K' pz88
          refine wpList_nil ?_
          go_upto_region 6 with (fail)
          refine wp_region_lit ?_
          refine ls_ex (some 26) (.int .i64 t) rfl rfl (exec_move _ rfl (.int .i64 t) rfl) ?_
          go_frame
          refine ls_ex (some 27) (.int .i64 (t + 1)) rfl rfl (exec_add _ _ _ _ rfl t 1 (t + 1) rfl rfl (IntWalk.i64_in _ (by omega))) ?_
          go_frame
          refine ls_ex (some 5) (.int .i64 (t + 1)) rfl rfl (exec_assign _ rfl (.int .i64 (t + 1)) rfl) ?_
          go_frame
          refine wpList_nil ?_
          go_wp2_with fail
          go_roundw
          case rel => exact ⟨t + 1, _, by omega, by go_num, by rw [HL1.out]; omega, hB, h1, h2, h4, ho⟩
          case measure => simp [intOf]; omega
    · have ht9 : t = N := by omega
      have HP : Hid (plL b d xs (t) = plL b d xs (N)) := Lib.hid (by rw [ht9])
      rw [HP.out] at ho hl30
      have HC : Hid (plCode p a b d xs = 0) := Lib.hid (plCode_ok hs9.out (by rw [HXl.out]; exact hl30))
      obtain ⟨A9, c9, rfl⟩ := Own.rdN2 ho rfl
      go_upto_region 5 with (fail)
      refine wp_region_lit ?_
      refine ls_ex (some 21) (.int .i64 t) rfl rfl (exec_move _ rfl (.int .i64 t) rfl) ?_
      go_frame
      refine ls_ex (some 22) (.pointer (some ⟨w.heap.size, 4, none⟩)) rfl rfl (exec_fieldAddr 31 _ 4 rfl _ (by kernel_rfl)) ?_
      go_frame
      refine ls_ex (some 23) (.slice (some ⟨bB, oB, none⟩) N c) rfl rfl (exec_load_one 22 _ rfl w.heap.size 4 rfl (.slice (some ⟨bB, oB, none⟩) N c) _ Try.underlying22 rfl (h1.at_ 4)) ?_
      go_frame
      refine ls_ex (some 24) (.int .i64 N) rfl rfl (exec_len _ 22 2 rfl ((some ⟨bB, oB, none⟩)) N c rfl Try.underlying22) ?_
      go_frame
      refine ls_ex (some 25) (.bool false) rfl rfl (exec_lss _ _ _ _ rfl t N rfl rfl false (decide_eq_false (by omega))) ?_
      go_frame
      refine wpList_nil ?_
      go_upto_region 15 with (fail)
      refine wp_region_lit ?_
      refine ls_ex (some 76) (.agg #[.int .i64 p, .int .i64 a, .int .i64 b, .int .i64 d, .slice A9 (plL b d xs (N)).length c9]) rfl rfl (exec_load_all 28 _ rfl Wz17.heap.size rfl _ _ _ h4 Try.underlying28 rfl 5 (by kernel_rfl) rfl) ?_
      go_frame
      refine ls_op rfl (fun K' hK' => ?_)
      refine wp_store_all 28 _ _ rfl rfl Wz2.heap.size rfl #[.int .i64 p, .int .i64 a, .int .i64 b, .int .i64 d, .slice A9 (plL b d xs (N)).length c9] rfl _ _ h2 5 (by kernel_rfl) rfl rfl (one5 _ _ _ _ _ _ _) (fun Wz89 pz90 => ?_)
      replace hB := pz90.below hB (by omega)
      replace h1 := pz90.other h1 (by omega)
      replace h4 := pz90.other h4 (by omega)
      replace ho := ho.put pz90 (ho.off h2 (by decide))
      replace h2 : At Wz89 Wz2.heap.size (.cells #[.int .i64 p, .int .i64 a, .int .i64 b, .int .i64 d, .slice A9 (plL b d xs (N)).length c9] 28 (0, 0)) := pz90.at_
      refine hK' _ _ ?_
      clear hK' K' pz90
      refine ls_ex (some 3) (.int .i64 0) rfl rfl (exec_assign _ rfl (.int .i64 0) rfl) ?_
      go_frame
      refine wpList_nil ?_
      go_wp2_with fail
      refine bodyPost_ret (results_at2 rfl _ _ Wz2.heap.size _ _ _ rfl _ rfl h2 Try.underlying28 rfl 5 (by kernel_rfl) rfl) rfl ?_
      unfold ResH hZ hL
      rw [HC.out]
      exact ⟨_, rfl, by rw [if_pos rfl, Int.toNat_natCast, Int.toNat_natCast, HXl.out]; exact ho.mono (by omega), hB⟩
end Go.Proofs.Ytdbcgbbokodndaa
