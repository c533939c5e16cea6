/-
  spec.l03Times, l03Join; impl.multipleOf, reducedPair, ReduceScheme's function. (Made by mkrda.py.)
-/
import Derived.Test.YtemkhlokpinecaaRdm
import Derived.Test.YtemkhlokpinecaaNrm5
import Derived.Test.YtemkhlokpinecaaHeldT
import Derived.Test.YtemkhlokpinecaaTen2
namespace Go.Proofs.Ytemkhlokpinecaa
open Go.RowKit
set_option maxRecDepth 100000
attribute [local irreducible] wpList
theorem alRa_impl_Product {o : Oper} {a : Act} {w : World} (ho : o.op = .alloc 53) : (execOp a.eval o).run Try.prog w = .ok (.value (.pointer (some ⟨w.heap.size, 0, none⟩))) (w.alloc (.cells (u8s (List.replicate 27 0)) 53 (0, 0))) := by
  unfold execOp
  rw [ho]
  kernel_rfl
set_option maxHeartbeats 6400000 in
theorem l03Times_t (p : Int) (f g : List Nat) (hf : Bytes 9 f) (hg : Bytes 9 g) (w : World) (hpp : primeB p = true) (ff : FmP p f) (fg : FmP p g) (zf : zeroB f = false) (zg : zeroB g = false) (he : scF p ((lead g : Int) * inv p (lead f) % p) f = g) :
    Calls Try.prog 108 #[.int .i64 p, .agg (u8s f), .agg (u8s g)] w (fun e w' => e = .returned (.int .i64 (timF p f g)) ∧ Below w.heap.size w w') := by
  have hB := Below.refl w.heap.size w
  have hp : 2 ≤ p ∧ p ≤ 5 := prime_le5 hpp
  have la := lead_p ff zf
  have lb := lead_p fg zg
  have hE : timF p f g = (lead g : Int) * inv p (lead f) % p := by unfold timF; rw [if_pos he]
  obtain ⟨a, ha⟩ : ∃ z9, lead f = z9 := ⟨_, rfl⟩
  obtain ⟨b, hb⟩ : ∃ z9, lead g = z9 := ⟨_, rfl⟩
  rw [ha] at la
  rw [hb] at lb
  rw [ha, hb] at he hE
  have hi := inv_range hpp la.1 la.2
  obtain ⟨I, hI⟩ : ∃ z9, inv p (a : Int) = z9 := ⟨_, rfl⟩
  rw [hI] at hi he hE
  obtain ⟨M, hM⟩ : ∃ z9, (b : Int) * I = z9 := ⟨_, rfl⟩
  have hM0 : 0 ≤ M ∧ M ≤ 25 := by
    rw [← hM]
    exact ⟨Int.mul_nonneg (by omega) (by omega), (show (b : Int) * I ≤ 5 * 5 from Int.mul_le_mul (by omega) (by omega) (by omega) (by omega))⟩
  rw [hM] at he hE
  obtain ⟨T, hT⟩ : ∃ z9, M % p = z9 := ⟨_, rfl⟩
  have hT0 : 0 ≤ T ∧ T < p := by rw [← hT]; exact ⟨Int.emod_nonneg _ (by omega), Int.emod_lt_of_pos _ (by omega)⟩
  rw [hT] at he hE
  obtain ⟨S, hS⟩ : ∃ z9, scF p T f = z9 := ⟨_, rfl⟩
  have HSb : Hid (Bytes 9 S) := Lib.hid (by rw [← hS]; exact scF_bytes _ _ (by omega) (by omega))
  rw [hS] at he
  have HR := Lib.hid hE
  have HE : Hid ((!(S == g)) = false) := Lib.hid (by simp [he])
  have HI := Lib.hid hI
  have HS := Lib.hid hS
  have Hal := Lib.hid ha
  have Hbl := Lib.hid hb
  have HM : Hid (IntKind.i64.wrap ((b : Int) * I) = M) := Lib.hid (by rw [hM]; exact IntWalk.i64_in _ (by omega))
  have HT : Hid (M.tmod p = T) := Lib.hid (by rw [Int.tmod_eq_emod_of_nonneg hM0.1]; exact hT)
  clear hE he ha hb hI hM hT hS
  go_enter Try.func108, Try.ntmps108
  go_upto_region 0 with (fail)
  refine wp_region_lit ?_
  refine ls_op rfl (fun K' hK' => ?_)
  have lz1 := hB.size
  refine wp_new (some 4) rfl (exec_box 51 _ rfl (u8s (f)) rfl) (fun Wz2 nnz3 => ?_)
  have bz4 := nnz3.below (Below.refl _ _) (Nat.le_refl _)
  replace hB := below_after hB bz4
  have hz5 : At Wz2 w.heap.size (.cells (u8s (f)) 51 (0, 0)) := nnz3.at_
  refine hK' _ _ ?_
  clear hK' K' nnz3 bz4
  go_frame
  refine ls_op rfl (fun K' hK' => ?_)
  have lz6 := hB.size
  have lz7 := hz5.lt
  refine wp_new (some 5) rfl (exec_box 51 _ rfl (u8s (g)) rfl) (fun Wz8 nnz9 => ?_)
  have bz10 := nnz9.below (Below.refl _ _) (Nat.le_refl _)
  replace hB := below_after hB bz10
  replace hz5 := hz5.after bz10
  have hz11 : At Wz8 Wz2.heap.size (.cells (u8s (g)) 51 (0, 0)) := nnz9.at_
  refine hK' _ _ ?_
  clear hK' K' nnz9 bz10
  go_frame
  refine ls_ex (some 6) (.int .i64 0) rfl rfl (exec_assign _ rfl (.int .i64 0) rfl) ?_
  go_frame
  refine wpList_nil ?_
  go_upto_region 1 with (fail)
  refine wp_region_y (zs := []) (S := fun w' => Below w.heap.size w w' ∧ At w' Wz2.heap.size (.cells (u8s (g)) 51 (0, 0)) ∧ At w' w.heap.size (.cells (u8s (f)) 51 (0, 0))) (S2 := fun w' => True) (by kernel_rfl) ?_
  change wpAnyY _ _ _ _ _ _ _ _ _ _ (World.drew _)
  generalize hwdz12 : World.drew _ = wdz12
  replace hB : Below w.heap.size w wdz12 := by rw [← hwdz12]; exact hB.drew
  replace hz5 : At wdz12 w.heap.size (.cells (u8s (f)) 51 (0, 0)) := by rw [← hwdz12]; exact hz5
  replace hz11 : At wdz12 Wz2.heap.size (.cells (u8s (g)) 51 (0, 0)) := by rw [← hwdz12]; exact hz11
  clear hwdz12
  refine y_yield 0 (some 8) (.agg (u8s (g))) rfl (by kernel_rfl) (by kernel_rfl) (by kernel_rfl) (fun _ _ _ h => h) rfl rfl ⟨hB, hz11, hz5⟩ (fun w' h' => exec_load_all 51 _ rfl Wz2.heap.size rfl _ _ _ h'.2.1 Try.underlying51 rfl 9 (by kernel_rfl) ((u8s_size _).trans hg.len)) ?_
  go_frame
  refine y_yield 2 (some 10) (.int .i64 p) rfl (by kernel_rfl) (by kernel_rfl) (by kernel_rfl) (fun _ _ _ h => h) rfl rfl ⟨hB, hz11, hz5⟩ (fun w' h' => exec_move _ rfl (.int .i64 p) rfl) ?_
  go_frame
  refine y_yield 3 (some 11) (.agg (u8s (f))) rfl (by kernel_rfl) (by kernel_rfl) (by kernel_rfl) (fun _ _ _ h => h) rfl rfl ⟨hB, hz11, hz5⟩ (fun w' h' => exec_load_all 51 _ rfl w.heap.size rfl _ _ _ h'.2.2 Try.underlying51 rfl 9 (by kernel_rfl) ((u8s_size _).trans hf.len)) ?_
  go_frame
  refine y_yield 7 (some 15) (.int .i64 p) rfl (by kernel_rfl) (by kernel_rfl) (by kernel_rfl) (fun _ _ _ h => h) rfl rfl ⟨hB, hz11, hz5⟩ (fun w' h' => exec_move _ rfl (.int .i64 p) rfl) ?_
  go_frame
  refine y_oper 1 (by kernel_rfl) rfl rfl (fun K' hK' => ?_)
  have lz15 := hB.size
  have lz16 := hz5.lt
  have lz17 := hz11.lt
  refine wp_call1 (some 9) rfl 106 _ _ rfl (fun args w => by kernel_rfl) _ rfl _ (l03Lead_c g hg _) (fun e Wz13 h => ?_)
  obtain ⟨rfl, bz14⟩ := h
  replace hB := below_after hB bz14
  replace hz5 := hz5.after bz14
  replace hz11 := hz11.after bz14
  rw [Hbl.out]
  clear bz14
  refine ⟨_, rfl, ?_⟩
  refine hK' _ _ ⟨hB, hz11, hz5⟩ (fun _ => trivial) ?_
  clear hK' K'
  go_frame
  refine y_oper 4 (by kernel_rfl) rfl rfl (fun K' hK' => ?_)
  have lz20 := hB.size
  have lz21 := hz5.lt
  have lz22 := hz11.lt
  refine wp_call1 (some 12) rfl 106 _ _ rfl (fun args w => by kernel_rfl) _ rfl _ (l03Lead_c f hf _) (fun e Wz18 h => ?_)
  obtain ⟨rfl, bz19⟩ := h
  replace hB := below_after hB bz19
  replace hz5 := hz5.after bz19
  replace hz11 := hz11.after bz19
  rw [Hal.out]
  clear bz19
  refine ⟨_, rfl, ?_⟩
  refine hK' _ _ ⟨hB, hz11, hz5⟩ (fun _ => trivial) ?_
  clear hK' K'
  go_frame
  refine y_oper 5 (by kernel_rfl) rfl rfl (fun K' hK' => ?_)
  have lz25 := hB.size
  have lz26 := hz5.lt
  have lz27 := hz11.lt
  refine wp_call2 (some 13) rfl 72 _ _ _ rfl (fun args w => by kernel_rfl) _ _ rfl rfl _ (l01Inverse_c p a _ hpp (by omega) (by omega)) (fun e Wz23 h => ?_)
  obtain ⟨rfl, rfl⟩ := h
  rw [HI.out]
  refine ⟨_, rfl, ?_⟩
  refine hK' _ _ ⟨hB, hz11, hz5⟩ (fun _ => trivial) ?_
  clear hK' K'
  go_frame
  refine y_yield 6 (some 14) (.int .i64 M) rfl (by kernel_rfl) (by kernel_rfl) (by kernel_rfl) (fun _ _ _ h => h) rfl rfl ⟨hB, hz11, hz5⟩ (fun w' h' => exec_mul _ _ _ _ rfl (b : Nat) I M rfl rfl HM.out) ?_
  go_frame
  refine y_yield 8 (some 16) (.int .i64 T) rfl (by kernel_rfl) (by kernel_rfl) (by kernel_rfl) (fun _ _ _ h => h) rfl rfl ⟨hB, hz11, hz5⟩ (fun w' h' => exec_rem _ _ _ _ rfl M p T rfl rfl (by omega) HT.out) ?_
  go_frame
  refine y_oper 9 (by kernel_rfl) rfl rfl (fun K' hK' => ?_)
  refine wp_exec (some 7) rfl (.int .i64 T) (exec_assign _ rfl (.int .i64 T) rfl) ?_
  refine hK' _ _ ⟨hB, hz11, hz5⟩ (fun _ => trivial) ?_
  clear hK' K'
  go_frame
  refine y_done (by kernel_rfl) ?_ _
  go_upto_region 2 with (fail)
  refine wp_region_y (zs := []) (S := fun w' => Below w.heap.size w w' ∧ At w' w.heap.size (.cells (u8s (f)) 51 (0, 0)) ∧ At w' Wz2.heap.size (.cells (u8s (g)) 51 (0, 0))) (S2 := fun w' => True) (by kernel_rfl) ?_
  change wpAnyY _ _ _ _ _ _ _ _ _ _ (World.drew _)
  generalize hwdz28 : World.drew _ = wdz28
  replace hB : Below w.heap.size w wdz28 := by rw [← hwdz28]; exact hB.drew
  replace hz5 : At wdz28 w.heap.size (.cells (u8s (f)) 51 (0, 0)) := by rw [← hwdz28]; exact hz5
  replace hz11 : At wdz28 Wz2.heap.size (.cells (u8s (g)) 51 (0, 0)) := by rw [← hwdz28]; exact hz11
  clear hwdz28
  refine y_yield 0 (some 17) (.int .i64 p) rfl (by kernel_rfl) (by kernel_rfl) (by kernel_rfl) (fun _ _ _ h => h) rfl rfl ⟨hB, hz5, hz11⟩ (fun w' h' => exec_move _ rfl (.int .i64 p) rfl) ?_
  go_frame
  refine y_yield 1 (some 18) (.agg (u8s (f))) rfl (by kernel_rfl) (by kernel_rfl) (by kernel_rfl) (fun _ _ _ h => h) rfl rfl ⟨hB, hz5, hz11⟩ (fun w' h' => exec_load_all 51 _ rfl w.heap.size rfl _ _ _ h'.2.1 Try.underlying51 rfl 9 (by kernel_rfl) ((u8s_size _).trans hf.len)) ?_
  go_frame
  refine y_yield 2 (some 19) (.int .i64 T) rfl (by kernel_rfl) (by kernel_rfl) (by kernel_rfl) (fun _ _ _ h => h) rfl rfl ⟨hB, hz5, hz11⟩ (fun w' h' => exec_move _ rfl (.int .i64 T) rfl) ?_
  go_frame
  refine y_yield 4 (some 21) (.agg (u8s (g))) rfl (by kernel_rfl) (by kernel_rfl) (by kernel_rfl) (fun _ _ _ h => h) rfl rfl ⟨hB, hz5, hz11⟩ (fun w' h' => exec_load_all 51 _ rfl Wz2.heap.size rfl _ _ _ h'.2.2 Try.underlying51 rfl 9 (by kernel_rfl) ((u8s_size _).trans hg.len)) ?_
  go_frame
  refine y_oper 3 (by kernel_rfl) rfl rfl (fun K' hK' => ?_)
  have lz31 := hB.size
  have lz32 := hz5.lt
  have lz33 := hz11.lt
  refine wp_call3 (some 20) rfl 107 _ _ _ _ rfl (fun args w => by kernel_rfl) _ _ _ rfl rfl rfl _ (l01Scale_c p T f hf _ (by omega) (by omega) (by omega) (by omega)) (fun e Wz29 h => ?_)
  obtain ⟨rfl, bz30⟩ := h
  replace hB := below_after hB bz30
  replace hz5 := hz5.after bz30
  replace hz11 := hz11.after bz30
  rw [HS.out]
  clear bz30
  refine ⟨_, rfl, ?_⟩
  refine hK' _ _ ⟨hB, hz5, hz11⟩ (fun _ => trivial) ?_
  clear hK' K'
  go_frame
  refine y_yield 5 (some 22) (.bool false) rfl (by kernel_rfl) (by kernel_rfl) (by kernel_rfl) (fun _ _ _ h => h) rfl rfl ⟨hB, hz5, hz11⟩ (fun w' h' => exec_neqFc _ _ _ rfl (S) (g) rfl rfl HSb.out.len hg.len false HE.out) ?_
  go_frame
  refine y_done (by kernel_rfl) ?_ _
  go_upto_region 4 with (fail)
  refine wp_region_lit ?_
  refine ls_ex (some 23) (.int .i64 T) rfl rfl (exec_move _ rfl (.int .i64 T) rfl) ?_
  go_frame
  refine ls_ex (some 6) (.int .i64 T) rfl rfl (exec_assign _ rfl (.int .i64 T) rfl) ?_
  go_frame
  refine wpList_nil ?_
  go_wp2_with fail
  go_ret
  exact ⟨by rw [HR.out]; rfl, hB⟩
set_option maxHeartbeats 6400000 in
theorem l03Times_f (p : Int) (f g : List Nat) (hf : Bytes 9 f) (hg : Bytes 9 g) (w : World) (hpp : primeB p = true) (ff : FmP p f) (fg : FmP p g) (zf : zeroB f = false) (zg : zeroB g = false) (he : scF p ((lead g : Int) * inv p (lead f) % p) f ≠ g) :
    Calls Try.prog 108 #[.int .i64 p, .agg (u8s f), .agg (u8s g)] w (fun e w' => e = .returned (.int .i64 (timF p f g)) ∧ Below w.heap.size w w') := by
  have hB := Below.refl w.heap.size w
  have hp : 2 ≤ p ∧ p ≤ 5 := prime_le5 hpp
  have la := lead_p ff zf
  have lb := lead_p fg zg
  have hE : timF p f g = 0 := by unfold timF; rw [if_neg he]
  obtain ⟨a, ha⟩ : ∃ z9, lead f = z9 := ⟨_, rfl⟩
  obtain ⟨b, hb⟩ : ∃ z9, lead g = z9 := ⟨_, rfl⟩
  rw [ha] at la
  rw [hb] at lb
  rw [ha, hb] at he
  have hi := inv_range hpp la.1 la.2
  obtain ⟨I, hI⟩ : ∃ z9, inv p (a : Int) = z9 := ⟨_, rfl⟩
  rw [hI] at hi he
  obtain ⟨M, hM⟩ : ∃ z9, (b : Int) * I = z9 := ⟨_, rfl⟩
  have hM0 : 0 ≤ M ∧ M ≤ 25 := by
    rw [← hM]
    exact ⟨Int.mul_nonneg (by omega) (by omega), (show (b : Int) * I ≤ 5 * 5 from Int.mul_le_mul (by omega) (by omega) (by omega) (by omega))⟩
  rw [hM] at he
  obtain ⟨T, hT⟩ : ∃ z9, M % p = z9 := ⟨_, rfl⟩
  have hT0 : 0 ≤ T ∧ T < p := by rw [← hT]; exact ⟨Int.emod_nonneg _ (by omega), Int.emod_lt_of_pos _ (by omega)⟩
  rw [hT] at he
  obtain ⟨S, hS⟩ : ∃ z9, scF p T f = z9 := ⟨_, rfl⟩
  have HSb : Hid (Bytes 9 S) := Lib.hid (by rw [← hS]; exact scF_bytes _ _ (by omega) (by omega))
  rw [hS] at he
  have HR := Lib.hid hE
  have HE : Hid ((!(S == g)) = true) := Lib.hid (by simp [he])
  have HI := Lib.hid hI
  have HS := Lib.hid hS
  have Hal := Lib.hid ha
  have Hbl := Lib.hid hb
  have HM : Hid (IntKind.i64.wrap ((b : Int) * I) = M) := Lib.hid (by rw [hM]; exact IntWalk.i64_in _ (by omega))
  have HT : Hid (M.tmod p = T) := Lib.hid (by rw [Int.tmod_eq_emod_of_nonneg hM0.1]; exact hT)
  clear hE he ha hb hI hM hT hS
  go_enter Try.func108, Try.ntmps108
  go_upto_region 0 with (fail)
  refine wp_region_lit ?_
  refine ls_op rfl (fun K' hK' => ?_)
  have lz1 := hB.size
  refine wp_new (some 4) rfl (exec_box 51 _ rfl (u8s (f)) rfl) (fun Wz2 nnz3 => ?_)
  have bz4 := nnz3.below (Below.refl _ _) (Nat.le_refl _)
  replace hB := below_after hB bz4
  have hz5 : At Wz2 w.heap.size (.cells (u8s (f)) 51 (0, 0)) := nnz3.at_
  refine hK' _ _ ?_
  clear hK' K' nnz3 bz4
  go_frame
  refine ls_op rfl (fun K' hK' => ?_)
  have lz6 := hB.size
  have lz7 := hz5.lt
  refine wp_new (some 5) rfl (exec_box 51 _ rfl (u8s (g)) rfl) (fun Wz8 nnz9 => ?_)
  have bz10 := nnz9.below (Below.refl _ _) (Nat.le_refl _)
  replace hB := below_after hB bz10
  replace hz5 := hz5.after bz10
  have hz11 : At Wz8 Wz2.heap.size (.cells (u8s (g)) 51 (0, 0)) := nnz9.at_
  refine hK' _ _ ?_
  clear hK' K' nnz9 bz10
  go_frame
  refine ls_ex (some 6) (.int .i64 0) rfl rfl (exec_assign _ rfl (.int .i64 0) rfl) ?_
  go_frame
  refine wpList_nil ?_
  go_upto_region 1 with (fail)
  refine wp_region_y (zs := []) (S := fun w' => Below w.heap.size w w' ∧ At w' Wz2.heap.size (.cells (u8s (g)) 51 (0, 0)) ∧ At w' w.heap.size (.cells (u8s (f)) 51 (0, 0))) (S2 := fun w' => True) (by kernel_rfl) ?_
  change wpAnyY _ _ _ _ _ _ _ _ _ _ (World.drew _)
  generalize hwdz12 : World.drew _ = wdz12
  replace hB : Below w.heap.size w wdz12 := by rw [← hwdz12]; exact hB.drew
  replace hz5 : At wdz12 w.heap.size (.cells (u8s (f)) 51 (0, 0)) := by rw [← hwdz12]; exact hz5
  replace hz11 : At wdz12 Wz2.heap.size (.cells (u8s (g)) 51 (0, 0)) := by rw [← hwdz12]; exact hz11
  clear hwdz12
  refine y_yield 0 (some 8) (.agg (u8s (g))) rfl (by kernel_rfl) (by kernel_rfl) (by kernel_rfl) (fun _ _ _ h => h) rfl rfl ⟨hB, hz11, hz5⟩ (fun w' h' => exec_load_all 51 _ rfl Wz2.heap.size rfl _ _ _ h'.2.1 Try.underlying51 rfl 9 (by kernel_rfl) ((u8s_size _).trans hg.len)) ?_
  go_frame
  refine y_yield 2 (some 10) (.int .i64 p) rfl (by kernel_rfl) (by kernel_rfl) (by kernel_rfl) (fun _ _ _ h => h) rfl rfl ⟨hB, hz11, hz5⟩ (fun w' h' => exec_move _ rfl (.int .i64 p) rfl) ?_
  go_frame
  refine y_yield 3 (some 11) (.agg (u8s (f))) rfl (by kernel_rfl) (by kernel_rfl) (by kernel_rfl) (fun _ _ _ h => h) rfl rfl ⟨hB, hz11, hz5⟩ (fun w' h' => exec_load_all 51 _ rfl w.heap.size rfl _ _ _ h'.2.2 Try.underlying51 rfl 9 (by kernel_rfl) ((u8s_size _).trans hf.len)) ?_
  go_frame
  refine y_yield 7 (some 15) (.int .i64 p) rfl (by kernel_rfl) (by kernel_rfl) (by kernel_rfl) (fun _ _ _ h => h) rfl rfl ⟨hB, hz11, hz5⟩ (fun w' h' => exec_move _ rfl (.int .i64 p) rfl) ?_
  go_frame
  refine y_oper 1 (by kernel_rfl) rfl rfl (fun K' hK' => ?_)
  have lz15 := hB.size
  have lz16 := hz5.lt
  have lz17 := hz11.lt
  refine wp_call1 (some 9) rfl 106 _ _ rfl (fun args w => by kernel_rfl) _ rfl _ (l03Lead_c g hg _) (fun e Wz13 h => ?_)
  obtain ⟨rfl, bz14⟩ := h
  replace hB := below_after hB bz14
  replace hz5 := hz5.after bz14
  replace hz11 := hz11.after bz14
  rw [Hbl.out]
  clear bz14
  refine ⟨_, rfl, ?_⟩
  refine hK' _ _ ⟨hB, hz11, hz5⟩ (fun _ => trivial) ?_
  clear hK' K'
  go_frame
  refine y_oper 4 (by kernel_rfl) rfl rfl (fun K' hK' => ?_)
  have lz20 := hB.size
  have lz21 := hz5.lt
  have lz22 := hz11.lt
  refine wp_call1 (some 12) rfl 106 _ _ rfl (fun args w => by kernel_rfl) _ rfl _ (l03Lead_c f hf _) (fun e Wz18 h => ?_)
  obtain ⟨rfl, bz19⟩ := h
  replace hB := below_after hB bz19
  replace hz5 := hz5.after bz19
  replace hz11 := hz11.after bz19
  rw [Hal.out]
  clear bz19
  refine ⟨_, rfl, ?_⟩
  refine hK' _ _ ⟨hB, hz11, hz5⟩ (fun _ => trivial) ?_
  clear hK' K'
  go_frame
  refine y_oper 5 (by kernel_rfl) rfl rfl (fun K' hK' => ?_)
  have lz25 := hB.size
  have lz26 := hz5.lt
  have lz27 := hz11.lt
  refine wp_call2 (some 13) rfl 72 _ _ _ rfl (fun args w => by kernel_rfl) _ _ rfl rfl _ (l01Inverse_c p a _ hpp (by omega) (by omega)) (fun e Wz23 h => ?_)
  obtain ⟨rfl, rfl⟩ := h
  rw [HI.out]
  refine ⟨_, rfl, ?_⟩
  refine hK' _ _ ⟨hB, hz11, hz5⟩ (fun _ => trivial) ?_
  clear hK' K'
  go_frame
  refine y_yield 6 (some 14) (.int .i64 M) rfl (by kernel_rfl) (by kernel_rfl) (by kernel_rfl) (fun _ _ _ h => h) rfl rfl ⟨hB, hz11, hz5⟩ (fun w' h' => exec_mul _ _ _ _ rfl (b : Nat) I M rfl rfl HM.out) ?_
  go_frame
  refine y_yield 8 (some 16) (.int .i64 T) rfl (by kernel_rfl) (by kernel_rfl) (by kernel_rfl) (fun _ _ _ h => h) rfl rfl ⟨hB, hz11, hz5⟩ (fun w' h' => exec_rem _ _ _ _ rfl M p T rfl rfl (by omega) HT.out) ?_
  go_frame
  refine y_oper 9 (by kernel_rfl) rfl rfl (fun K' hK' => ?_)
  refine wp_exec (some 7) rfl (.int .i64 T) (exec_assign _ rfl (.int .i64 T) rfl) ?_
  refine hK' _ _ ⟨hB, hz11, hz5⟩ (fun _ => trivial) ?_
  clear hK' K'
  go_frame
  refine y_done (by kernel_rfl) ?_ _
  go_upto_region 2 with (fail)
  refine wp_region_y (zs := []) (S := fun w' => Below w.heap.size w w' ∧ At w' w.heap.size (.cells (u8s (f)) 51 (0, 0)) ∧ At w' Wz2.heap.size (.cells (u8s (g)) 51 (0, 0))) (S2 := fun w' => True) (by kernel_rfl) ?_
  change wpAnyY _ _ _ _ _ _ _ _ _ _ (World.drew _)
  generalize hwdz28 : World.drew _ = wdz28
  replace hB : Below w.heap.size w wdz28 := by rw [← hwdz28]; exact hB.drew
  replace hz5 : At wdz28 w.heap.size (.cells (u8s (f)) 51 (0, 0)) := by rw [← hwdz28]; exact hz5
  replace hz11 : At wdz28 Wz2.heap.size (.cells (u8s (g)) 51 (0, 0)) := by rw [← hwdz28]; exact hz11
  clear hwdz28
  refine y_yield 0 (some 17) (.int .i64 p) rfl (by kernel_rfl) (by kernel_rfl) (by kernel_rfl) (fun _ _ _ h => h) rfl rfl ⟨hB, hz5, hz11⟩ (fun w' h' => exec_move _ rfl (.int .i64 p) rfl) ?_
  go_frame
  refine y_yield 1 (some 18) (.agg (u8s (f))) rfl (by kernel_rfl) (by kernel_rfl) (by kernel_rfl) (fun _ _ _ h => h) rfl rfl ⟨hB, hz5, hz11⟩ (fun w' h' => exec_load_all 51 _ rfl w.heap.size rfl _ _ _ h'.2.1 Try.underlying51 rfl 9 (by kernel_rfl) ((u8s_size _).trans hf.len)) ?_
  go_frame
  refine y_yield 2 (some 19) (.int .i64 T) rfl (by kernel_rfl) (by kernel_rfl) (by kernel_rfl) (fun _ _ _ h => h) rfl rfl ⟨hB, hz5, hz11⟩ (fun w' h' => exec_move _ rfl (.int .i64 T) rfl) ?_
  go_frame
  refine y_yield 4 (some 21) (.agg (u8s (g))) rfl (by kernel_rfl) (by kernel_rfl) (by kernel_rfl) (fun _ _ _ h => h) rfl rfl ⟨hB, hz5, hz11⟩ (fun w' h' => exec_load_all 51 _ rfl Wz2.heap.size rfl _ _ _ h'.2.2 Try.underlying51 rfl 9 (by kernel_rfl) ((u8s_size _).trans hg.len)) ?_
  go_frame
  refine y_oper 3 (by kernel_rfl) rfl rfl (fun K' hK' => ?_)
  have lz31 := hB.size
  have lz32 := hz5.lt
  have lz33 := hz11.lt
  refine wp_call3 (some 20) rfl 107 _ _ _ _ rfl (fun args w => by kernel_rfl) _ _ _ rfl rfl rfl _ (l01Scale_c p T f hf _ (by omega) (by omega) (by omega) (by omega)) (fun e Wz29 h => ?_)
  obtain ⟨rfl, bz30⟩ := h
  replace hB := below_after hB bz30
  replace hz5 := hz5.after bz30
  replace hz11 := hz11.after bz30
  rw [HS.out]
  clear bz30
  refine ⟨_, rfl, ?_⟩
  refine hK' _ _ ⟨hB, hz5, hz11⟩ (fun _ => trivial) ?_
  clear hK' K'
  go_frame
  refine y_yield 5 (some 22) (.bool true) rfl (by kernel_rfl) (by kernel_rfl) (by kernel_rfl) (fun _ _ _ h => h) rfl rfl ⟨hB, hz5, hz11⟩ (fun w' h' => exec_neqFc _ _ _ rfl (S) (g) rfl rfl HSb.out.len hg.len true HE.out) ?_
  go_frame
  refine y_done (by kernel_rfl) ?_ _
  go_upto_region 3 with (fail)
  refine wp_region_lit ?_
  refine ls_ex (some 6) (.int .i64 0) rfl rfl (exec_assign _ rfl (.int .i64 0) rfl) ?_
  go_frame
  refine wpList_nil ?_
  go_wp2_with fail
  go_ret
  exact ⟨by rw [HR.out]; rfl, hB⟩
theorem l03Times_c (p : Int) (f g : List Nat) (hf : Bytes 9 f) (hg : Bytes 9 g) (w : World) (hpp : primeB p = true) (ff : FmP p f) (fg : FmP p g) (zf : zeroB f = false) (zg : zeroB g = false) : Calls Try.prog 108 #[.int .i64 p, .agg (u8s f), .agg (u8s g)] w (fun e w' => e = .returned (.int .i64 (timF p f g)) ∧ Below w.heap.size w w') := by
  by_cases he : scF p ((lead g : Int) * inv p (lead f) % p) f = g
  · exact l03Times_t p f g hf hg w hpp ff fg zf zg he
  · exact l03Times_f p f g hf hg w hpp ff fg zf zg he
set_option maxHeartbeats 6400000 in
theorem multipleOf_t (p : Int) (f g : List Nat) (hf : Bytes 9 f) (hg : Bytes 9 g) (w : World) (hpp : primeB p = true) (ff : FmP p f) (fg : FmP p g) (zf : zeroB f = false) (zg : zeroB g = false) (he : scF p ((lead g : Int) * inv p (lead f) % p) f = g) :
    Calls Try.prog 66 #[.int .i64 p, .agg (u8s f), .agg (u8s g)] w (fun e w' => e = .returned (.int .i64 (timF p f g)) ∧ Below w.heap.size w w') := by
  have hB := Below.refl w.heap.size w
  have hp : 2 ≤ p ∧ p ≤ 5 := prime_le5 hpp
  have la := lead_p ff zf
  have lb := lead_p fg zg
  have hE : timF p f g = (lead g : Int) * inv p (lead f) % p := by unfold timF; rw [if_pos he]
  obtain ⟨a, ha⟩ : ∃ z9, lead f = z9 := ⟨_, rfl⟩
  obtain ⟨b, hb⟩ : ∃ z9, lead g = z9 := ⟨_, rfl⟩
  rw [ha] at la
  rw [hb] at lb
  rw [ha, hb] at he hE
  have hi := inv_range hpp la.1 la.2
  obtain ⟨I, hI⟩ : ∃ z9, inv p (a : Int) = z9 := ⟨_, rfl⟩
  rw [hI] at hi he hE
  obtain ⟨M, hM⟩ : ∃ z9, (b : Int) * I = z9 := ⟨_, rfl⟩
  have hM0 : 0 ≤ M ∧ M ≤ 25 := by
    rw [← hM]
    exact ⟨Int.mul_nonneg (by omega) (by omega), (show (b : Int) * I ≤ 5 * 5 from Int.mul_le_mul (by omega) (by omega) (by omega) (by omega))⟩
  rw [hM] at he hE
  obtain ⟨T, hT⟩ : ∃ z9, M % p = z9 := ⟨_, rfl⟩
  have hT0 : 0 ≤ T ∧ T < p := by rw [← hT]; exact ⟨Int.emod_nonneg _ (by omega), Int.emod_lt_of_pos _ (by omega)⟩
  rw [hT] at he hE
  obtain ⟨S, hS⟩ : ∃ z9, scF p T f = z9 := ⟨_, rfl⟩
  have HSb : Hid (Bytes 9 S) := Lib.hid (by rw [← hS]; exact scF_bytes _ _ (by omega) (by omega))
  rw [hS] at he
  have HR := Lib.hid hE
  have HE : Hid ((!(S == g)) = false) := Lib.hid (by simp [he])
  have HI := Lib.hid hI
  have HS := Lib.hid hS
  have Hal := Lib.hid ha
  have Hbl := Lib.hid hb
  have HM : Hid (IntKind.i64.wrap ((b : Int) * I) = M) := Lib.hid (by rw [hM]; exact IntWalk.i64_in _ (by omega))
  have HT : Hid (M.tmod p = T) := Lib.hid (by rw [Int.tmod_eq_emod_of_nonneg hM0.1]; exact hT)
  clear hE he ha hb hI hM hT hS
  go_enter Try.func66, Try.ntmps66
  go_upto_region 0 with (fail)
  refine wp_region_lit ?_
  refine ls_op rfl (fun K' hK' => ?_)
  have lz1 := hB.size
  refine wp_new (some 4) rfl (exec_box 51 _ rfl (u8s (f)) rfl) (fun Wz2 nnz3 => ?_)
  have bz4 := nnz3.below (Below.refl _ _) (Nat.le_refl _)
  replace hB := below_after hB bz4
  have hz5 : At Wz2 w.heap.size (.cells (u8s (f)) 51 (0, 0)) := nnz3.at_
  refine hK' _ _ ?_
  clear hK' K' nnz3 bz4
  go_frame
  refine ls_op rfl (fun K' hK' => ?_)
  have lz6 := hB.size
  have lz7 := hz5.lt
  refine wp_new (some 5) rfl (exec_box 51 _ rfl (u8s (g)) rfl) (fun Wz8 nnz9 => ?_)
  have bz10 := nnz9.below (Below.refl _ _) (Nat.le_refl _)
  replace hB := below_after hB bz10
  replace hz5 := hz5.after bz10
  have hz11 : At Wz8 Wz2.heap.size (.cells (u8s (g)) 51 (0, 0)) := nnz9.at_
  refine hK' _ _ ?_
  clear hK' K' nnz9 bz10
  go_frame
  refine ls_ex (some 6) (.int .i64 0) rfl rfl (exec_assign _ rfl (.int .i64 0) rfl) ?_
  go_frame
  refine wpList_nil ?_
  go_upto_region 1 with (fail)
  refine wp_region_y (zs := []) (S := fun w' => Below w.heap.size w w' ∧ At w' Wz2.heap.size (.cells (u8s (g)) 51 (0, 0)) ∧ At w' w.heap.size (.cells (u8s (f)) 51 (0, 0))) (S2 := fun w' => True) (by kernel_rfl) ?_
  change wpAnyY _ _ _ _ _ _ _ _ _ _ (World.drew _)
  generalize hwdz12 : World.drew _ = wdz12
  replace hB : Below w.heap.size w wdz12 := by rw [← hwdz12]; exact hB.drew
  replace hz5 : At wdz12 w.heap.size (.cells (u8s (f)) 51 (0, 0)) := by rw [← hwdz12]; exact hz5
  replace hz11 : At wdz12 Wz2.heap.size (.cells (u8s (g)) 51 (0, 0)) := by rw [← hwdz12]; exact hz11
  clear hwdz12
  refine y_yield 0 (some 8) (.agg (u8s (g))) rfl (by kernel_rfl) (by kernel_rfl) (by kernel_rfl) (fun _ _ _ h => h) rfl rfl ⟨hB, hz11, hz5⟩ (fun w' h' => exec_load_all 51 _ rfl Wz2.heap.size rfl _ _ _ h'.2.1 Try.underlying51 rfl 9 (by kernel_rfl) ((u8s_size _).trans hg.len)) ?_
  go_frame
  refine y_yield 2 (some 10) (.int .i64 p) rfl (by kernel_rfl) (by kernel_rfl) (by kernel_rfl) (fun _ _ _ h => h) rfl rfl ⟨hB, hz11, hz5⟩ (fun w' h' => exec_move _ rfl (.int .i64 p) rfl) ?_
  go_frame
  refine y_yield 3 (some 11) (.agg (u8s (f))) rfl (by kernel_rfl) (by kernel_rfl) (by kernel_rfl) (fun _ _ _ h => h) rfl rfl ⟨hB, hz11, hz5⟩ (fun w' h' => exec_load_all 51 _ rfl w.heap.size rfl _ _ _ h'.2.2 Try.underlying51 rfl 9 (by kernel_rfl) ((u8s_size _).trans hf.len)) ?_
  go_frame
  refine y_yield 7 (some 15) (.int .i64 p) rfl (by kernel_rfl) (by kernel_rfl) (by kernel_rfl) (fun _ _ _ h => h) rfl rfl ⟨hB, hz11, hz5⟩ (fun w' h' => exec_move _ rfl (.int .i64 p) rfl) ?_
  go_frame
  refine y_oper 1 (by kernel_rfl) rfl rfl (fun K' hK' => ?_)
  have lz15 := hB.size
  have lz16 := hz5.lt
  have lz17 := hz11.lt
  refine wp_call1 (some 9) rfl 97 _ _ rfl (fun args w => by kernel_rfl) _ rfl _ (firstNumber_c g hg (by rw [Hbl.out]; omega) _) (fun e Wz13 h => ?_)
  obtain ⟨rfl, bz14⟩ := h
  replace hB := below_after hB bz14
  replace hz5 := hz5.after bz14
  replace hz11 := hz11.after bz14
  rw [Hbl.out]
  clear bz14
  refine ⟨_, rfl, ?_⟩
  refine hK' _ _ ⟨hB, hz11, hz5⟩ (fun _ => trivial) ?_
  clear hK' K'
  go_frame
  refine y_oper 4 (by kernel_rfl) rfl rfl (fun K' hK' => ?_)
  have lz20 := hB.size
  have lz21 := hz5.lt
  have lz22 := hz11.lt
  refine wp_call1 (some 12) rfl 97 _ _ rfl (fun args w => by kernel_rfl) _ rfl _ (firstNumber_c f hf (by rw [Hal.out]; omega) _) (fun e Wz18 h => ?_)
  obtain ⟨rfl, bz19⟩ := h
  replace hB := below_after hB bz19
  replace hz5 := hz5.after bz19
  replace hz11 := hz11.after bz19
  rw [Hal.out]
  clear bz19
  refine ⟨_, rfl, ?_⟩
  refine hK' _ _ ⟨hB, hz11, hz5⟩ (fun _ => trivial) ?_
  clear hK' K'
  go_frame
  refine y_oper 5 (by kernel_rfl) rfl rfl (fun K' hK' => ?_)
  have lz25 := hB.size
  have lz26 := hz5.lt
  have lz27 := hz11.lt
  refine wp_call2 (some 13) rfl 99 _ _ _ rfl (fun args w => by kernel_rfl) _ _ rfl rfl _ (inverseOf_c p a _ hpp (by omega) (by omega)) (fun e Wz23 h => ?_)
  obtain ⟨rfl, rfl⟩ := h
  rw [HI.out]
  refine ⟨_, rfl, ?_⟩
  refine hK' _ _ ⟨hB, hz11, hz5⟩ (fun _ => trivial) ?_
  clear hK' K'
  go_frame
  refine y_yield 6 (some 14) (.int .i64 M) rfl (by kernel_rfl) (by kernel_rfl) (by kernel_rfl) (fun _ _ _ h => h) rfl rfl ⟨hB, hz11, hz5⟩ (fun w' h' => exec_mul _ _ _ _ rfl (b : Nat) I M rfl rfl HM.out) ?_
  go_frame
  refine y_yield 8 (some 16) (.int .i64 T) rfl (by kernel_rfl) (by kernel_rfl) (by kernel_rfl) (fun _ _ _ h => h) rfl rfl ⟨hB, hz11, hz5⟩ (fun w' h' => exec_rem _ _ _ _ rfl M p T rfl rfl (by omega) HT.out) ?_
  go_frame
  refine y_oper 9 (by kernel_rfl) rfl rfl (fun K' hK' => ?_)
  refine wp_exec (some 7) rfl (.int .i64 T) (exec_assign _ rfl (.int .i64 T) rfl) ?_
  refine hK' _ _ ⟨hB, hz11, hz5⟩ (fun _ => trivial) ?_
  clear hK' K'
  go_frame
  refine y_done (by kernel_rfl) ?_ _
  go_upto_region 2 with (fail)
  refine wp_region_y (zs := []) (S := fun w' => Below w.heap.size w w' ∧ At w' w.heap.size (.cells (u8s (f)) 51 (0, 0)) ∧ At w' Wz2.heap.size (.cells (u8s (g)) 51 (0, 0))) (S2 := fun w' => True) (by kernel_rfl) ?_
  change wpAnyY _ _ _ _ _ _ _ _ _ _ (World.drew _)
  generalize hwdz28 : World.drew _ = wdz28
  replace hB : Below w.heap.size w wdz28 := by rw [← hwdz28]; exact hB.drew
  replace hz5 : At wdz28 w.heap.size (.cells (u8s (f)) 51 (0, 0)) := by rw [← hwdz28]; exact hz5
  replace hz11 : At wdz28 Wz2.heap.size (.cells (u8s (g)) 51 (0, 0)) := by rw [← hwdz28]; exact hz11
  clear hwdz28
  refine y_yield 0 (some 17) (.int .i64 p) rfl (by kernel_rfl) (by kernel_rfl) (by kernel_rfl) (fun _ _ _ h => h) rfl rfl ⟨hB, hz5, hz11⟩ (fun w' h' => exec_move _ rfl (.int .i64 p) rfl) ?_
  go_frame
  refine y_yield 1 (some 18) (.int .i64 T) rfl (by kernel_rfl) (by kernel_rfl) (by kernel_rfl) (fun _ _ _ h => h) rfl rfl ⟨hB, hz5, hz11⟩ (fun w' h' => exec_move _ rfl (.int .i64 T) rfl) ?_
  go_frame
  refine y_yield 2 (some 19) (.agg (u8s (f))) rfl (by kernel_rfl) (by kernel_rfl) (by kernel_rfl) (fun _ _ _ h => h) rfl rfl ⟨hB, hz5, hz11⟩ (fun w' h' => exec_load_all 51 _ rfl w.heap.size rfl _ _ _ h'.2.1 Try.underlying51 rfl 9 (by kernel_rfl) ((u8s_size _).trans hf.len)) ?_
  go_frame
  refine y_yield 4 (some 21) (.agg (u8s (g))) rfl (by kernel_rfl) (by kernel_rfl) (by kernel_rfl) (fun _ _ _ h => h) rfl rfl ⟨hB, hz5, hz11⟩ (fun w' h' => exec_load_all 51 _ rfl Wz2.heap.size rfl _ _ _ h'.2.2 Try.underlying51 rfl 9 (by kernel_rfl) ((u8s_size _).trans hg.len)) ?_
  go_frame
  refine y_oper 3 (by kernel_rfl) rfl rfl (fun K' hK' => ?_)
  have lz31 := hB.size
  have lz32 := hz5.lt
  have lz33 := hz11.lt
  refine wp_call3 (some 20) rfl 98 _ _ _ _ rfl (fun args w => by kernel_rfl) _ _ _ rfl rfl rfl _ (multipliedBy_c p T f hf _ (by omega) (by omega) (by omega) (by omega)) (fun e Wz29 h => ?_)
  obtain ⟨rfl, bz30⟩ := h
  replace hB := below_after hB bz30
  replace hz5 := hz5.after bz30
  replace hz11 := hz11.after bz30
  rw [HS.out]
  clear bz30
  refine ⟨_, rfl, ?_⟩
  refine hK' _ _ ⟨hB, hz5, hz11⟩ (fun _ => trivial) ?_
  clear hK' K'
  go_frame
  refine y_yield 5 (some 22) (.bool false) rfl (by kernel_rfl) (by kernel_rfl) (by kernel_rfl) (fun _ _ _ h => h) rfl rfl ⟨hB, hz5, hz11⟩ (fun w' h' => exec_neqFc _ _ _ rfl (S) (g) rfl rfl HSb.out.len hg.len false HE.out) ?_
  go_frame
  refine y_done (by kernel_rfl) ?_ _
  go_upto_region 4 with (fail)
  refine wp_region_lit ?_
  refine ls_ex (some 23) (.int .i64 T) rfl rfl (exec_move _ rfl (.int .i64 T) rfl) ?_
  go_frame
  refine ls_ex (some 6) (.int .i64 T) rfl rfl (exec_assign _ rfl (.int .i64 T) rfl) ?_
  go_frame
  refine wpList_nil ?_
  go_wp2_with fail
  go_ret
  exact ⟨by rw [HR.out]; rfl, hB⟩
set_option maxHeartbeats 6400000 in
theorem multipleOf_f (p : Int) (f g : List Nat) (hf : Bytes 9 f) (hg : Bytes 9 g) (w : World) (hpp : primeB p = true) (ff : FmP p f) (fg : FmP p g) (zf : zeroB f = false) (zg : zeroB g = false) (he : scF p ((lead g : Int) * inv p (lead f) % p) f ≠ g) :
    Calls Try.prog 66 #[.int .i64 p, .agg (u8s f), .agg (u8s g)] w (fun e w' => e = .returned (.int .i64 (timF p f g)) ∧ Below w.heap.size w w') := by
  have hB := Below.refl w.heap.size w
  have hp : 2 ≤ p ∧ p ≤ 5 := prime_le5 hpp
  have la := lead_p ff zf
  have lb := lead_p fg zg
  have hE : timF p f g = 0 := by unfold timF; rw [if_neg he]
  obtain ⟨a, ha⟩ : ∃ z9, lead f = z9 := ⟨_, rfl⟩
  obtain ⟨b, hb⟩ : ∃ z9, lead g = z9 := ⟨_, rfl⟩
  rw [ha] at la
  rw [hb] at lb
  rw [ha, hb] at he
  have hi := inv_range hpp la.1 la.2
  obtain ⟨I, hI⟩ : ∃ z9, inv p (a : Int) = z9 := ⟨_, rfl⟩
  rw [hI] at hi he
  obtain ⟨M, hM⟩ : ∃ z9, (b : Int) * I = z9 := ⟨_, rfl⟩
  have hM0 : 0 ≤ M ∧ M ≤ 25 := by
    rw [← hM]
    exact ⟨Int.mul_nonneg (by omega) (by omega), (show (b : Int) * I ≤ 5 * 5 from Int.mul_le_mul (by omega) (by omega) (by omega) (by omega))⟩
  rw [hM] at he
  obtain ⟨T, hT⟩ : ∃ z9, M % p = z9 := ⟨_, rfl⟩
  have hT0 : 0 ≤ T ∧ T < p := by rw [← hT]; exact ⟨Int.emod_nonneg _ (by omega), Int.emod_lt_of_pos _ (by omega)⟩
  rw [hT] at he
  obtain ⟨S, hS⟩ : ∃ z9, scF p T f = z9 := ⟨_, rfl⟩
  have HSb : Hid (Bytes 9 S) := Lib.hid (by rw [← hS]; exact scF_bytes _ _ (by omega) (by omega))
  rw [hS] at he
  have HR := Lib.hid hE
  have HE : Hid ((!(S == g)) = true) := Lib.hid (by simp [he])
  have HI := Lib.hid hI
  have HS := Lib.hid hS
  have Hal := Lib.hid ha
  have Hbl := Lib.hid hb
  have HM : Hid (IntKind.i64.wrap ((b : Int) * I) = M) := Lib.hid (by rw [hM]; exact IntWalk.i64_in _ (by omega))
  have HT : Hid (M.tmod p = T) := Lib.hid (by rw [Int.tmod_eq_emod_of_nonneg hM0.1]; exact hT)
  clear hE he ha hb hI hM hT hS
  go_enter Try.func66, Try.ntmps66
  go_upto_region 0 with (fail)
  refine wp_region_lit ?_
  refine ls_op rfl (fun K' hK' => ?_)
  have lz1 := hB.size
  refine wp_new (some 4) rfl (exec_box 51 _ rfl (u8s (f)) rfl) (fun Wz2 nnz3 => ?_)
  have bz4 := nnz3.below (Below.refl _ _) (Nat.le_refl _)
  replace hB := below_after hB bz4
  have hz5 : At Wz2 w.heap.size (.cells (u8s (f)) 51 (0, 0)) := nnz3.at_
  refine hK' _ _ ?_
  clear hK' K' nnz3 bz4
  go_frame
  refine ls_op rfl (fun K' hK' => ?_)
  have lz6 := hB.size
  have lz7 := hz5.lt
  refine wp_new (some 5) rfl (exec_box 51 _ rfl (u8s (g)) rfl) (fun Wz8 nnz9 => ?_)
  have bz10 := nnz9.below (Below.refl _ _) (Nat.le_refl _)
  replace hB := below_after hB bz10
  replace hz5 := hz5.after bz10
  have hz11 : At Wz8 Wz2.heap.size (.cells (u8s (g)) 51 (0, 0)) := nnz9.at_
  refine hK' _ _ ?_
  clear hK' K' nnz9 bz10
  go_frame
  refine ls_ex (some 6) (.int .i64 0) rfl rfl (exec_assign _ rfl (.int .i64 0) rfl) ?_
  go_frame
  refine wpList_nil ?_
  go_upto_region 1 with (fail)
  refine wp_region_y (zs := []) (S := fun w' => Below w.heap.size w w' ∧ At w' Wz2.heap.size (.cells (u8s (g)) 51 (0, 0)) ∧ At w' w.heap.size (.cells (u8s (f)) 51 (0, 0))) (S2 := fun w' => True) (by kernel_rfl) ?_
  change wpAnyY _ _ _ _ _ _ _ _ _ _ (World.drew _)
  generalize hwdz12 : World.drew _ = wdz12
  replace hB : Below w.heap.size w wdz12 := by rw [← hwdz12]; exact hB.drew
  replace hz5 : At wdz12 w.heap.size (.cells (u8s (f)) 51 (0, 0)) := by rw [← hwdz12]; exact hz5
  replace hz11 : At wdz12 Wz2.heap.size (.cells (u8s (g)) 51 (0, 0)) := by rw [← hwdz12]; exact hz11
  clear hwdz12
  refine y_yield 0 (some 8) (.agg (u8s (g))) rfl (by kernel_rfl) (by kernel_rfl) (by kernel_rfl) (fun _ _ _ h => h) rfl rfl ⟨hB, hz11, hz5⟩ (fun w' h' => exec_load_all 51 _ rfl Wz2.heap.size rfl _ _ _ h'.2.1 Try.underlying51 rfl 9 (by kernel_rfl) ((u8s_size _).trans hg.len)) ?_
  go_frame
  refine y_yield 2 (some 10) (.int .i64 p) rfl (by kernel_rfl) (by kernel_rfl) (by kernel_rfl) (fun _ _ _ h => h) rfl rfl ⟨hB, hz11, hz5⟩ (fun w' h' => exec_move _ rfl (.int .i64 p) rfl) ?_
  go_frame
  refine y_yield 3 (some 11) (.agg (u8s (f))) rfl (by kernel_rfl) (by kernel_rfl) (by kernel_rfl) (fun _ _ _ h => h) rfl rfl ⟨hB, hz11, hz5⟩ (fun w' h' => exec_load_all 51 _ rfl w.heap.size rfl _ _ _ h'.2.2 Try.underlying51 rfl 9 (by kernel_rfl) ((u8s_size _).trans hf.len)) ?_
  go_frame
  refine y_yield 7 (some 15) (.int .i64 p) rfl (by kernel_rfl) (by kernel_rfl) (by kernel_rfl) (fun _ _ _ h => h) rfl rfl ⟨hB, hz11, hz5⟩ (fun w' h' => exec_move _ rfl (.int .i64 p) rfl) ?_
  go_frame
  refine y_oper 1 (by kernel_rfl) rfl rfl (fun K' hK' => ?_)
  have lz15 := hB.size
  have lz16 := hz5.lt
  have lz17 := hz11.lt
  refine wp_call1 (some 9) rfl 97 _ _ rfl (fun args w => by kernel_rfl) _ rfl _ (firstNumber_c g hg (by rw [Hbl.out]; omega) _) (fun e Wz13 h => ?_)
  obtain ⟨rfl, bz14⟩ := h
  replace hB := below_after hB bz14
  replace hz5 := hz5.after bz14
  replace hz11 := hz11.after bz14
  rw [Hbl.out]
  clear bz14
  refine ⟨_, rfl, ?_⟩
  refine hK' _ _ ⟨hB, hz11, hz5⟩ (fun _ => trivial) ?_
  clear hK' K'
  go_frame
  refine y_oper 4 (by kernel_rfl) rfl rfl (fun K' hK' => ?_)
  have lz20 := hB.size
  have lz21 := hz5.lt
  have lz22 := hz11.lt
  refine wp_call1 (some 12) rfl 97 _ _ rfl (fun args w => by kernel_rfl) _ rfl _ (firstNumber_c f hf (by rw [Hal.out]; omega) _) (fun e Wz18 h => ?_)
  obtain ⟨rfl, bz19⟩ := h
  replace hB := below_after hB bz19
  replace hz5 := hz5.after bz19
  replace hz11 := hz11.after bz19
  rw [Hal.out]
  clear bz19
  refine ⟨_, rfl, ?_⟩
  refine hK' _ _ ⟨hB, hz11, hz5⟩ (fun _ => trivial) ?_
  clear hK' K'
  go_frame
  refine y_oper 5 (by kernel_rfl) rfl rfl (fun K' hK' => ?_)
  have lz25 := hB.size
  have lz26 := hz5.lt
  have lz27 := hz11.lt
  refine wp_call2 (some 13) rfl 99 _ _ _ rfl (fun args w => by kernel_rfl) _ _ rfl rfl _ (inverseOf_c p a _ hpp (by omega) (by omega)) (fun e Wz23 h => ?_)
  obtain ⟨rfl, rfl⟩ := h
  rw [HI.out]
  refine ⟨_, rfl, ?_⟩
  refine hK' _ _ ⟨hB, hz11, hz5⟩ (fun _ => trivial) ?_
  clear hK' K'
  go_frame
  refine y_yield 6 (some 14) (.int .i64 M) rfl (by kernel_rfl) (by kernel_rfl) (by kernel_rfl) (fun _ _ _ h => h) rfl rfl ⟨hB, hz11, hz5⟩ (fun w' h' => exec_mul _ _ _ _ rfl (b : Nat) I M rfl rfl HM.out) ?_
  go_frame
  refine y_yield 8 (some 16) (.int .i64 T) rfl (by kernel_rfl) (by kernel_rfl) (by kernel_rfl) (fun _ _ _ h => h) rfl rfl ⟨hB, hz11, hz5⟩ (fun w' h' => exec_rem _ _ _ _ rfl M p T rfl rfl (by omega) HT.out) ?_
  go_frame
  refine y_oper 9 (by kernel_rfl) rfl rfl (fun K' hK' => ?_)
  refine wp_exec (some 7) rfl (.int .i64 T) (exec_assign _ rfl (.int .i64 T) rfl) ?_
  refine hK' _ _ ⟨hB, hz11, hz5⟩ (fun _ => trivial) ?_
  clear hK' K'
  go_frame
  refine y_done (by kernel_rfl) ?_ _
  go_upto_region 2 with (fail)
  refine wp_region_y (zs := []) (S := fun w' => Below w.heap.size w w' ∧ At w' w.heap.size (.cells (u8s (f)) 51 (0, 0)) ∧ At w' Wz2.heap.size (.cells (u8s (g)) 51 (0, 0))) (S2 := fun w' => True) (by kernel_rfl) ?_
  change wpAnyY _ _ _ _ _ _ _ _ _ _ (World.drew _)
  generalize hwdz28 : World.drew _ = wdz28
  replace hB : Below w.heap.size w wdz28 := by rw [← hwdz28]; exact hB.drew
  replace hz5 : At wdz28 w.heap.size (.cells (u8s (f)) 51 (0, 0)) := by rw [← hwdz28]; exact hz5
  replace hz11 : At wdz28 Wz2.heap.size (.cells (u8s (g)) 51 (0, 0)) := by rw [← hwdz28]; exact hz11
  clear hwdz28
  refine y_yield 0 (some 17) (.int .i64 p) rfl (by kernel_rfl) (by kernel_rfl) (by kernel_rfl) (fun _ _ _ h => h) rfl rfl ⟨hB, hz5, hz11⟩ (fun w' h' => exec_move _ rfl (.int .i64 p) rfl) ?_
  go_frame
  refine y_yield 1 (some 18) (.int .i64 T) rfl (by kernel_rfl) (by kernel_rfl) (by kernel_rfl) (fun _ _ _ h => h) rfl rfl ⟨hB, hz5, hz11⟩ (fun w' h' => exec_move _ rfl (.int .i64 T) rfl) ?_
  go_frame
  refine y_yield 2 (some 19) (.agg (u8s (f))) rfl (by kernel_rfl) (by kernel_rfl) (by kernel_rfl) (fun _ _ _ h => h) rfl rfl ⟨hB, hz5, hz11⟩ (fun w' h' => exec_load_all 51 _ rfl w.heap.size rfl _ _ _ h'.2.1 Try.underlying51 rfl 9 (by kernel_rfl) ((u8s_size _).trans hf.len)) ?_
  go_frame
  refine y_yield 4 (some 21) (.agg (u8s (g))) rfl (by kernel_rfl) (by kernel_rfl) (by kernel_rfl) (fun _ _ _ h => h) rfl rfl ⟨hB, hz5, hz11⟩ (fun w' h' => exec_load_all 51 _ rfl Wz2.heap.size rfl _ _ _ h'.2.2 Try.underlying51 rfl 9 (by kernel_rfl) ((u8s_size _).trans hg.len)) ?_
  go_frame
  refine y_oper 3 (by kernel_rfl) rfl rfl (fun K' hK' => ?_)
  have lz31 := hB.size
  have lz32 := hz5.lt
  have lz33 := hz11.lt
  refine wp_call3 (some 20) rfl 98 _ _ _ _ rfl (fun args w => by kernel_rfl) _ _ _ rfl rfl rfl _ (multipliedBy_c p T f hf _ (by omega) (by omega) (by omega) (by omega)) (fun e Wz29 h => ?_)
  obtain ⟨rfl, bz30⟩ := h
  replace hB := below_after hB bz30
  replace hz5 := hz5.after bz30
  replace hz11 := hz11.after bz30
  rw [HS.out]
  clear bz30
  refine ⟨_, rfl, ?_⟩
  refine hK' _ _ ⟨hB, hz5, hz11⟩ (fun _ => trivial) ?_
  clear hK' K'
  go_frame
  refine y_yield 5 (some 22) (.bool true) rfl (by kernel_rfl) (by kernel_rfl) (by kernel_rfl) (fun _ _ _ h => h) rfl rfl ⟨hB, hz5, hz11⟩ (fun w' h' => exec_neqFc _ _ _ rfl (S) (g) rfl rfl HSb.out.len hg.len true HE.out) ?_
  go_frame
  refine y_done (by kernel_rfl) ?_ _
  go_upto_region 3 with (fail)
  refine wp_region_lit ?_
  refine ls_ex (some 6) (.int .i64 0) rfl rfl (exec_assign _ rfl (.int .i64 0) rfl) ?_
  go_frame
  refine wpList_nil ?_
  go_wp2_with fail
  go_ret
  exact ⟨by rw [HR.out]; rfl, hB⟩
theorem multipleOf_c (p : Int) (f g : List Nat) (hf : Bytes 9 f) (hg : Bytes 9 g) (w : World) (hpp : primeB p = true) (ff : FmP p f) (fg : FmP p g) (zf : zeroB f = false) (zg : zeroB g = false) : Calls Try.prog 66 #[.int .i64 p, .agg (u8s f), .agg (u8s g)] w (fun e w' => e = .returned (.int .i64 (timF p f g)) ∧ Below w.heap.size w w') := by
  by_cases he : scF p ((lead g : Int) * inv p (lead f) % p) f = g
  · exact multipleOf_t p f g hf hg w hpp ff fg zf zg he
  · exact multipleOf_f p f g hf hg w hpp ff fg zf zg he
set_option maxHeartbeats 6400000 in
theorem join_1 (p : Int) (q r : List Nat) (w : World) (hpp : primeB p = true) (gq : GR p q) (gr : GR p r) (t : Int) (htv : timF p (segm q 18 9) (segm r 18 9) = t) (ha : segm q 0 9 = segm r 0 9) (hb : segm q 9 9 = segm r 9 9) :
    Calls Try.prog 86 #[.int .i64 p, .agg (u8s q), .agg (u8s r)] w (fun e w' => e = .returned (unV (joF p q r)) ∧ Below w.heap.size w w') := by
  have hB := Below.refl w.heap.size w
  have hp : 2 ≤ p ∧ p ≤ 5 := prime_le5 hpp
  have hq := gq.b
  have hr := gr.b
  have htb := timF_in hpp (segm q 18 9) (segm r 18 9)
  rw [htv] at htb
  have HTv := Lib.hid htv
  have HA : Hid ((segm q 0 9 == segm r 0 9) = true) := Lib.hid (by simp [ha])
  have HB : Hid ((segm q 9 9 == segm r 9 9) = true) := Lib.hid (by simp [hb])
  obtain ⟨F, hF⟩ : ∃ z9, adF p 1 (segm q 18 9) (segm r 18 9) = z9 := ⟨_, rfl⟩
  have HFb : Hid (Bytes 9 F) := Lib.hid (by rw [← hF]; exact adF_bytes _ _ _ (by omega) (by omega))
  obtain ⟨one, hone⟩ : ∃ z9, withQ q 2 F = z9 := ⟨_, rfl⟩
  have HOb : Hid (Bytes 27 one) := Lib.hid (by rw [← hone]; exact withQ_bytes hq HFb.out (by omega))
  have HW : Hid (over q 18 F = one) := Lib.hid hone
  have HE : Hid (joF p q r = some one) := Lib.hid (by unfold joF opF; rw [htv]; simp only [ha, hb, and_self, if_true]; rw [← hone, ← hF])
  have HF := Lib.hid hF
  clear hF hone
  clear ha hb htv
  go_enter Try.func86, Try.ntmps86
  go_upto_region 0 with (fail)
  refine wp_region_lit ?_
  refine ls_op rfl (fun K' hK' => ?_)
  have lz1 := hB.size
  refine wp_new (some 4) rfl (exec_box 53 _ rfl (u8s (q)) rfl) (fun Wz2 nnz3 => ?_)
  have bz4 := nnz3.below (Below.refl _ _) (Nat.le_refl _)
  replace hB := below_after hB bz4
  have hz5 : At Wz2 w.heap.size (.cells (u8s (q)) 53 (0, 0)) := nnz3.at_
  refine hK' _ _ ?_
  clear hK' K' nnz3 bz4
  go_frame
  refine ls_op rfl (fun K' hK' => ?_)
  have lz6 := hB.size
  have lz7 := hz5.lt
  refine wp_new (some 5) rfl (exec_box 53 _ rfl (u8s (r)) rfl) (fun Wz8 nnz9 => ?_)
  have bz10 := nnz9.below (Below.refl _ _) (Nat.le_refl _)
  replace hB := below_after hB bz10
  replace hz5 := hz5.after bz10
  have hz11 : At Wz8 Wz2.heap.size (.cells (u8s (r)) 53 (0, 0)) := nnz9.at_
  refine hK' _ _ ?_
  clear hK' K' nnz9 bz10
  go_frame
  refine ls_op rfl (fun K' hK' => ?_)
  have lz12 := hB.size
  have lz13 := hz5.lt
  have lz14 := hz11.lt
  refine wp_new (some 6) rfl (alRa_impl_Product rfl) (fun Wz15 nnz16 => ?_)
  have bz17 := nnz16.below (Below.refl _ _) (Nat.le_refl _)
  replace hB := below_after hB bz17
  replace hz5 := hz5.after bz17
  replace hz11 := hz11.after bz17
  have hz18 : At Wz15 Wz8.heap.size (.cells (u8s (List.replicate 27 0)) 53 (0, 0)) := nnz16.at_
  refine hK' _ _ ?_
  clear hK' K' nnz16 bz17
  go_frame
  refine ls_ex (some 7) (.bool false) rfl rfl (exec_assign _ rfl (.bool false) rfl) ?_
  go_frame
  refine wpList_nil ?_
  go_upto_region 1 with (fail)
  refine wp_region_lit ?_
  refine ls_ex (some 9) (.int .i64 p) rfl rfl (exec_move _ rfl (.int .i64 p) rfl) ?_
  go_frame
  refine ls_ex (some 10) (.pointer (some ⟨w.heap.size, 18, none⟩)) rfl rfl (exec_fieldAddr 53 _ 2 rfl _ (by kernel_rfl)) ?_
  go_frame
  refine ls_ex (some 11) (.agg (u8s (segm q 18 9))) rfl rfl (exec_load_seg 51 _ rfl w.heap.size (18) rfl _ (q) _ 9 hz5 Try.underlying51 rfl (by kernel_rfl) (by rw [hq.len]; omega) (segm q 18 9) rfl) ?_
  go_frame
  refine ls_ex (some 12) (.pointer (some ⟨Wz2.heap.size, 18, none⟩)) rfl rfl (exec_fieldAddr 53 _ 2 rfl _ (by kernel_rfl)) ?_
  go_frame
  refine ls_ex (some 13) (.agg (u8s (segm r 18 9))) rfl rfl (exec_load_seg 51 _ rfl Wz2.heap.size (18) rfl _ (r) _ 9 hz11 Try.underlying51 rfl (by kernel_rfl) (by rw [hr.len]; omega) (segm r 18 9) rfl) ?_
  go_frame
  refine ls_op rfl (fun K' hK' => ?_)
  have lz21 := hB.size
  have lz22 := hz5.lt
  have lz23 := hz11.lt
  have lz24 := hz18.lt
  refine wp_call3 (some 14) rfl 108 _ _ _ _ rfl (fun args w => by kernel_rfl) _ _ _ rfl rfl rfl _ (l03Times_c p (segm q 18 9) (segm r 18 9) (segm_bytes hq (by omega)) (segm_bytes hr (by omega)) _ hpp gq.f2 gr.f2 (nz_parts gq.z).2.2 (nz_parts gr.z).2.2) (fun e Wz19 h => ?_)
  obtain ⟨rfl, bz20⟩ := h
  replace hB := below_after hB bz20
  replace hz5 := hz5.after bz20
  replace hz11 := hz11.after bz20
  replace hz18 := hz18.after bz20
  rw [HTv.out]
  clear bz20
  refine ⟨_, rfl, ?_⟩
  refine hK' _ _ ?_
  clear hK' K'
  go_frame
  refine ls_ex (some 8) (.int .i64 t) rfl rfl (exec_assign _ rfl (.int .i64 t) rfl) ?_
  go_frame
  refine wpList_nil ?_
  go_upto_region 3 with (fail)
  refine wp_region_lit ?_
  refine ls_ex (some 17) (.pointer (some ⟨w.heap.size, 0, none⟩)) rfl rfl (exec_fieldAddr 53 _ 0 rfl _ (by kernel_rfl)) ?_
  go_frame
  refine ls_ex (some 18) (.agg (u8s (segm q 0 9))) rfl rfl (exec_load_seg 51 _ rfl w.heap.size (0) rfl _ (q) _ 9 hz5 Try.underlying51 rfl (by kernel_rfl) (by rw [hq.len]; omega) (segm q 0 9) rfl) ?_
  go_frame
  refine ls_ex (some 19) (.pointer (some ⟨Wz2.heap.size, 0, none⟩)) rfl rfl (exec_fieldAddr 53 _ 0 rfl _ (by kernel_rfl)) ?_
  go_frame
  refine ls_ex (some 20) (.agg (u8s (segm r 0 9))) rfl rfl (exec_load_seg 51 _ rfl Wz2.heap.size (0) rfl _ (r) _ 9 hz11 Try.underlying51 rfl (by kernel_rfl) (by rw [hr.len]; omega) (segm r 0 9) rfl) ?_
  go_frame
  refine ls_ex (some 21) (.bool true) rfl rfl (exec_eql_u8s_b 51 _ _ _ _ rfl 9 Try.underlying51 Try.underlying5 (by kernel_rfl) (by kernel_rfl) (segm q 0 9) (segm r 0 9) rfl rfl (segm_len (by rw [hq.len]; omega)) (segm_len (by rw [hr.len]; omega)) true HA.out) ?_
  go_frame
  refine ls_ex (some 22) (.bool true) rfl rfl (exec_move _ rfl (.bool true) rfl) ?_
  go_frame
  refine ls_ex_g (some 23) (.pointer (some ⟨w.heap.size, 9, none⟩)) rfl rfl (exec_fieldAddr 53 _ 1 rfl _ (by kernel_rfl)) ?_
  go_frame
  refine ls_ex_g (some 24) (.agg (u8s (segm q 9 9))) rfl rfl (exec_load_seg 51 _ rfl w.heap.size (9) rfl _ (q) _ 9 hz5 Try.underlying51 rfl (by kernel_rfl) (by rw [hq.len]; omega) (segm q 9 9) rfl) ?_
  go_frame
  refine ls_ex_g (some 25) (.pointer (some ⟨Wz2.heap.size, 9, none⟩)) rfl rfl (exec_fieldAddr 53 _ 1 rfl _ (by kernel_rfl)) ?_
  go_frame
  refine ls_ex_g (some 26) (.agg (u8s (segm r 9 9))) rfl rfl (exec_load_seg 51 _ rfl Wz2.heap.size (9) rfl _ (r) _ 9 hz11 Try.underlying51 rfl (by kernel_rfl) (by rw [hr.len]; omega) (segm r 9 9) rfl) ?_
  go_frame
  refine ls_ex_g (some 27) (.bool true) rfl rfl (exec_eql_u8s_b 51 _ _ _ _ rfl 9 Try.underlying51 Try.underlying5 (by kernel_rfl) (by kernel_rfl) (segm q 9 9) (segm r 9 9) rfl rfl (segm_len (by rw [hq.len]; omega)) (segm_len (by rw [hr.len]; omega)) true HB.out) ?_
  go_frame
  refine ls_ex (some 28) (.bool true) rfl rfl (exec_pick _ _ _ rfl true rfl (.bool true) rfl) ?_
  go_frame
  refine ls_ex (some 16) (.bool true) rfl rfl (exec_assign _ rfl (.bool true) rfl) ?_
  go_frame
  refine wpList_nil ?_
  go_upto_region 4 with (fail)
  refine wp_region_lit ?_
  refine ls_ex (some 29) (.int .i64 p) rfl rfl (exec_move _ rfl (.int .i64 p) rfl) ?_
  go_frame
  refine ls_ex (some 30) (.pointer (some ⟨w.heap.size, 18, none⟩)) rfl rfl (exec_fieldAddr 53 _ 2 rfl _ (by kernel_rfl)) ?_
  go_frame
  refine ls_ex (some 31) (.agg (u8s (segm q 18 9))) rfl rfl (exec_load_seg 51 _ rfl w.heap.size (18) rfl _ (q) _ 9 hz5 Try.underlying51 rfl (by kernel_rfl) (by rw [hq.len]; omega) (segm q 18 9) rfl) ?_
  go_frame
  refine ls_ex (some 32) (.pointer (some ⟨Wz2.heap.size, 18, none⟩)) rfl rfl (exec_fieldAddr 53 _ 2 rfl _ (by kernel_rfl)) ?_
  go_frame
  refine ls_ex (some 33) (.agg (u8s (segm r 18 9))) rfl rfl (exec_load_seg 51 _ rfl Wz2.heap.size (18) rfl _ (r) _ 9 hz11 Try.underlying51 rfl (by kernel_rfl) (by rw [hr.len]; omega) (segm r 18 9) rfl) ?_
  go_frame
  refine ls_op rfl (fun K' hK' => ?_)
  have lz27 := hB.size
  have lz28 := hz5.lt
  have lz29 := hz11.lt
  have lz30 := hz18.lt
  refine wp_call4 (some 34) rfl 109 _ _ _ _ _ rfl (fun args w => by kernel_rfl) _ _ _ _ rfl rfl rfl rfl _ (l01Add_c p 1 (segm q 18 9) (segm r 18 9) (segm_bytes hq (by omega)) (segm_bytes hr (by omega)) _ (by omega) (by omega) (by omega) (by omega)) (fun e Wz25 h => ?_)
  obtain ⟨rfl, bz26⟩ := h
  replace hB := below_after hB bz26
  replace hz5 := hz5.after bz26
  replace hz11 := hz11.after bz26
  replace hz18 := hz18.after bz26
  rw [HF.out]
  clear bz26
  refine ⟨_, rfl, ?_⟩
  refine hK' _ _ ?_
  clear hK' K'
  go_frame
  refine ls_ex (some 35) (.pointer (some ⟨w.heap.size, 18, none⟩)) rfl rfl (exec_fieldAddr 53 _ 2 rfl _ (by kernel_rfl)) ?_
  go_frame
  refine ls_op rfl (fun K' hK' => ?_)
  refine wp_store_u8s 51 _ _ rfl rfl w.heap.size (18) rfl (F) rfl _ _ hz5 9 (by kernel_rfl) HFb.out.len (by rw [hq.len]; omega) (fun Wz31 pz32 => ?_)
  replace hB := pz32.below hB (by omega)
  replace hz11 := pz32.other hz11 (by omega)
  replace hz18 := pz32.other hz18 (by omega)
  replace hz5 : At Wz31 w.heap.size (.cells (u8s (one)) 53 (0, 0)) := by have h9 := pz32.at_; rwa [HW.out] at h9
  refine hK' _ _ ?_
  clear hK' K' pz32
  refine wpList_nil ?_
  go_upto_region 9 with (fail)
  refine wp_region_lit ?_
  refine ls_ex (some 72) (.agg (u8s (one))) rfl rfl (exec_load_all 53 _ rfl w.heap.size rfl _ _ _ hz5 Try.underlying53 rfl 27 (by kernel_rfl) ((u8s_size _).trans HOb.out.len)) ?_
  go_frame
  refine ls_op rfl (fun K' hK' => ?_)
  refine wp_store_bytes 53 _ _ rfl rfl Wz8.heap.size rfl (one) rfl _ _ hz18 27 (by kernel_rfl) HOb.out.len (by simp) (fun Wz34 pz35 => ?_)
  replace hB := pz35.below hB (by omega)
  replace hz5 := pz35.other hz5 (by omega)
  replace hz11 := pz35.other hz11 (by omega)
  replace hz18 : At Wz34 Wz8.heap.size (.cells (u8s (one)) 53 (0, 0)) := pz35.at_
  refine hK' _ _ ?_
  clear hK' K' pz35
  refine ls_ex (some 7) (.bool true) rfl rfl (exec_assign _ rfl (.bool true) rfl) ?_
  go_frame
  refine wpList_nil ?_
  go_wp2_with fail
  refine bodyPost_ret (results_at2 rfl _ _ Wz8.heap.size _ _ _ rfl _ rfl hz18 Try.underlying53 rfl 27 (by kernel_rfl) ((u8s_size _).trans HOb.out.len)) rfl ?_
  exact ⟨by rw [HE.out]; rfl, hB⟩
set_option maxHeartbeats 6400000 in
theorem join_2 (p : Int) (q r : List Nat) (w : World) (hpp : primeB p = true) (gq : GR p q) (gr : GR p r) (t : Int) (htv : timF p (segm q 18 9) (segm r 18 9) = t) (ha : segm q 0 9 = segm r 0 9) (hb : segm q 9 9 ≠ segm r 9 9) (hT : t ≠ 0) :
    Calls Try.prog 86 #[.int .i64 p, .agg (u8s q), .agg (u8s r)] w (fun e w' => e = .returned (unV (joF p q r)) ∧ Below w.heap.size w w') := by
  have hB := Below.refl w.heap.size w
  have hp : 2 ≤ p ∧ p ≤ 5 := prime_le5 hpp
  have hq := gq.b
  have hr := gr.b
  have htb := timF_in hpp (segm q 18 9) (segm r 18 9)
  rw [htv] at htb
  have HTv := Lib.hid htv
  have HA : Hid ((segm q 0 9 == segm r 0 9) = true) := Lib.hid (by simp [ha])
  have HB : Hid ((segm q 9 9 == segm r 9 9) = false) := Lib.hid (by simp [hb])
  have HT : Hid ((t != 0) = true) := Lib.hid (by simp [hT])
  obtain ⟨F, hF⟩ : ∃ z9, adF p t (segm q 9 9) (segm r 9 9) = z9 := ⟨_, rfl⟩
  have HFb : Hid (Bytes 9 F) := Lib.hid (by rw [← hF]; exact adF_bytes _ _ _ (by omega) (by omega))
  obtain ⟨one, hone⟩ : ∃ z9, withQ q 1 F = z9 := ⟨_, rfl⟩
  have HOb : Hid (Bytes 27 one) := Lib.hid (by rw [← hone]; exact withQ_bytes hq HFb.out (by omega))
  have HW : Hid (over q 9 F = one) := Lib.hid hone
  have HE : Hid (joF p q r = some one) := Lib.hid (by unfold joF opF; rw [htv]; simp only [ha, hb, hT, ne_eq, not_false_eq_true, and_false, and_true, and_self, if_true, if_false]; rw [← hone, ← hF])
  have HF := Lib.hid hF
  clear hF hone
  clear ha hb htv hT
  go_enter Try.func86, Try.ntmps86
  go_upto_region 0 with (fail)
  refine wp_region_lit ?_
  refine ls_op rfl (fun K' hK' => ?_)
  have lz1 := hB.size
  refine wp_new (some 4) rfl (exec_box 53 _ rfl (u8s (q)) rfl) (fun Wz2 nnz3 => ?_)
  have bz4 := nnz3.below (Below.refl _ _) (Nat.le_refl _)
  replace hB := below_after hB bz4
  have hz5 : At Wz2 w.heap.size (.cells (u8s (q)) 53 (0, 0)) := nnz3.at_
  refine hK' _ _ ?_
  clear hK' K' nnz3 bz4
  go_frame
  refine ls_op rfl (fun K' hK' => ?_)
  have lz6 := hB.size
  have lz7 := hz5.lt
  refine wp_new (some 5) rfl (exec_box 53 _ rfl (u8s (r)) rfl) (fun Wz8 nnz9 => ?_)
  have bz10 := nnz9.below (Below.refl _ _) (Nat.le_refl _)
  replace hB := below_after hB bz10
  replace hz5 := hz5.after bz10
  have hz11 : At Wz8 Wz2.heap.size (.cells (u8s (r)) 53 (0, 0)) := nnz9.at_
  refine hK' _ _ ?_
  clear hK' K' nnz9 bz10
  go_frame
  refine ls_op rfl (fun K' hK' => ?_)
  have lz12 := hB.size
  have lz13 := hz5.lt
  have lz14 := hz11.lt
  refine wp_new (some 6) rfl (alRa_impl_Product rfl) (fun Wz15 nnz16 => ?_)
  have bz17 := nnz16.below (Below.refl _ _) (Nat.le_refl _)
  replace hB := below_after hB bz17
  replace hz5 := hz5.after bz17
  replace hz11 := hz11.after bz17
  have hz18 : At Wz15 Wz8.heap.size (.cells (u8s (List.replicate 27 0)) 53 (0, 0)) := nnz16.at_
  refine hK' _ _ ?_
  clear hK' K' nnz16 bz17
  go_frame
  refine ls_ex (some 7) (.bool false) rfl rfl (exec_assign _ rfl (.bool false) rfl) ?_
  go_frame
  refine wpList_nil ?_
  go_upto_region 1 with (fail)
  refine wp_region_lit ?_
  refine ls_ex (some 9) (.int .i64 p) rfl rfl (exec_move _ rfl (.int .i64 p) rfl) ?_
  go_frame
  refine ls_ex (some 10) (.pointer (some ⟨w.heap.size, 18, none⟩)) rfl rfl (exec_fieldAddr 53 _ 2 rfl _ (by kernel_rfl)) ?_
  go_frame
  refine ls_ex (some 11) (.agg (u8s (segm q 18 9))) rfl rfl (exec_load_seg 51 _ rfl w.heap.size (18) rfl _ (q) _ 9 hz5 Try.underlying51 rfl (by kernel_rfl) (by rw [hq.len]; omega) (segm q 18 9) rfl) ?_
  go_frame
  refine ls_ex (some 12) (.pointer (some ⟨Wz2.heap.size, 18, none⟩)) rfl rfl (exec_fieldAddr 53 _ 2 rfl _ (by kernel_rfl)) ?_
  go_frame
  refine ls_ex (some 13) (.agg (u8s (segm r 18 9))) rfl rfl (exec_load_seg 51 _ rfl Wz2.heap.size (18) rfl _ (r) _ 9 hz11 Try.underlying51 rfl (by kernel_rfl) (by rw [hr.len]; omega) (segm r 18 9) rfl) ?_
  go_frame
  refine ls_op rfl (fun K' hK' => ?_)
  have lz21 := hB.size
  have lz22 := hz5.lt
  have lz23 := hz11.lt
  have lz24 := hz18.lt
  refine wp_call3 (some 14) rfl 108 _ _ _ _ rfl (fun args w => by kernel_rfl) _ _ _ rfl rfl rfl _ (l03Times_c p (segm q 18 9) (segm r 18 9) (segm_bytes hq (by omega)) (segm_bytes hr (by omega)) _ hpp gq.f2 gr.f2 (nz_parts gq.z).2.2 (nz_parts gr.z).2.2) (fun e Wz19 h => ?_)
  obtain ⟨rfl, bz20⟩ := h
  replace hB := below_after hB bz20
  replace hz5 := hz5.after bz20
  replace hz11 := hz11.after bz20
  replace hz18 := hz18.after bz20
  rw [HTv.out]
  clear bz20
  refine ⟨_, rfl, ?_⟩
  refine hK' _ _ ?_
  clear hK' K'
  go_frame
  refine ls_ex (some 8) (.int .i64 t) rfl rfl (exec_assign _ rfl (.int .i64 t) rfl) ?_
  go_frame
  refine wpList_nil ?_
  go_upto_region 3 with (fail)
  refine wp_region_lit ?_
  refine ls_ex (some 17) (.pointer (some ⟨w.heap.size, 0, none⟩)) rfl rfl (exec_fieldAddr 53 _ 0 rfl _ (by kernel_rfl)) ?_
  go_frame
  refine ls_ex (some 18) (.agg (u8s (segm q 0 9))) rfl rfl (exec_load_seg 51 _ rfl w.heap.size (0) rfl _ (q) _ 9 hz5 Try.underlying51 rfl (by kernel_rfl) (by rw [hq.len]; omega) (segm q 0 9) rfl) ?_
  go_frame
  refine ls_ex (some 19) (.pointer (some ⟨Wz2.heap.size, 0, none⟩)) rfl rfl (exec_fieldAddr 53 _ 0 rfl _ (by kernel_rfl)) ?_
  go_frame
  refine ls_ex (some 20) (.agg (u8s (segm r 0 9))) rfl rfl (exec_load_seg 51 _ rfl Wz2.heap.size (0) rfl _ (r) _ 9 hz11 Try.underlying51 rfl (by kernel_rfl) (by rw [hr.len]; omega) (segm r 0 9) rfl) ?_
  go_frame
  refine ls_ex (some 21) (.bool true) rfl rfl (exec_eql_u8s_b 51 _ _ _ _ rfl 9 Try.underlying51 Try.underlying5 (by kernel_rfl) (by kernel_rfl) (segm q 0 9) (segm r 0 9) rfl rfl (segm_len (by rw [hq.len]; omega)) (segm_len (by rw [hr.len]; omega)) true HA.out) ?_
  go_frame
  refine ls_ex (some 22) (.bool true) rfl rfl (exec_move _ rfl (.bool true) rfl) ?_
  go_frame
  refine ls_ex_g (some 23) (.pointer (some ⟨w.heap.size, 9, none⟩)) rfl rfl (exec_fieldAddr 53 _ 1 rfl _ (by kernel_rfl)) ?_
  go_frame
  refine ls_ex_g (some 24) (.agg (u8s (segm q 9 9))) rfl rfl (exec_load_seg 51 _ rfl w.heap.size (9) rfl _ (q) _ 9 hz5 Try.underlying51 rfl (by kernel_rfl) (by rw [hq.len]; omega) (segm q 9 9) rfl) ?_
  go_frame
  refine ls_ex_g (some 25) (.pointer (some ⟨Wz2.heap.size, 9, none⟩)) rfl rfl (exec_fieldAddr 53 _ 1 rfl _ (by kernel_rfl)) ?_
  go_frame
  refine ls_ex_g (some 26) (.agg (u8s (segm r 9 9))) rfl rfl (exec_load_seg 51 _ rfl Wz2.heap.size (9) rfl _ (r) _ 9 hz11 Try.underlying51 rfl (by kernel_rfl) (by rw [hr.len]; omega) (segm r 9 9) rfl) ?_
  go_frame
  refine ls_ex_g (some 27) (.bool false) rfl rfl (exec_eql_u8s_b 51 _ _ _ _ rfl 9 Try.underlying51 Try.underlying5 (by kernel_rfl) (by kernel_rfl) (segm q 9 9) (segm r 9 9) rfl rfl (segm_len (by rw [hq.len]; omega)) (segm_len (by rw [hr.len]; omega)) false HB.out) ?_
  go_frame
  refine ls_ex (some 28) (.bool false) rfl rfl (exec_pick _ _ _ rfl true rfl (.bool false) rfl) ?_
  go_frame
  refine ls_ex (some 16) (.bool false) rfl rfl (exec_assign _ rfl (.bool false) rfl) ?_
  go_frame
  refine wpList_nil ?_
  go_upto_region 5 with (fail)
  refine wp_region_lit ?_
  refine ls_ex (some 37) (.pointer (some ⟨w.heap.size, 0, none⟩)) rfl rfl (exec_fieldAddr 53 _ 0 rfl _ (by kernel_rfl)) ?_
  go_frame
  refine ls_ex (some 38) (.agg (u8s (segm q 0 9))) rfl rfl (exec_load_seg 51 _ rfl w.heap.size (0) rfl _ (q) _ 9 hz5 Try.underlying51 rfl (by kernel_rfl) (by rw [hq.len]; omega) (segm q 0 9) rfl) ?_
  go_frame
  refine ls_ex (some 39) (.pointer (some ⟨Wz2.heap.size, 0, none⟩)) rfl rfl (exec_fieldAddr 53 _ 0 rfl _ (by kernel_rfl)) ?_
  go_frame
  refine ls_ex (some 40) (.agg (u8s (segm r 0 9))) rfl rfl (exec_load_seg 51 _ rfl Wz2.heap.size (0) rfl _ (r) _ 9 hz11 Try.underlying51 rfl (by kernel_rfl) (by rw [hr.len]; omega) (segm r 0 9) rfl) ?_
  go_frame
  refine ls_ex (some 41) (.bool true) rfl rfl (exec_eql_u8s_b 51 _ _ _ _ rfl 9 Try.underlying51 Try.underlying5 (by kernel_rfl) (by kernel_rfl) (segm q 0 9) (segm r 0 9) rfl rfl (segm_len (by rw [hq.len]; omega)) (segm_len (by rw [hr.len]; omega)) true HA.out) ?_
  go_frame
  refine ls_ex (some 42) (.bool true) rfl rfl (exec_move _ rfl (.bool true) rfl) ?_
  go_frame
  refine ls_ex_g (some 43) (.int .i64 t) rfl rfl (exec_move _ rfl (.int .i64 t) rfl) ?_
  go_frame
  refine ls_ex_g (some 44) (.bool true) rfl rfl (exec_neq _ _ _ _ rfl t 0 rfl rfl true HT.out) ?_
  go_frame
  refine ls_ex (some 45) (.bool true) rfl rfl (exec_pick _ _ _ rfl true rfl (.bool true) rfl) ?_
  go_frame
  refine ls_ex (some 36) (.bool true) rfl rfl (exec_assign _ rfl (.bool true) rfl) ?_
  go_frame
  refine wpList_nil ?_
  go_upto_region 6 with (fail)
  refine wp_region_lit ?_
  refine ls_ex (some 46) (.int .i64 p) rfl rfl (exec_move _ rfl (.int .i64 p) rfl) ?_
  go_frame
  refine ls_ex (some 47) (.pointer (some ⟨w.heap.size, 9, none⟩)) rfl rfl (exec_fieldAddr 53 _ 1 rfl _ (by kernel_rfl)) ?_
  go_frame
  refine ls_ex (some 48) (.agg (u8s (segm q 9 9))) rfl rfl (exec_load_seg 51 _ rfl w.heap.size (9) rfl _ (q) _ 9 hz5 Try.underlying51 rfl (by kernel_rfl) (by rw [hq.len]; omega) (segm q 9 9) rfl) ?_
  go_frame
  refine ls_ex (some 49) (.pointer (some ⟨Wz2.heap.size, 9, none⟩)) rfl rfl (exec_fieldAddr 53 _ 1 rfl _ (by kernel_rfl)) ?_
  go_frame
  refine ls_ex (some 50) (.agg (u8s (segm r 9 9))) rfl rfl (exec_load_seg 51 _ rfl Wz2.heap.size (9) rfl _ (r) _ 9 hz11 Try.underlying51 rfl (by kernel_rfl) (by rw [hr.len]; omega) (segm r 9 9) rfl) ?_
  go_frame
  refine ls_ex (some 51) (.int .i64 t) rfl rfl (exec_move _ rfl (.int .i64 t) rfl) ?_
  go_frame
  refine ls_op rfl (fun K' hK' => ?_)
  have lz27 := hB.size
  have lz28 := hz5.lt
  have lz29 := hz11.lt
  have lz30 := hz18.lt
  refine wp_call4 (some 52) rfl 109 _ _ _ _ _ rfl (fun args w => by kernel_rfl) _ _ _ _ rfl rfl rfl rfl _ (l01Add_c p t (segm q 9 9) (segm r 9 9) (segm_bytes hq (by omega)) (segm_bytes hr (by omega)) _ (by omega) (by omega) (by omega) (by omega)) (fun e Wz25 h => ?_)
  obtain ⟨rfl, bz26⟩ := h
  replace hB := below_after hB bz26
  replace hz5 := hz5.after bz26
  replace hz11 := hz11.after bz26
  replace hz18 := hz18.after bz26
  rw [HF.out]
  clear bz26
  refine ⟨_, rfl, ?_⟩
  refine hK' _ _ ?_
  clear hK' K'
  go_frame
  refine ls_ex (some 53) (.pointer (some ⟨w.heap.size, 9, none⟩)) rfl rfl (exec_fieldAddr 53 _ 1 rfl _ (by kernel_rfl)) ?_
  go_frame
  refine ls_op rfl (fun K' hK' => ?_)
  refine wp_store_u8s 51 _ _ rfl rfl w.heap.size (9) rfl (F) rfl _ _ hz5 9 (by kernel_rfl) HFb.out.len (by rw [hq.len]; omega) (fun Wz31 pz32 => ?_)
  replace hB := pz32.below hB (by omega)
  replace hz11 := pz32.other hz11 (by omega)
  replace hz18 := pz32.other hz18 (by omega)
  replace hz5 : At Wz31 w.heap.size (.cells (u8s (one)) 53 (0, 0)) := by have h9 := pz32.at_; rwa [HW.out] at h9
  refine hK' _ _ ?_
  clear hK' K' pz32
  refine wpList_nil ?_
  go_upto_region 9 with (fail)
  refine wp_region_lit ?_
  refine ls_ex (some 72) (.agg (u8s (one))) rfl rfl (exec_load_all 53 _ rfl w.heap.size rfl _ _ _ hz5 Try.underlying53 rfl 27 (by kernel_rfl) ((u8s_size _).trans HOb.out.len)) ?_
  go_frame
  refine ls_op rfl (fun K' hK' => ?_)
  refine wp_store_bytes 53 _ _ rfl rfl Wz8.heap.size rfl (one) rfl _ _ hz18 27 (by kernel_rfl) HOb.out.len (by simp) (fun Wz34 pz35 => ?_)
  replace hB := pz35.below hB (by omega)
  replace hz5 := pz35.other hz5 (by omega)
  replace hz11 := pz35.other hz11 (by omega)
  replace hz18 : At Wz34 Wz8.heap.size (.cells (u8s (one)) 53 (0, 0)) := pz35.at_
  refine hK' _ _ ?_
  clear hK' K' pz35
  refine ls_ex (some 7) (.bool true) rfl rfl (exec_assign _ rfl (.bool true) rfl) ?_
  go_frame
  refine wpList_nil ?_
  go_wp2_with fail
  refine bodyPost_ret (results_at2 rfl _ _ Wz8.heap.size _ _ _ rfl _ rfl hz18 Try.underlying53 rfl 27 (by kernel_rfl) ((u8s_size _).trans HOb.out.len)) rfl ?_
  exact ⟨by rw [HE.out]; rfl, hB⟩
set_option maxHeartbeats 6400000 in
theorem join_3 (p : Int) (q r : List Nat) (w : World) (hpp : primeB p = true) (gq : GR p q) (gr : GR p r) (t : Int) (htv : timF p (segm q 18 9) (segm r 18 9) = t) (ha : segm q 0 9 = segm r 0 9) (hb : segm q 9 9 ≠ segm r 9 9) (hT : t = 0) :
    Calls Try.prog 86 #[.int .i64 p, .agg (u8s q), .agg (u8s r)] w (fun e w' => e = .returned (unV (joF p q r)) ∧ Below w.heap.size w w') := by
  have hB := Below.refl w.heap.size w
  have hp : 2 ≤ p ∧ p ≤ 5 := prime_le5 hpp
  have hq := gq.b
  have hr := gr.b
  have htb := timF_in hpp (segm q 18 9) (segm r 18 9)
  rw [htv] at htb
  have HTv := Lib.hid htv
  have HA : Hid ((segm q 0 9 == segm r 0 9) = true) := Lib.hid (by simp [ha])
  have HB : Hid ((segm q 9 9 == segm r 9 9) = false) := Lib.hid (by simp [hb])
  have HT : Hid ((t != 0) = false) := Lib.hid (by simp [hT])
  have HE : Hid (joF p q r = none) := Lib.hid (by unfold joF opF; rw [htv]; simp [ha, hb, hT])
  clear ha hb htv hT
  go_enter Try.func86, Try.ntmps86
  go_upto_region 0 with (fail)
  refine wp_region_lit ?_
  refine ls_op rfl (fun K' hK' => ?_)
  have lz1 := hB.size
  refine wp_new (some 4) rfl (exec_box 53 _ rfl (u8s (q)) rfl) (fun Wz2 nnz3 => ?_)
  have bz4 := nnz3.below (Below.refl _ _) (Nat.le_refl _)
  replace hB := below_after hB bz4
  have hz5 : At Wz2 w.heap.size (.cells (u8s (q)) 53 (0, 0)) := nnz3.at_
  refine hK' _ _ ?_
  clear hK' K' nnz3 bz4
  go_frame
  refine ls_op rfl (fun K' hK' => ?_)
  have lz6 := hB.size
  have lz7 := hz5.lt
  refine wp_new (some 5) rfl (exec_box 53 _ rfl (u8s (r)) rfl) (fun Wz8 nnz9 => ?_)
  have bz10 := nnz9.below (Below.refl _ _) (Nat.le_refl _)
  replace hB := below_after hB bz10
  replace hz5 := hz5.after bz10
  have hz11 : At Wz8 Wz2.heap.size (.cells (u8s (r)) 53 (0, 0)) := nnz9.at_
  refine hK' _ _ ?_
  clear hK' K' nnz9 bz10
  go_frame
  refine ls_op rfl (fun K' hK' => ?_)
  have lz12 := hB.size
  have lz13 := hz5.lt
  have lz14 := hz11.lt
  refine wp_new (some 6) rfl (alRa_impl_Product rfl) (fun Wz15 nnz16 => ?_)
  have bz17 := nnz16.below (Below.refl _ _) (Nat.le_refl _)
  replace hB := below_after hB bz17
  replace hz5 := hz5.after bz17
  replace hz11 := hz11.after bz17
  have hz18 : At Wz15 Wz8.heap.size (.cells (u8s (List.replicate 27 0)) 53 (0, 0)) := nnz16.at_
  refine hK' _ _ ?_
  clear hK' K' nnz16 bz17
  go_frame
  refine ls_ex (some 7) (.bool false) rfl rfl (exec_assign _ rfl (.bool false) rfl) ?_
  go_frame
  refine wpList_nil ?_
  go_upto_region 1 with (fail)
  refine wp_region_lit ?_
  refine ls_ex (some 9) (.int .i64 p) rfl rfl (exec_move _ rfl (.int .i64 p) rfl) ?_
  go_frame
  refine ls_ex (some 10) (.pointer (some ⟨w.heap.size, 18, none⟩)) rfl rfl (exec_fieldAddr 53 _ 2 rfl _ (by kernel_rfl)) ?_
  go_frame
  refine ls_ex (some 11) (.agg (u8s (segm q 18 9))) rfl rfl (exec_load_seg 51 _ rfl w.heap.size (18) rfl _ (q) _ 9 hz5 Try.underlying51 rfl (by kernel_rfl) (by rw [hq.len]; omega) (segm q 18 9) rfl) ?_
  go_frame
  refine ls_ex (some 12) (.pointer (some ⟨Wz2.heap.size, 18, none⟩)) rfl rfl (exec_fieldAddr 53 _ 2 rfl _ (by kernel_rfl)) ?_
  go_frame
  refine ls_ex (some 13) (.agg (u8s (segm r 18 9))) rfl rfl (exec_load_seg 51 _ rfl Wz2.heap.size (18) rfl _ (r) _ 9 hz11 Try.underlying51 rfl (by kernel_rfl) (by rw [hr.len]; omega) (segm r 18 9) rfl) ?_
  go_frame
  refine ls_op rfl (fun K' hK' => ?_)
  have lz21 := hB.size
  have lz22 := hz5.lt
  have lz23 := hz11.lt
  have lz24 := hz18.lt
  refine wp_call3 (some 14) rfl 108 _ _ _ _ rfl (fun args w => by kernel_rfl) _ _ _ rfl rfl rfl _ (l03Times_c p (segm q 18 9) (segm r 18 9) (segm_bytes hq (by omega)) (segm_bytes hr (by omega)) _ hpp gq.f2 gr.f2 (nz_parts gq.z).2.2 (nz_parts gr.z).2.2) (fun e Wz19 h => ?_)
  obtain ⟨rfl, bz20⟩ := h
  replace hB := below_after hB bz20
  replace hz5 := hz5.after bz20
  replace hz11 := hz11.after bz20
  replace hz18 := hz18.after bz20
  rw [HTv.out]
  clear bz20
  refine ⟨_, rfl, ?_⟩
  refine hK' _ _ ?_
  clear hK' K'
  go_frame
  refine ls_ex (some 8) (.int .i64 t) rfl rfl (exec_assign _ rfl (.int .i64 t) rfl) ?_
  go_frame
  refine wpList_nil ?_
  go_upto_region 3 with (fail)
  refine wp_region_lit ?_
  refine ls_ex (some 17) (.pointer (some ⟨w.heap.size, 0, none⟩)) rfl rfl (exec_fieldAddr 53 _ 0 rfl _ (by kernel_rfl)) ?_
  go_frame
  refine ls_ex (some 18) (.agg (u8s (segm q 0 9))) rfl rfl (exec_load_seg 51 _ rfl w.heap.size (0) rfl _ (q) _ 9 hz5 Try.underlying51 rfl (by kernel_rfl) (by rw [hq.len]; omega) (segm q 0 9) rfl) ?_
  go_frame
  refine ls_ex (some 19) (.pointer (some ⟨Wz2.heap.size, 0, none⟩)) rfl rfl (exec_fieldAddr 53 _ 0 rfl _ (by kernel_rfl)) ?_
  go_frame
  refine ls_ex (some 20) (.agg (u8s (segm r 0 9))) rfl rfl (exec_load_seg 51 _ rfl Wz2.heap.size (0) rfl _ (r) _ 9 hz11 Try.underlying51 rfl (by kernel_rfl) (by rw [hr.len]; omega) (segm r 0 9) rfl) ?_
  go_frame
  refine ls_ex (some 21) (.bool true) rfl rfl (exec_eql_u8s_b 51 _ _ _ _ rfl 9 Try.underlying51 Try.underlying5 (by kernel_rfl) (by kernel_rfl) (segm q 0 9) (segm r 0 9) rfl rfl (segm_len (by rw [hq.len]; omega)) (segm_len (by rw [hr.len]; omega)) true HA.out) ?_
  go_frame
  refine ls_ex (some 22) (.bool true) rfl rfl (exec_move _ rfl (.bool true) rfl) ?_
  go_frame
  refine ls_ex_g (some 23) (.pointer (some ⟨w.heap.size, 9, none⟩)) rfl rfl (exec_fieldAddr 53 _ 1 rfl _ (by kernel_rfl)) ?_
  go_frame
  refine ls_ex_g (some 24) (.agg (u8s (segm q 9 9))) rfl rfl (exec_load_seg 51 _ rfl w.heap.size (9) rfl _ (q) _ 9 hz5 Try.underlying51 rfl (by kernel_rfl) (by rw [hq.len]; omega) (segm q 9 9) rfl) ?_
  go_frame
  refine ls_ex_g (some 25) (.pointer (some ⟨Wz2.heap.size, 9, none⟩)) rfl rfl (exec_fieldAddr 53 _ 1 rfl _ (by kernel_rfl)) ?_
  go_frame
  refine ls_ex_g (some 26) (.agg (u8s (segm r 9 9))) rfl rfl (exec_load_seg 51 _ rfl Wz2.heap.size (9) rfl _ (r) _ 9 hz11 Try.underlying51 rfl (by kernel_rfl) (by rw [hr.len]; omega) (segm r 9 9) rfl) ?_
  go_frame
  refine ls_ex_g (some 27) (.bool false) rfl rfl (exec_eql_u8s_b 51 _ _ _ _ rfl 9 Try.underlying51 Try.underlying5 (by kernel_rfl) (by kernel_rfl) (segm q 9 9) (segm r 9 9) rfl rfl (segm_len (by rw [hq.len]; omega)) (segm_len (by rw [hr.len]; omega)) false HB.out) ?_
  go_frame
  refine ls_ex (some 28) (.bool false) rfl rfl (exec_pick _ _ _ rfl true rfl (.bool false) rfl) ?_
  go_frame
  refine ls_ex (some 16) (.bool false) rfl rfl (exec_assign _ rfl (.bool false) rfl) ?_
  go_frame
  refine wpList_nil ?_
  go_upto_region 5 with (fail)
  refine wp_region_lit ?_
  refine ls_ex (some 37) (.pointer (some ⟨w.heap.size, 0, none⟩)) rfl rfl (exec_fieldAddr 53 _ 0 rfl _ (by kernel_rfl)) ?_
  go_frame
  refine ls_ex (some 38) (.agg (u8s (segm q 0 9))) rfl rfl (exec_load_seg 51 _ rfl w.heap.size (0) rfl _ (q) _ 9 hz5 Try.underlying51 rfl (by kernel_rfl) (by rw [hq.len]; omega) (segm q 0 9) rfl) ?_
  go_frame
  refine ls_ex (some 39) (.pointer (some ⟨Wz2.heap.size, 0, none⟩)) rfl rfl (exec_fieldAddr 53 _ 0 rfl _ (by kernel_rfl)) ?_
  go_frame
  refine ls_ex (some 40) (.agg (u8s (segm r 0 9))) rfl rfl (exec_load_seg 51 _ rfl Wz2.heap.size (0) rfl _ (r) _ 9 hz11 Try.underlying51 rfl (by kernel_rfl) (by rw [hr.len]; omega) (segm r 0 9) rfl) ?_
  go_frame
  refine ls_ex (some 41) (.bool true) rfl rfl (exec_eql_u8s_b 51 _ _ _ _ rfl 9 Try.underlying51 Try.underlying5 (by kernel_rfl) (by kernel_rfl) (segm q 0 9) (segm r 0 9) rfl rfl (segm_len (by rw [hq.len]; omega)) (segm_len (by rw [hr.len]; omega)) true HA.out) ?_
  go_frame
  refine ls_ex (some 42) (.bool true) rfl rfl (exec_move _ rfl (.bool true) rfl) ?_
  go_frame
  refine ls_ex_g (some 43) (.int .i64 t) rfl rfl (exec_move _ rfl (.int .i64 t) rfl) ?_
  go_frame
  refine ls_ex_g (some 44) (.bool false) rfl rfl (exec_neq _ _ _ _ rfl t 0 rfl rfl false HT.out) ?_
  go_frame
  refine ls_ex (some 45) (.bool false) rfl rfl (exec_pick _ _ _ rfl true rfl (.bool false) rfl) ?_
  go_frame
  refine ls_ex (some 36) (.bool false) rfl rfl (exec_assign _ rfl (.bool false) rfl) ?_
  go_frame
  refine wpList_nil ?_
  go_upto_region 7 with (fail)
  refine wp_region_lit ?_
  refine ls_ex (some 55) (.pointer (some ⟨w.heap.size, 9, none⟩)) rfl rfl (exec_fieldAddr 53 _ 1 rfl _ (by kernel_rfl)) ?_
  go_frame
  refine ls_ex (some 56) (.agg (u8s (segm q 9 9))) rfl rfl (exec_load_seg 51 _ rfl w.heap.size (9) rfl _ (q) _ 9 hz5 Try.underlying51 rfl (by kernel_rfl) (by rw [hq.len]; omega) (segm q 9 9) rfl) ?_
  go_frame
  refine ls_ex (some 57) (.pointer (some ⟨Wz2.heap.size, 9, none⟩)) rfl rfl (exec_fieldAddr 53 _ 1 rfl _ (by kernel_rfl)) ?_
  go_frame
  refine ls_ex (some 58) (.agg (u8s (segm r 9 9))) rfl rfl (exec_load_seg 51 _ rfl Wz2.heap.size (9) rfl _ (r) _ 9 hz11 Try.underlying51 rfl (by kernel_rfl) (by rw [hr.len]; omega) (segm r 9 9) rfl) ?_
  go_frame
  refine ls_ex (some 59) (.bool false) rfl rfl (exec_eql_u8s_b 51 _ _ _ _ rfl 9 Try.underlying51 Try.underlying5 (by kernel_rfl) (by kernel_rfl) (segm q 9 9) (segm r 9 9) rfl rfl (segm_len (by rw [hq.len]; omega)) (segm_len (by rw [hr.len]; omega)) false HB.out) ?_
  go_frame
  refine ls_ex (some 60) (.bool false) rfl rfl (exec_move _ rfl (.bool false) rfl) ?_
  go_frame
  refine ls_skip_g (some 61) rfl rfl ?_
  go_frame
  refine ls_skip_g (some 62) rfl rfl ?_
  go_frame
  refine ls_ex (some 63) (.bool false) rfl rfl (exec_pick _ _ _ rfl false rfl (.bool false) rfl) ?_
  go_frame
  refine ls_ex (some 54) (.bool false) rfl rfl (exec_assign _ rfl (.bool false) rfl) ?_
  go_frame
  refine wpList_nil ?_
  go_upto_region 2 with (fail)
  refine wp_region_lit ?_
  refine ls_ex (some 15) (.agg (u8s (List.replicate 27 0))) rfl rfl (exec_build_nil 53 rfl _ (by kernel_rfl)) ?_
  go_frame
  refine ls_op rfl (fun K' hK' => ?_)
  refine wp_store_bytes 53 _ _ rfl rfl Wz8.heap.size rfl (List.replicate 27 0) rfl _ _ hz18 27 (by kernel_rfl) (by simp) (by simp) (fun Wz25 pz26 => ?_)
  replace hB := pz26.below hB (by omega)
  replace hz5 := pz26.other hz5 (by omega)
  replace hz11 := pz26.other hz11 (by omega)
  replace hz18 : At Wz25 Wz8.heap.size (.cells (u8s (List.replicate 27 0)) 53 (0, 0)) := pz26.at_
  refine hK' _ _ ?_
  clear hK' K' pz26
  refine ls_ex (some 7) (.bool false) rfl rfl (exec_assign _ rfl (.bool false) rfl) ?_
  go_frame
  refine wpList_nil ?_
  go_wp2_with fail
  refine bodyPost_ret (results_at2 rfl _ _ Wz8.heap.size _ _ _ rfl _ rfl hz18 Try.underlying53 rfl 27 (by kernel_rfl) ((u8s_size _).trans (by simp))) rfl ?_
  exact ⟨by rw [HE.out]; rfl, hB⟩
set_option maxHeartbeats 6400000 in
theorem join_4 (p : Int) (q r : List Nat) (w : World) (hpp : primeB p = true) (gq : GR p q) (gr : GR p r) (t : Int) (htv : timF p (segm q 18 9) (segm r 18 9) = t) (ha : segm q 0 9 ≠ segm r 0 9) (hb : segm q 9 9 = segm r 9 9) (hT : t ≠ 0) :
    Calls Try.prog 86 #[.int .i64 p, .agg (u8s q), .agg (u8s r)] w (fun e w' => e = .returned (unV (joF p q r)) ∧ Below w.heap.size w w') := by
  have hB := Below.refl w.heap.size w
  have hp : 2 ≤ p ∧ p ≤ 5 := prime_le5 hpp
  have hq := gq.b
  have hr := gr.b
  have htb := timF_in hpp (segm q 18 9) (segm r 18 9)
  rw [htv] at htb
  have HTv := Lib.hid htv
  have HA : Hid ((segm q 0 9 == segm r 0 9) = false) := Lib.hid (by simp [ha])
  have HB : Hid ((segm q 9 9 == segm r 9 9) = true) := Lib.hid (by simp [hb])
  have HT : Hid ((t != 0) = true) := Lib.hid (by simp [hT])
  obtain ⟨F, hF⟩ : ∃ z9, adF p t (segm q 0 9) (segm r 0 9) = z9 := ⟨_, rfl⟩
  have HFb : Hid (Bytes 9 F) := Lib.hid (by rw [← hF]; exact adF_bytes _ _ _ (by omega) (by omega))
  obtain ⟨one, hone⟩ : ∃ z9, withQ q 0 F = z9 := ⟨_, rfl⟩
  have HOb : Hid (Bytes 27 one) := Lib.hid (by rw [← hone]; exact withQ_bytes hq HFb.out (by omega))
  have HW : Hid (over q 0 F = one) := Lib.hid hone
  have HE : Hid (joF p q r = some one) := Lib.hid (by unfold joF opF; rw [htv]; simp only [ha, hb, hT, ne_eq, not_false_eq_true, and_true, and_self, if_true, if_false]; rw [← hone, ← hF])
  have HF := Lib.hid hF
  clear hF hone
  clear ha hb htv hT
  go_enter Try.func86, Try.ntmps86
  go_upto_region 0 with (fail)
  refine wp_region_lit ?_
  refine ls_op rfl (fun K' hK' => ?_)
  have lz1 := hB.size
  refine wp_new (some 4) rfl (exec_box 53 _ rfl (u8s (q)) rfl) (fun Wz2 nnz3 => ?_)
  have bz4 := nnz3.below (Below.refl _ _) (Nat.le_refl _)
  replace hB := below_after hB bz4
  have hz5 : At Wz2 w.heap.size (.cells (u8s (q)) 53 (0, 0)) := nnz3.at_
  refine hK' _ _ ?_
  clear hK' K' nnz3 bz4
  go_frame
  refine ls_op rfl (fun K' hK' => ?_)
  have lz6 := hB.size
  have lz7 := hz5.lt
  refine wp_new (some 5) rfl (exec_box 53 _ rfl (u8s (r)) rfl) (fun Wz8 nnz9 => ?_)
  have bz10 := nnz9.below (Below.refl _ _) (Nat.le_refl _)
  replace hB := below_after hB bz10
  replace hz5 := hz5.after bz10
  have hz11 : At Wz8 Wz2.heap.size (.cells (u8s (r)) 53 (0, 0)) := nnz9.at_
  refine hK' _ _ ?_
  clear hK' K' nnz9 bz10
  go_frame
  refine ls_op rfl (fun K' hK' => ?_)
  have lz12 := hB.size
  have lz13 := hz5.lt
  have lz14 := hz11.lt
  refine wp_new (some 6) rfl (alRa_impl_Product rfl) (fun Wz15 nnz16 => ?_)
  have bz17 := nnz16.below (Below.refl _ _) (Nat.le_refl _)
  replace hB := below_after hB bz17
  replace hz5 := hz5.after bz17
  replace hz11 := hz11.after bz17
  have hz18 : At Wz15 Wz8.heap.size (.cells (u8s (List.replicate 27 0)) 53 (0, 0)) := nnz16.at_
  refine hK' _ _ ?_
  clear hK' K' nnz16 bz17
  go_frame
  refine ls_ex (some 7) (.bool false) rfl rfl (exec_assign _ rfl (.bool false) rfl) ?_
  go_frame
  refine wpList_nil ?_
  go_upto_region 1 with (fail)
  refine wp_region_lit ?_
  refine ls_ex (some 9) (.int .i64 p) rfl rfl (exec_move _ rfl (.int .i64 p) rfl) ?_
  go_frame
  refine ls_ex (some 10) (.pointer (some ⟨w.heap.size, 18, none⟩)) rfl rfl (exec_fieldAddr 53 _ 2 rfl _ (by kernel_rfl)) ?_
  go_frame
  refine ls_ex (some 11) (.agg (u8s (segm q 18 9))) rfl rfl (exec_load_seg 51 _ rfl w.heap.size (18) rfl _ (q) _ 9 hz5 Try.underlying51 rfl (by kernel_rfl) (by rw [hq.len]; omega) (segm q 18 9) rfl) ?_
  go_frame
  refine ls_ex (some 12) (.pointer (some ⟨Wz2.heap.size, 18, none⟩)) rfl rfl (exec_fieldAddr 53 _ 2 rfl _ (by kernel_rfl)) ?_
  go_frame
  refine ls_ex (some 13) (.agg (u8s (segm r 18 9))) rfl rfl (exec_load_seg 51 _ rfl Wz2.heap.size (18) rfl _ (r) _ 9 hz11 Try.underlying51 rfl (by kernel_rfl) (by rw [hr.len]; omega) (segm r 18 9) rfl) ?_
  go_frame
  refine ls_op rfl (fun K' hK' => ?_)
  have lz21 := hB.size
  have lz22 := hz5.lt
  have lz23 := hz11.lt
  have lz24 := hz18.lt
  refine wp_call3 (some 14) rfl 108 _ _ _ _ rfl (fun args w => by kernel_rfl) _ _ _ rfl rfl rfl _ (l03Times_c p (segm q 18 9) (segm r 18 9) (segm_bytes hq (by omega)) (segm_bytes hr (by omega)) _ hpp gq.f2 gr.f2 (nz_parts gq.z).2.2 (nz_parts gr.z).2.2) (fun e Wz19 h => ?_)
  obtain ⟨rfl, bz20⟩ := h
  replace hB := below_after hB bz20
  replace hz5 := hz5.after bz20
  replace hz11 := hz11.after bz20
  replace hz18 := hz18.after bz20
  rw [HTv.out]
  clear bz20
  refine ⟨_, rfl, ?_⟩
  refine hK' _ _ ?_
  clear hK' K'
  go_frame
  refine ls_ex (some 8) (.int .i64 t) rfl rfl (exec_assign _ rfl (.int .i64 t) rfl) ?_
  go_frame
  refine wpList_nil ?_
  go_upto_region 3 with (fail)
  refine wp_region_lit ?_
  refine ls_ex (some 17) (.pointer (some ⟨w.heap.size, 0, none⟩)) rfl rfl (exec_fieldAddr 53 _ 0 rfl _ (by kernel_rfl)) ?_
  go_frame
  refine ls_ex (some 18) (.agg (u8s (segm q 0 9))) rfl rfl (exec_load_seg 51 _ rfl w.heap.size (0) rfl _ (q) _ 9 hz5 Try.underlying51 rfl (by kernel_rfl) (by rw [hq.len]; omega) (segm q 0 9) rfl) ?_
  go_frame
  refine ls_ex (some 19) (.pointer (some ⟨Wz2.heap.size, 0, none⟩)) rfl rfl (exec_fieldAddr 53 _ 0 rfl _ (by kernel_rfl)) ?_
  go_frame
  refine ls_ex (some 20) (.agg (u8s (segm r 0 9))) rfl rfl (exec_load_seg 51 _ rfl Wz2.heap.size (0) rfl _ (r) _ 9 hz11 Try.underlying51 rfl (by kernel_rfl) (by rw [hr.len]; omega) (segm r 0 9) rfl) ?_
  go_frame
  refine ls_ex (some 21) (.bool false) rfl rfl (exec_eql_u8s_b 51 _ _ _ _ rfl 9 Try.underlying51 Try.underlying5 (by kernel_rfl) (by kernel_rfl) (segm q 0 9) (segm r 0 9) rfl rfl (segm_len (by rw [hq.len]; omega)) (segm_len (by rw [hr.len]; omega)) false HA.out) ?_
  go_frame
  refine ls_ex (some 22) (.bool false) rfl rfl (exec_move _ rfl (.bool false) rfl) ?_
  go_frame
  refine ls_skip_g (some 23) rfl rfl ?_
  go_frame
  refine ls_skip_g (some 24) rfl rfl ?_
  go_frame
  refine ls_skip_g (some 25) rfl rfl ?_
  go_frame
  refine ls_skip_g (some 26) rfl rfl ?_
  go_frame
  refine ls_skip_g (some 27) rfl rfl ?_
  go_frame
  refine ls_ex (some 28) (.bool false) rfl rfl (exec_pick _ _ _ rfl false rfl (.bool false) rfl) ?_
  go_frame
  refine ls_ex (some 16) (.bool false) rfl rfl (exec_assign _ rfl (.bool false) rfl) ?_
  go_frame
  refine wpList_nil ?_
  go_upto_region 5 with (fail)
  refine wp_region_lit ?_
  refine ls_ex (some 37) (.pointer (some ⟨w.heap.size, 0, none⟩)) rfl rfl (exec_fieldAddr 53 _ 0 rfl _ (by kernel_rfl)) ?_
  go_frame
  refine ls_ex (some 38) (.agg (u8s (segm q 0 9))) rfl rfl (exec_load_seg 51 _ rfl w.heap.size (0) rfl _ (q) _ 9 hz5 Try.underlying51 rfl (by kernel_rfl) (by rw [hq.len]; omega) (segm q 0 9) rfl) ?_
  go_frame
  refine ls_ex (some 39) (.pointer (some ⟨Wz2.heap.size, 0, none⟩)) rfl rfl (exec_fieldAddr 53 _ 0 rfl _ (by kernel_rfl)) ?_
  go_frame
  refine ls_ex (some 40) (.agg (u8s (segm r 0 9))) rfl rfl (exec_load_seg 51 _ rfl Wz2.heap.size (0) rfl _ (r) _ 9 hz11 Try.underlying51 rfl (by kernel_rfl) (by rw [hr.len]; omega) (segm r 0 9) rfl) ?_
  go_frame
  refine ls_ex (some 41) (.bool false) rfl rfl (exec_eql_u8s_b 51 _ _ _ _ rfl 9 Try.underlying51 Try.underlying5 (by kernel_rfl) (by kernel_rfl) (segm q 0 9) (segm r 0 9) rfl rfl (segm_len (by rw [hq.len]; omega)) (segm_len (by rw [hr.len]; omega)) false HA.out) ?_
  go_frame
  refine ls_ex (some 42) (.bool false) rfl rfl (exec_move _ rfl (.bool false) rfl) ?_
  go_frame
  refine ls_skip_g (some 43) rfl rfl ?_
  go_frame
  refine ls_skip_g (some 44) rfl rfl ?_
  go_frame
  refine ls_ex (some 45) (.bool false) rfl rfl (exec_pick _ _ _ rfl false rfl (.bool false) rfl) ?_
  go_frame
  refine ls_ex (some 36) (.bool false) rfl rfl (exec_assign _ rfl (.bool false) rfl) ?_
  go_frame
  refine wpList_nil ?_
  go_upto_region 7 with (fail)
  refine wp_region_lit ?_
  refine ls_ex (some 55) (.pointer (some ⟨w.heap.size, 9, none⟩)) rfl rfl (exec_fieldAddr 53 _ 1 rfl _ (by kernel_rfl)) ?_
  go_frame
  refine ls_ex (some 56) (.agg (u8s (segm q 9 9))) rfl rfl (exec_load_seg 51 _ rfl w.heap.size (9) rfl _ (q) _ 9 hz5 Try.underlying51 rfl (by kernel_rfl) (by rw [hq.len]; omega) (segm q 9 9) rfl) ?_
  go_frame
  refine ls_ex (some 57) (.pointer (some ⟨Wz2.heap.size, 9, none⟩)) rfl rfl (exec_fieldAddr 53 _ 1 rfl _ (by kernel_rfl)) ?_
  go_frame
  refine ls_ex (some 58) (.agg (u8s (segm r 9 9))) rfl rfl (exec_load_seg 51 _ rfl Wz2.heap.size (9) rfl _ (r) _ 9 hz11 Try.underlying51 rfl (by kernel_rfl) (by rw [hr.len]; omega) (segm r 9 9) rfl) ?_
  go_frame
  refine ls_ex (some 59) (.bool true) rfl rfl (exec_eql_u8s_b 51 _ _ _ _ rfl 9 Try.underlying51 Try.underlying5 (by kernel_rfl) (by kernel_rfl) (segm q 9 9) (segm r 9 9) rfl rfl (segm_len (by rw [hq.len]; omega)) (segm_len (by rw [hr.len]; omega)) true HB.out) ?_
  go_frame
  refine ls_ex (some 60) (.bool true) rfl rfl (exec_move _ rfl (.bool true) rfl) ?_
  go_frame
  refine ls_ex_g (some 61) (.int .i64 t) rfl rfl (exec_move _ rfl (.int .i64 t) rfl) ?_
  go_frame
  refine ls_ex_g (some 62) (.bool true) rfl rfl (exec_neq _ _ _ _ rfl t 0 rfl rfl true HT.out) ?_
  go_frame
  refine ls_ex (some 63) (.bool true) rfl rfl (exec_pick _ _ _ rfl true rfl (.bool true) rfl) ?_
  go_frame
  refine ls_ex (some 54) (.bool true) rfl rfl (exec_assign _ rfl (.bool true) rfl) ?_
  go_frame
  refine wpList_nil ?_
  go_upto_region 8 with (fail)
  refine wp_region_lit ?_
  refine ls_ex (some 64) (.int .i64 p) rfl rfl (exec_move _ rfl (.int .i64 p) rfl) ?_
  go_frame
  refine ls_ex (some 65) (.pointer (some ⟨w.heap.size, 0, none⟩)) rfl rfl (exec_fieldAddr 53 _ 0 rfl _ (by kernel_rfl)) ?_
  go_frame
  refine ls_ex (some 66) (.agg (u8s (segm q 0 9))) rfl rfl (exec_load_seg 51 _ rfl w.heap.size (0) rfl _ (q) _ 9 hz5 Try.underlying51 rfl (by kernel_rfl) (by rw [hq.len]; omega) (segm q 0 9) rfl) ?_
  go_frame
  refine ls_ex (some 67) (.pointer (some ⟨Wz2.heap.size, 0, none⟩)) rfl rfl (exec_fieldAddr 53 _ 0 rfl _ (by kernel_rfl)) ?_
  go_frame
  refine ls_ex (some 68) (.agg (u8s (segm r 0 9))) rfl rfl (exec_load_seg 51 _ rfl Wz2.heap.size (0) rfl _ (r) _ 9 hz11 Try.underlying51 rfl (by kernel_rfl) (by rw [hr.len]; omega) (segm r 0 9) rfl) ?_
  go_frame
  refine ls_ex (some 69) (.int .i64 t) rfl rfl (exec_move _ rfl (.int .i64 t) rfl) ?_
  go_frame
  refine ls_op rfl (fun K' hK' => ?_)
  have lz27 := hB.size
  have lz28 := hz5.lt
  have lz29 := hz11.lt
  have lz30 := hz18.lt
  refine wp_call4 (some 70) rfl 109 _ _ _ _ _ rfl (fun args w => by kernel_rfl) _ _ _ _ rfl rfl rfl rfl _ (l01Add_c p t (segm q 0 9) (segm r 0 9) (segm_bytes hq (by omega)) (segm_bytes hr (by omega)) _ (by omega) (by omega) (by omega) (by omega)) (fun e Wz25 h => ?_)
  obtain ⟨rfl, bz26⟩ := h
  replace hB := below_after hB bz26
  replace hz5 := hz5.after bz26
  replace hz11 := hz11.after bz26
  replace hz18 := hz18.after bz26
  rw [HF.out]
  clear bz26
  refine ⟨_, rfl, ?_⟩
  refine hK' _ _ ?_
  clear hK' K'
  go_frame
  refine ls_ex (some 71) (.pointer (some ⟨w.heap.size, 0, none⟩)) rfl rfl (exec_fieldAddr 53 _ 0 rfl _ (by kernel_rfl)) ?_
  go_frame
  refine ls_op rfl (fun K' hK' => ?_)
  refine wp_store_u8s 51 _ _ rfl rfl w.heap.size (0) rfl (F) rfl _ _ hz5 9 (by kernel_rfl) HFb.out.len (by rw [hq.len]; omega) (fun Wz31 pz32 => ?_)
  replace hB := pz32.below hB (by omega)
  replace hz11 := pz32.other hz11 (by omega)
  replace hz18 := pz32.other hz18 (by omega)
  replace hz5 : At Wz31 w.heap.size (.cells (u8s (one)) 53 (0, 0)) := by have h9 := pz32.at_; rwa [HW.out] at h9
  refine hK' _ _ ?_
  clear hK' K' pz32
  refine wpList_nil ?_
  go_upto_region 9 with (fail)
  refine wp_region_lit ?_
  refine ls_ex (some 72) (.agg (u8s (one))) rfl rfl (exec_load_all 53 _ rfl w.heap.size rfl _ _ _ hz5 Try.underlying53 rfl 27 (by kernel_rfl) ((u8s_size _).trans HOb.out.len)) ?_
  go_frame
  refine ls_op rfl (fun K' hK' => ?_)
  refine wp_store_bytes 53 _ _ rfl rfl Wz8.heap.size rfl (one) rfl _ _ hz18 27 (by kernel_rfl) HOb.out.len (by simp) (fun Wz34 pz35 => ?_)
  replace hB := pz35.below hB (by omega)
  replace hz5 := pz35.other hz5 (by omega)
  replace hz11 := pz35.other hz11 (by omega)
  replace hz18 : At Wz34 Wz8.heap.size (.cells (u8s (one)) 53 (0, 0)) := pz35.at_
  refine hK' _ _ ?_
  clear hK' K' pz35
  refine ls_ex (some 7) (.bool true) rfl rfl (exec_assign _ rfl (.bool true) rfl) ?_
  go_frame
  refine wpList_nil ?_
  go_wp2_with fail
  refine bodyPost_ret (results_at2 rfl _ _ Wz8.heap.size _ _ _ rfl _ rfl hz18 Try.underlying53 rfl 27 (by kernel_rfl) ((u8s_size _).trans HOb.out.len)) rfl ?_
  exact ⟨by rw [HE.out]; rfl, hB⟩
set_option maxHeartbeats 6400000 in
theorem join_5 (p : Int) (q r : List Nat) (w : World) (hpp : primeB p = true) (gq : GR p q) (gr : GR p r) (t : Int) (htv : timF p (segm q 18 9) (segm r 18 9) = t) (ha : segm q 0 9 ≠ segm r 0 9) (hb : segm q 9 9 = segm r 9 9) (hT : t = 0) :
    Calls Try.prog 86 #[.int .i64 p, .agg (u8s q), .agg (u8s r)] w (fun e w' => e = .returned (unV (joF p q r)) ∧ Below w.heap.size w w') := by
  have hB := Below.refl w.heap.size w
  have hp : 2 ≤ p ∧ p ≤ 5 := prime_le5 hpp
  have hq := gq.b
  have hr := gr.b
  have htb := timF_in hpp (segm q 18 9) (segm r 18 9)
  rw [htv] at htb
  have HTv := Lib.hid htv
  have HA : Hid ((segm q 0 9 == segm r 0 9) = false) := Lib.hid (by simp [ha])
  have HB : Hid ((segm q 9 9 == segm r 9 9) = true) := Lib.hid (by simp [hb])
  have HT : Hid ((t != 0) = false) := Lib.hid (by simp [hT])
  have HE : Hid (joF p q r = none) := Lib.hid (by unfold joF opF; rw [htv]; simp [ha, hb, hT])
  clear ha hb htv hT
  go_enter Try.func86, Try.ntmps86
  go_upto_region 0 with (fail)
  refine wp_region_lit ?_
  refine ls_op rfl (fun K' hK' => ?_)
  have lz1 := hB.size
  refine wp_new (some 4) rfl (exec_box 53 _ rfl (u8s (q)) rfl) (fun Wz2 nnz3 => ?_)
  have bz4 := nnz3.below (Below.refl _ _) (Nat.le_refl _)
  replace hB := below_after hB bz4
  have hz5 : At Wz2 w.heap.size (.cells (u8s (q)) 53 (0, 0)) := nnz3.at_
  refine hK' _ _ ?_
  clear hK' K' nnz3 bz4
  go_frame
  refine ls_op rfl (fun K' hK' => ?_)
  have lz6 := hB.size
  have lz7 := hz5.lt
  refine wp_new (some 5) rfl (exec_box 53 _ rfl (u8s (r)) rfl) (fun Wz8 nnz9 => ?_)
  have bz10 := nnz9.below (Below.refl _ _) (Nat.le_refl _)
  replace hB := below_after hB bz10
  replace hz5 := hz5.after bz10
  have hz11 : At Wz8 Wz2.heap.size (.cells (u8s (r)) 53 (0, 0)) := nnz9.at_
  refine hK' _ _ ?_
  clear hK' K' nnz9 bz10
  go_frame
  refine ls_op rfl (fun K' hK' => ?_)
  have lz12 := hB.size
  have lz13 := hz5.lt
  have lz14 := hz11.lt
  refine wp_new (some 6) rfl (alRa_impl_Product rfl) (fun Wz15 nnz16 => ?_)
  have bz17 := nnz16.below (Below.refl _ _) (Nat.le_refl _)
  replace hB := below_after hB bz17
  replace hz5 := hz5.after bz17
  replace hz11 := hz11.after bz17
  have hz18 : At Wz15 Wz8.heap.size (.cells (u8s (List.replicate 27 0)) 53 (0, 0)) := nnz16.at_
  refine hK' _ _ ?_
  clear hK' K' nnz16 bz17
  go_frame
  refine ls_ex (some 7) (.bool false) rfl rfl (exec_assign _ rfl (.bool false) rfl) ?_
  go_frame
  refine wpList_nil ?_
  go_upto_region 1 with (fail)
  refine wp_region_lit ?_
  refine ls_ex (some 9) (.int .i64 p) rfl rfl (exec_move _ rfl (.int .i64 p) rfl) ?_
  go_frame
  refine ls_ex (some 10) (.pointer (some ⟨w.heap.size, 18, none⟩)) rfl rfl (exec_fieldAddr 53 _ 2 rfl _ (by kernel_rfl)) ?_
  go_frame
  refine ls_ex (some 11) (.agg (u8s (segm q 18 9))) rfl rfl (exec_load_seg 51 _ rfl w.heap.size (18) rfl _ (q) _ 9 hz5 Try.underlying51 rfl (by kernel_rfl) (by rw [hq.len]; omega) (segm q 18 9) rfl) ?_
  go_frame
  refine ls_ex (some 12) (.pointer (some ⟨Wz2.heap.size, 18, none⟩)) rfl rfl (exec_fieldAddr 53 _ 2 rfl _ (by kernel_rfl)) ?_
  go_frame
  refine ls_ex (some 13) (.agg (u8s (segm r 18 9))) rfl rfl (exec_load_seg 51 _ rfl Wz2.heap.size (18) rfl _ (r) _ 9 hz11 Try.underlying51 rfl (by kernel_rfl) (by rw [hr.len]; omega) (segm r 18 9) rfl) ?_
  go_frame
  refine ls_op rfl (fun K' hK' => ?_)
  have lz21 := hB.size
  have lz22 := hz5.lt
  have lz23 := hz11.lt
  have lz24 := hz18.lt
  refine wp_call3 (some 14) rfl 108 _ _ _ _ rfl (fun args w => by kernel_rfl) _ _ _ rfl rfl rfl _ (l03Times_c p (segm q 18 9) (segm r 18 9) (segm_bytes hq (by omega)) (segm_bytes hr (by omega)) _ hpp gq.f2 gr.f2 (nz_parts gq.z).2.2 (nz_parts gr.z).2.2) (fun e Wz19 h => ?_)
  obtain ⟨rfl, bz20⟩ := h
  replace hB := below_after hB bz20
  replace hz5 := hz5.after bz20
  replace hz11 := hz11.after bz20
  replace hz18 := hz18.after bz20
  rw [HTv.out]
  clear bz20
  refine ⟨_, rfl, ?_⟩
  refine hK' _ _ ?_
  clear hK' K'
  go_frame
  refine ls_ex (some 8) (.int .i64 t) rfl rfl (exec_assign _ rfl (.int .i64 t) rfl) ?_
  go_frame
  refine wpList_nil ?_
  go_upto_region 3 with (fail)
  refine wp_region_lit ?_
  refine ls_ex (some 17) (.pointer (some ⟨w.heap.size, 0, none⟩)) rfl rfl (exec_fieldAddr 53 _ 0 rfl _ (by kernel_rfl)) ?_
  go_frame
  refine ls_ex (some 18) (.agg (u8s (segm q 0 9))) rfl rfl (exec_load_seg 51 _ rfl w.heap.size (0) rfl _ (q) _ 9 hz5 Try.underlying51 rfl (by kernel_rfl) (by rw [hq.len]; omega) (segm q 0 9) rfl) ?_
  go_frame
  refine ls_ex (some 19) (.pointer (some ⟨Wz2.heap.size, 0, none⟩)) rfl rfl (exec_fieldAddr 53 _ 0 rfl _ (by kernel_rfl)) ?_
  go_frame
  refine ls_ex (some 20) (.agg (u8s (segm r 0 9))) rfl rfl (exec_load_seg 51 _ rfl Wz2.heap.size (0) rfl _ (r) _ 9 hz11 Try.underlying51 rfl (by kernel_rfl) (by rw [hr.len]; omega) (segm r 0 9) rfl) ?_
  go_frame
  refine ls_ex (some 21) (.bool false) rfl rfl (exec_eql_u8s_b 51 _ _ _ _ rfl 9 Try.underlying51 Try.underlying5 (by kernel_rfl) (by kernel_rfl) (segm q 0 9) (segm r 0 9) rfl rfl (segm_len (by rw [hq.len]; omega)) (segm_len (by rw [hr.len]; omega)) false HA.out) ?_
  go_frame
  refine ls_ex (some 22) (.bool false) rfl rfl (exec_move _ rfl (.bool false) rfl) ?_
  go_frame
  refine ls_skip_g (some 23) rfl rfl ?_
  go_frame
  refine ls_skip_g (some 24) rfl rfl ?_
  go_frame
  refine ls_skip_g (some 25) rfl rfl ?_
  go_frame
  refine ls_skip_g (some 26) rfl rfl ?_
  go_frame
  refine ls_skip_g (some 27) rfl rfl ?_
  go_frame
  refine ls_ex (some 28) (.bool false) rfl rfl (exec_pick _ _ _ rfl false rfl (.bool false) rfl) ?_
  go_frame
  refine ls_ex (some 16) (.bool false) rfl rfl (exec_assign _ rfl (.bool false) rfl) ?_
  go_frame
  refine wpList_nil ?_
  go_upto_region 5 with (fail)
  refine wp_region_lit ?_
  refine ls_ex (some 37) (.pointer (some ⟨w.heap.size, 0, none⟩)) rfl rfl (exec_fieldAddr 53 _ 0 rfl _ (by kernel_rfl)) ?_
  go_frame
  refine ls_ex (some 38) (.agg (u8s (segm q 0 9))) rfl rfl (exec_load_seg 51 _ rfl w.heap.size (0) rfl _ (q) _ 9 hz5 Try.underlying51 rfl (by kernel_rfl) (by rw [hq.len]; omega) (segm q 0 9) rfl) ?_
  go_frame
  refine ls_ex (some 39) (.pointer (some ⟨Wz2.heap.size, 0, none⟩)) rfl rfl (exec_fieldAddr 53 _ 0 rfl _ (by kernel_rfl)) ?_
  go_frame
  refine ls_ex (some 40) (.agg (u8s (segm r 0 9))) rfl rfl (exec_load_seg 51 _ rfl Wz2.heap.size (0) rfl _ (r) _ 9 hz11 Try.underlying51 rfl (by kernel_rfl) (by rw [hr.len]; omega) (segm r 0 9) rfl) ?_
  go_frame
  refine ls_ex (some 41) (.bool false) rfl rfl (exec_eql_u8s_b 51 _ _ _ _ rfl 9 Try.underlying51 Try.underlying5 (by kernel_rfl) (by kernel_rfl) (segm q 0 9) (segm r 0 9) rfl rfl (segm_len (by rw [hq.len]; omega)) (segm_len (by rw [hr.len]; omega)) false HA.out) ?_
  go_frame
  refine ls_ex (some 42) (.bool false) rfl rfl (exec_move _ rfl (.bool false) rfl) ?_
  go_frame
  refine ls_skip_g (some 43) rfl rfl ?_
  go_frame
  refine ls_skip_g (some 44) rfl rfl ?_
  go_frame
  refine ls_ex (some 45) (.bool false) rfl rfl (exec_pick _ _ _ rfl false rfl (.bool false) rfl) ?_
  go_frame
  refine ls_ex (some 36) (.bool false) rfl rfl (exec_assign _ rfl (.bool false) rfl) ?_
  go_frame
  refine wpList_nil ?_
  go_upto_region 7 with (fail)
  refine wp_region_lit ?_
  refine ls_ex (some 55) (.pointer (some ⟨w.heap.size, 9, none⟩)) rfl rfl (exec_fieldAddr 53 _ 1 rfl _ (by kernel_rfl)) ?_
  go_frame
  refine ls_ex (some 56) (.agg (u8s (segm q 9 9))) rfl rfl (exec_load_seg 51 _ rfl w.heap.size (9) rfl _ (q) _ 9 hz5 Try.underlying51 rfl (by kernel_rfl) (by rw [hq.len]; omega) (segm q 9 9) rfl) ?_
  go_frame
  refine ls_ex (some 57) (.pointer (some ⟨Wz2.heap.size, 9, none⟩)) rfl rfl (exec_fieldAddr 53 _ 1 rfl _ (by kernel_rfl)) ?_
  go_frame
  refine ls_ex (some 58) (.agg (u8s (segm r 9 9))) rfl rfl (exec_load_seg 51 _ rfl Wz2.heap.size (9) rfl _ (r) _ 9 hz11 Try.underlying51 rfl (by kernel_rfl) (by rw [hr.len]; omega) (segm r 9 9) rfl) ?_
  go_frame
  refine ls_ex (some 59) (.bool true) rfl rfl (exec_eql_u8s_b 51 _ _ _ _ rfl 9 Try.underlying51 Try.underlying5 (by kernel_rfl) (by kernel_rfl) (segm q 9 9) (segm r 9 9) rfl rfl (segm_len (by rw [hq.len]; omega)) (segm_len (by rw [hr.len]; omega)) true HB.out) ?_
  go_frame
  refine ls_ex (some 60) (.bool true) rfl rfl (exec_move _ rfl (.bool true) rfl) ?_
  go_frame
  refine ls_ex_g (some 61) (.int .i64 t) rfl rfl (exec_move _ rfl (.int .i64 t) rfl) ?_
  go_frame
  refine ls_ex_g (some 62) (.bool false) rfl rfl (exec_neq _ _ _ _ rfl t 0 rfl rfl false HT.out) ?_
  go_frame
  refine ls_ex (some 63) (.bool false) rfl rfl (exec_pick _ _ _ rfl true rfl (.bool false) rfl) ?_
  go_frame
  refine ls_ex (some 54) (.bool false) rfl rfl (exec_assign _ rfl (.bool false) rfl) ?_
  go_frame
  refine wpList_nil ?_
  go_upto_region 2 with (fail)
  refine wp_region_lit ?_
  refine ls_ex (some 15) (.agg (u8s (List.replicate 27 0))) rfl rfl (exec_build_nil 53 rfl _ (by kernel_rfl)) ?_
  go_frame
  refine ls_op rfl (fun K' hK' => ?_)
  refine wp_store_bytes 53 _ _ rfl rfl Wz8.heap.size rfl (List.replicate 27 0) rfl _ _ hz18 27 (by kernel_rfl) (by simp) (by simp) (fun Wz25 pz26 => ?_)
  replace hB := pz26.below hB (by omega)
  replace hz5 := pz26.other hz5 (by omega)
  replace hz11 := pz26.other hz11 (by omega)
  replace hz18 : At Wz25 Wz8.heap.size (.cells (u8s (List.replicate 27 0)) 53 (0, 0)) := pz26.at_
  refine hK' _ _ ?_
  clear hK' K' pz26
  refine ls_ex (some 7) (.bool false) rfl rfl (exec_assign _ rfl (.bool false) rfl) ?_
  go_frame
  refine wpList_nil ?_
  go_wp2_with fail
  refine bodyPost_ret (results_at2 rfl _ _ Wz8.heap.size _ _ _ rfl _ rfl hz18 Try.underlying53 rfl 27 (by kernel_rfl) ((u8s_size _).trans (by simp))) rfl ?_
  exact ⟨by rw [HE.out]; rfl, hB⟩
set_option maxHeartbeats 6400000 in
theorem join_6 (p : Int) (q r : List Nat) (w : World) (hpp : primeB p = true) (gq : GR p q) (gr : GR p r) (t : Int) (htv : timF p (segm q 18 9) (segm r 18 9) = t) (ha : segm q 0 9 ≠ segm r 0 9) (hb : segm q 9 9 ≠ segm r 9 9) :
    Calls Try.prog 86 #[.int .i64 p, .agg (u8s q), .agg (u8s r)] w (fun e w' => e = .returned (unV (joF p q r)) ∧ Below w.heap.size w w') := by
  have hB := Below.refl w.heap.size w
  have hp : 2 ≤ p ∧ p ≤ 5 := prime_le5 hpp
  have hq := gq.b
  have hr := gr.b
  have htb := timF_in hpp (segm q 18 9) (segm r 18 9)
  rw [htv] at htb
  have HTv := Lib.hid htv
  have HA : Hid ((segm q 0 9 == segm r 0 9) = false) := Lib.hid (by simp [ha])
  have HB : Hid ((segm q 9 9 == segm r 9 9) = false) := Lib.hid (by simp [hb])
  have HE : Hid (joF p q r = none) := Lib.hid (by unfold joF opF; rw [htv]; simp [ha, hb])
  clear ha hb htv
  go_enter Try.func86, Try.ntmps86
  go_upto_region 0 with (fail)
  refine wp_region_lit ?_
  refine ls_op rfl (fun K' hK' => ?_)
  have lz1 := hB.size
  refine wp_new (some 4) rfl (exec_box 53 _ rfl (u8s (q)) rfl) (fun Wz2 nnz3 => ?_)
  have bz4 := nnz3.below (Below.refl _ _) (Nat.le_refl _)
  replace hB := below_after hB bz4
  have hz5 : At Wz2 w.heap.size (.cells (u8s (q)) 53 (0, 0)) := nnz3.at_
  refine hK' _ _ ?_
  clear hK' K' nnz3 bz4
  go_frame
  refine ls_op rfl (fun K' hK' => ?_)
  have lz6 := hB.size
  have lz7 := hz5.lt
  refine wp_new (some 5) rfl (exec_box 53 _ rfl (u8s (r)) rfl) (fun Wz8 nnz9 => ?_)
  have bz10 := nnz9.below (Below.refl _ _) (Nat.le_refl _)
  replace hB := below_after hB bz10
  replace hz5 := hz5.after bz10
  have hz11 : At Wz8 Wz2.heap.size (.cells (u8s (r)) 53 (0, 0)) := nnz9.at_
  refine hK' _ _ ?_
  clear hK' K' nnz9 bz10
  go_frame
  refine ls_op rfl (fun K' hK' => ?_)
  have lz12 := hB.size
  have lz13 := hz5.lt
  have lz14 := hz11.lt
  refine wp_new (some 6) rfl (alRa_impl_Product rfl) (fun Wz15 nnz16 => ?_)
  have bz17 := nnz16.below (Below.refl _ _) (Nat.le_refl _)
  replace hB := below_after hB bz17
  replace hz5 := hz5.after bz17
  replace hz11 := hz11.after bz17
  have hz18 : At Wz15 Wz8.heap.size (.cells (u8s (List.replicate 27 0)) 53 (0, 0)) := nnz16.at_
  refine hK' _ _ ?_
  clear hK' K' nnz16 bz17
  go_frame
  refine ls_ex (some 7) (.bool false) rfl rfl (exec_assign _ rfl (.bool false) rfl) ?_
  go_frame
  refine wpList_nil ?_
  go_upto_region 1 with (fail)
  refine wp_region_lit ?_
  refine ls_ex (some 9) (.int .i64 p) rfl rfl (exec_move _ rfl (.int .i64 p) rfl) ?_
  go_frame
  refine ls_ex (some 10) (.pointer (some ⟨w.heap.size, 18, none⟩)) rfl rfl (exec_fieldAddr 53 _ 2 rfl _ (by kernel_rfl)) ?_
  go_frame
  refine ls_ex (some 11) (.agg (u8s (segm q 18 9))) rfl rfl (exec_load_seg 51 _ rfl w.heap.size (18) rfl _ (q) _ 9 hz5 Try.underlying51 rfl (by kernel_rfl) (by rw [hq.len]; omega) (segm q 18 9) rfl) ?_
  go_frame
  refine ls_ex (some 12) (.pointer (some ⟨Wz2.heap.size, 18, none⟩)) rfl rfl (exec_fieldAddr 53 _ 2 rfl _ (by kernel_rfl)) ?_
  go_frame
  refine ls_ex (some 13) (.agg (u8s (segm r 18 9))) rfl rfl (exec_load_seg 51 _ rfl Wz2.heap.size (18) rfl _ (r) _ 9 hz11 Try.underlying51 rfl (by kernel_rfl) (by rw [hr.len]; omega) (segm r 18 9) rfl) ?_
  go_frame
  refine ls_op rfl (fun K' hK' => ?_)
  have lz21 := hB.size
  have lz22 := hz5.lt
  have lz23 := hz11.lt
  have lz24 := hz18.lt
  refine wp_call3 (some 14) rfl 108 _ _ _ _ rfl (fun args w => by kernel_rfl) _ _ _ rfl rfl rfl _ (l03Times_c p (segm q 18 9) (segm r 18 9) (segm_bytes hq (by omega)) (segm_bytes hr (by omega)) _ hpp gq.f2 gr.f2 (nz_parts gq.z).2.2 (nz_parts gr.z).2.2) (fun e Wz19 h => ?_)
  obtain ⟨rfl, bz20⟩ := h
  replace hB := below_after hB bz20
  replace hz5 := hz5.after bz20
  replace hz11 := hz11.after bz20
  replace hz18 := hz18.after bz20
  rw [HTv.out]
  clear bz20
  refine ⟨_, rfl, ?_⟩
  refine hK' _ _ ?_
  clear hK' K'
  go_frame
  refine ls_ex (some 8) (.int .i64 t) rfl rfl (exec_assign _ rfl (.int .i64 t) rfl) ?_
  go_frame
  refine wpList_nil ?_
  go_upto_region 3 with (fail)
  refine wp_region_lit ?_
  refine ls_ex (some 17) (.pointer (some ⟨w.heap.size, 0, none⟩)) rfl rfl (exec_fieldAddr 53 _ 0 rfl _ (by kernel_rfl)) ?_
  go_frame
  refine ls_ex (some 18) (.agg (u8s (segm q 0 9))) rfl rfl (exec_load_seg 51 _ rfl w.heap.size (0) rfl _ (q) _ 9 hz5 Try.underlying51 rfl (by kernel_rfl) (by rw [hq.len]; omega) (segm q 0 9) rfl) ?_
  go_frame
  refine ls_ex (some 19) (.pointer (some ⟨Wz2.heap.size, 0, none⟩)) rfl rfl (exec_fieldAddr 53 _ 0 rfl _ (by kernel_rfl)) ?_
  go_frame
  refine ls_ex (some 20) (.agg (u8s (segm r 0 9))) rfl rfl (exec_load_seg 51 _ rfl Wz2.heap.size (0) rfl _ (r) _ 9 hz11 Try.underlying51 rfl (by kernel_rfl) (by rw [hr.len]; omega) (segm r 0 9) rfl) ?_
  go_frame
  refine ls_ex (some 21) (.bool false) rfl rfl (exec_eql_u8s_b 51 _ _ _ _ rfl 9 Try.underlying51 Try.underlying5 (by kernel_rfl) (by kernel_rfl) (segm q 0 9) (segm r 0 9) rfl rfl (segm_len (by rw [hq.len]; omega)) (segm_len (by rw [hr.len]; omega)) false HA.out) ?_
  go_frame
  refine ls_ex (some 22) (.bool false) rfl rfl (exec_move _ rfl (.bool false) rfl) ?_
  go_frame
  refine ls_skip_g (some 23) rfl rfl ?_
  go_frame
  refine ls_skip_g (some 24) rfl rfl ?_
  go_frame
  refine ls_skip_g (some 25) rfl rfl ?_
  go_frame
  refine ls_skip_g (some 26) rfl rfl ?_
  go_frame
  refine ls_skip_g (some 27) rfl rfl ?_
  go_frame
  refine ls_ex (some 28) (.bool false) rfl rfl (exec_pick _ _ _ rfl false rfl (.bool false) rfl) ?_
  go_frame
  refine ls_ex (some 16) (.bool false) rfl rfl (exec_assign _ rfl (.bool false) rfl) ?_
  go_frame
  refine wpList_nil ?_
  go_upto_region 5 with (fail)
  refine wp_region_lit ?_
  refine ls_ex (some 37) (.pointer (some ⟨w.heap.size, 0, none⟩)) rfl rfl (exec_fieldAddr 53 _ 0 rfl _ (by kernel_rfl)) ?_
  go_frame
  refine ls_ex (some 38) (.agg (u8s (segm q 0 9))) rfl rfl (exec_load_seg 51 _ rfl w.heap.size (0) rfl _ (q) _ 9 hz5 Try.underlying51 rfl (by kernel_rfl) (by rw [hq.len]; omega) (segm q 0 9) rfl) ?_
  go_frame
  refine ls_ex (some 39) (.pointer (some ⟨Wz2.heap.size, 0, none⟩)) rfl rfl (exec_fieldAddr 53 _ 0 rfl _ (by kernel_rfl)) ?_
  go_frame
  refine ls_ex (some 40) (.agg (u8s (segm r 0 9))) rfl rfl (exec_load_seg 51 _ rfl Wz2.heap.size (0) rfl _ (r) _ 9 hz11 Try.underlying51 rfl (by kernel_rfl) (by rw [hr.len]; omega) (segm r 0 9) rfl) ?_
  go_frame
  refine ls_ex (some 41) (.bool false) rfl rfl (exec_eql_u8s_b 51 _ _ _ _ rfl 9 Try.underlying51 Try.underlying5 (by kernel_rfl) (by kernel_rfl) (segm q 0 9) (segm r 0 9) rfl rfl (segm_len (by rw [hq.len]; omega)) (segm_len (by rw [hr.len]; omega)) false HA.out) ?_
  go_frame
  refine ls_ex (some 42) (.bool false) rfl rfl (exec_move _ rfl (.bool false) rfl) ?_
  go_frame
  refine ls_skip_g (some 43) rfl rfl ?_
  go_frame
  refine ls_skip_g (some 44) rfl rfl ?_
  go_frame
  refine ls_ex (some 45) (.bool false) rfl rfl (exec_pick _ _ _ rfl false rfl (.bool false) rfl) ?_
  go_frame
  refine ls_ex (some 36) (.bool false) rfl rfl (exec_assign _ rfl (.bool false) rfl) ?_
  go_frame
  refine wpList_nil ?_
  go_upto_region 7 with (fail)
  refine wp_region_lit ?_
  refine ls_ex (some 55) (.pointer (some ⟨w.heap.size, 9, none⟩)) rfl rfl (exec_fieldAddr 53 _ 1 rfl _ (by kernel_rfl)) ?_
  go_frame
  refine ls_ex (some 56) (.agg (u8s (segm q 9 9))) rfl rfl (exec_load_seg 51 _ rfl w.heap.size (9) rfl _ (q) _ 9 hz5 Try.underlying51 rfl (by kernel_rfl) (by rw [hq.len]; omega) (segm q 9 9) rfl) ?_
  go_frame
  refine ls_ex (some 57) (.pointer (some ⟨Wz2.heap.size, 9, none⟩)) rfl rfl (exec_fieldAddr 53 _ 1 rfl _ (by kernel_rfl)) ?_
  go_frame
  refine ls_ex (some 58) (.agg (u8s (segm r 9 9))) rfl rfl (exec_load_seg 51 _ rfl Wz2.heap.size (9) rfl _ (r) _ 9 hz11 Try.underlying51 rfl (by kernel_rfl) (by rw [hr.len]; omega) (segm r 9 9) rfl) ?_
  go_frame
  refine ls_ex (some 59) (.bool false) rfl rfl (exec_eql_u8s_b 51 _ _ _ _ rfl 9 Try.underlying51 Try.underlying5 (by kernel_rfl) (by kernel_rfl) (segm q 9 9) (segm r 9 9) rfl rfl (segm_len (by rw [hq.len]; omega)) (segm_len (by rw [hr.len]; omega)) false HB.out) ?_
  go_frame
  refine ls_ex (some 60) (.bool false) rfl rfl (exec_move _ rfl (.bool false) rfl) ?_
  go_frame
  refine ls_skip_g (some 61) rfl rfl ?_
  go_frame
  refine ls_skip_g (some 62) rfl rfl ?_
  go_frame
  refine ls_ex (some 63) (.bool false) rfl rfl (exec_pick _ _ _ rfl false rfl (.bool false) rfl) ?_
  go_frame
  refine ls_ex (some 54) (.bool false) rfl rfl (exec_assign _ rfl (.bool false) rfl) ?_
  go_frame
  refine wpList_nil ?_
  go_upto_region 2 with (fail)
  refine wp_region_lit ?_
  refine ls_ex (some 15) (.agg (u8s (List.replicate 27 0))) rfl rfl (exec_build_nil 53 rfl _ (by kernel_rfl)) ?_
  go_frame
  refine ls_op rfl (fun K' hK' => ?_)
  refine wp_store_bytes 53 _ _ rfl rfl Wz8.heap.size rfl (List.replicate 27 0) rfl _ _ hz18 27 (by kernel_rfl) (by simp) (by simp) (fun Wz25 pz26 => ?_)
  replace hB := pz26.below hB (by omega)
  replace hz5 := pz26.other hz5 (by omega)
  replace hz11 := pz26.other hz11 (by omega)
  replace hz18 : At Wz25 Wz8.heap.size (.cells (u8s (List.replicate 27 0)) 53 (0, 0)) := pz26.at_
  refine hK' _ _ ?_
  clear hK' K' pz26
  refine ls_ex (some 7) (.bool false) rfl rfl (exec_assign _ rfl (.bool false) rfl) ?_
  go_frame
  refine wpList_nil ?_
  go_wp2_with fail
  refine bodyPost_ret (results_at2 rfl _ _ Wz8.heap.size _ _ _ rfl _ rfl hz18 Try.underlying53 rfl 27 (by kernel_rfl) ((u8s_size _).trans (by simp))) rfl ?_
  exact ⟨by rw [HE.out]; rfl, hB⟩
theorem l03Join_c (p : Int) (q r : List Nat) (w : World) (hpp : primeB p = true) (gq : GR p q) (gr : GR p r) : Calls Try.prog 86 #[.int .i64 p, .agg (u8s q), .agg (u8s r)] w (fun e w' => e = .returned (unV (joF p q r)) ∧ Below w.heap.size w w') := by
  obtain ⟨t, ht⟩ : ∃ z9, timF p (segm q 18 9) (segm r 18 9) = z9 := ⟨_, rfl⟩
  by_cases ha : segm q 0 9 = segm r 0 9
  · by_cases hb : segm q 9 9 = segm r 9 9
    · exact join_1 p q r w hpp gq gr t ht ha hb
    · by_cases hT : t = 0
      · exact join_3 p q r w hpp gq gr t ht ha hb hT
      · exact join_2 p q r w hpp gq gr t ht ha hb hT
  · by_cases hb : segm q 9 9 = segm r 9 9
    · by_cases hT : t = 0
      · exact join_5 p q r w hpp gq gr t ht ha hb hT
      · exact join_4 p q r w hpp gq gr t ht ha hb hT
    · exact join_6 p q r w hpp gq gr t ht ha hb
set_option maxHeartbeats 6400000 in
theorem reduced_t (p : Int) (q r : List Nat) (w : World) (hpp : primeB p = true) (gq : GR p q) (gr : GR p r) (t : Int) (htv : timF p (segm q 18 9) (segm r 18 9) = t) (one : List Nat) (hu : joF p q r = some one) :
    Calls Try.prog 30 #[.int .i64 p, .agg (u8s q), .agg (u8s r)] w (fun e w' => e = .returned (unV (reF p q r)) ∧ Below w.heap.size w w') := by
  have hB := Below.refl w.heap.size w
  have hp : 2 ≤ p ∧ p ≤ 5 := prime_le5 hpp
  have hq := gq.b
  have hr := gr.b
  have htb := timF_in hpp (segm q 18 9) (segm r 18 9)
  rw [htv] at htb
  have HTv := Lib.hid htv
  have HU : Hid (opF p t q r = some one) := Lib.hid (by rw [← htv]; exact hu)
  have HHR := Lib.hid (joF_hr hpp gq gr hu)
  have HOb := Lib.hid HHR.out.b
  have HLo := Lib.hid HHR.out.lead
  obtain ⟨N, hN⟩ : ∃ z9, normQ p one = z9 := ⟨_, rfl⟩
  have HNb : Hid (Bytes 27 N) := Lib.hid (by rw [← hN]; exact normQ_bytes _ hpp)
  have HE : Hid (reF p q r = some N) := Lib.hid (by unfold reF; rw [hu, Option.map_some, hN])
  have HN := Lib.hid hN
  clear hN hu htv
  go_enter Try.func30, Try.ntmps30
  go_upto_region 0 with (fail)
  refine wp_region_lit ?_
  refine ls_op rfl (fun K' hK' => ?_)
  have lz1 := hB.size
  refine wp_new (some 4) rfl (exec_box 53 _ rfl (u8s (q)) rfl) (fun Wz2 nnz3 => ?_)
  have bz4 := nnz3.below (Below.refl _ _) (Nat.le_refl _)
  replace hB := below_after hB bz4
  have hz5 : At Wz2 w.heap.size (.cells (u8s (q)) 53 (0, 0)) := nnz3.at_
  refine hK' _ _ ?_
  clear hK' K' nnz3 bz4
  go_frame
  refine ls_op rfl (fun K' hK' => ?_)
  have lz6 := hB.size
  have lz7 := hz5.lt
  refine wp_new (some 5) rfl (exec_box 53 _ rfl (u8s (r)) rfl) (fun Wz8 nnz9 => ?_)
  have bz10 := nnz9.below (Below.refl _ _) (Nat.le_refl _)
  replace hB := below_after hB bz10
  replace hz5 := hz5.after bz10
  have hz11 : At Wz8 Wz2.heap.size (.cells (u8s (r)) 53 (0, 0)) := nnz9.at_
  refine hK' _ _ ?_
  clear hK' K' nnz9 bz10
  go_frame
  refine ls_op rfl (fun K' hK' => ?_)
  have lz12 := hB.size
  have lz13 := hz5.lt
  have lz14 := hz11.lt
  refine wp_new (some 6) rfl (alRa_impl_Product rfl) (fun Wz15 nnz16 => ?_)
  have bz17 := nnz16.below (Below.refl _ _) (Nat.le_refl _)
  replace hB := below_after hB bz17
  replace hz5 := hz5.after bz17
  replace hz11 := hz11.after bz17
  have hz18 : At Wz15 Wz8.heap.size (.cells (u8s (List.replicate 27 0)) 53 (0, 0)) := nnz16.at_
  refine hK' _ _ ?_
  clear hK' K' nnz16 bz17
  go_frame
  refine ls_ex (some 7) (.bool false) rfl rfl (exec_assign _ rfl (.bool false) rfl) ?_
  go_frame
  refine wpList_nil ?_
  go_upto_region 1 with (fail)
  refine wp_region_y (zs := []) (S := fun w' => Below w.heap.size w w' ∧ At w' w.heap.size (.cells (u8s (q)) 53 (0, 0)) ∧ At w' Wz2.heap.size (.cells (u8s (r)) 53 (0, 0))) (S2 := fun w' => True) (by kernel_rfl) ?_
  change wpAnyY _ _ _ _ _ _ _ _ _ _ (World.drew _)
  generalize hwdz19 : World.drew _ = wdz19
  replace hB : Below w.heap.size w wdz19 := by rw [← hwdz19]; exact hB.drew
  replace hz5 : At wdz19 w.heap.size (.cells (u8s (q)) 53 (0, 0)) := by rw [← hwdz19]; exact hz5
  replace hz11 : At wdz19 Wz2.heap.size (.cells (u8s (r)) 53 (0, 0)) := by rw [← hwdz19]; exact hz11
  replace hz18 : At wdz19 Wz8.heap.size (.cells (u8s (List.replicate 27 0)) 53 (0, 0)) := by rw [← hwdz19]; exact hz18
  clear hwdz19
  refine y_yield 0 (some 11) (.int .i64 p) rfl (by kernel_rfl) (by kernel_rfl) (by kernel_rfl) (fun _ _ _ h => h) rfl rfl ⟨hB, hz5, hz11⟩ (fun w' h' => exec_move _ rfl (.int .i64 p) rfl) ?_
  go_frame
  refine y_yield 1 (some 12) (.agg (u8s (q))) rfl (by kernel_rfl) (by kernel_rfl) (by kernel_rfl) (fun _ _ _ h => h) rfl rfl ⟨hB, hz5, hz11⟩ (fun w' h' => exec_load_all 53 _ rfl w.heap.size rfl _ _ _ h'.2.1 Try.underlying53 rfl 27 (by kernel_rfl) ((u8s_size _).trans hq.len)) ?_
  go_frame
  refine y_yield 2 (some 13) (.agg (u8s (r))) rfl (by kernel_rfl) (by kernel_rfl) (by kernel_rfl) (fun _ _ _ h => h) rfl rfl ⟨hB, hz5, hz11⟩ (fun w' h' => exec_load_all 53 _ rfl Wz2.heap.size rfl _ _ _ h'.2.2 Try.underlying53 rfl 27 (by kernel_rfl) ((u8s_size _).trans hr.len)) ?_
  go_frame
  refine y_yield 3 (some 14) (.int .i64 p) rfl (by kernel_rfl) (by kernel_rfl) (by kernel_rfl) (fun _ _ _ h => h) rfl rfl ⟨hB, hz5, hz11⟩ (fun w' h' => exec_move _ rfl (.int .i64 p) rfl) ?_
  go_frame
  refine y_yield 4 (some 15) (.pointer (some ⟨w.heap.size, 18, none⟩)) rfl (by kernel_rfl) (by kernel_rfl) (by kernel_rfl) (fun _ _ _ h => h) rfl rfl ⟨hB, hz5, hz11⟩ (fun w' h' => exec_fieldAddr 53 _ 2 rfl _ (by kernel_rfl)) ?_
  go_frame
  refine y_yield 5 (some 16) (.agg (u8s (segm q 18 9))) rfl (by kernel_rfl) (by kernel_rfl) (by kernel_rfl) (fun _ _ _ h => h) rfl rfl ⟨hB, hz5, hz11⟩ (fun w' h' => exec_load_seg 51 _ rfl w.heap.size (18) rfl _ (q) _ 9 h'.2.1 Try.underlying51 rfl (by kernel_rfl) (by rw [hq.len]; omega) (segm q 18 9) rfl) ?_
  go_frame
  refine y_yield 6 (some 17) (.pointer (some ⟨Wz2.heap.size, 18, none⟩)) rfl (by kernel_rfl) (by kernel_rfl) (by kernel_rfl) (fun _ _ _ h => h) rfl rfl ⟨hB, hz5, hz11⟩ (fun w' h' => exec_fieldAddr 53 _ 2 rfl _ (by kernel_rfl)) ?_
  go_frame
  refine y_yield 7 (some 18) (.agg (u8s (segm r 18 9))) rfl (by kernel_rfl) (by kernel_rfl) (by kernel_rfl) (fun _ _ _ h => h) rfl rfl ⟨hB, hz5, hz11⟩ (fun w' h' => exec_load_seg 51 _ rfl Wz2.heap.size (18) rfl _ (r) _ 9 h'.2.2 Try.underlying51 rfl (by kernel_rfl) (by rw [hr.len]; omega) (segm r 18 9) rfl) ?_
  go_frame
  refine y_two 8 13 (by kernel_rfl) rfl rfl rfl rfl (fun K' hK' => ?_) (fun K' hK' => ?_)
  · have lz22 := hB.size
    have lz23 := hz5.lt
    have lz24 := hz11.lt
    have lz25 := hz18.lt
    refine wp_call3 (some 19) rfl 66 _ _ _ _ rfl (fun args w => by kernel_rfl) _ _ _ rfl rfl rfl _ (multipleOf_c p (segm q 18 9) (segm r 18 9) (segm_bytes hq (by omega)) (segm_bytes hr (by omega)) _ hpp gq.f2 gr.f2 (nz_parts gq.z).2.2 (nz_parts gr.z).2.2) (fun e Wz20 h => ?_)
    obtain ⟨rfl, bz21⟩ := h
    replace hB := below_after hB bz21
    replace hz5 := hz5.after bz21
    replace hz11 := hz11.after bz21
    replace hz18 := hz18.after bz21
    rw [HTv.out]
    clear bz21
    refine ⟨_, rfl, ?_⟩
    refine hK' _ _ ⟨hB, hz5, hz11⟩ (fun _ => trivial) ?_
    clear hK' K'
    go_frame
    refine y_two 9 13 (by kernel_rfl) rfl rfl rfl rfl (fun K' hK' => ?_) (fun K' hK' => ?_)
    · have lz28 := hB.size
      have lz29 := hz5.lt
      have lz30 := hz11.lt
      have lz31 := hz18.lt
      refine wp_call4 (some 20) rfl 65 _ _ _ _ _ rfl (fun args w => by kernel_rfl) _ _ _ _ rfl rfl rfl rfl _ (onePair_c p t q r hq hr _ hp (by omega)) (fun e Wz26 h => ?_)
      obtain ⟨rfl, bz27⟩ := h
      replace hB := below_after hB bz27
      replace hz5 := hz5.after bz27
      replace hz11 := hz11.after bz27
      replace hz18 := hz18.after bz27
      rw [HU.out, unV_some]
      clear bz27
      refine ⟨_, rfl, ?_⟩
      refine hK' _ _ ⟨hB, hz5, hz11⟩ (fun _ => trivial) ?_
      clear hK' K'
      go_frame
      refine y_yield 10 (some 10) (.tuple #[.agg (u8s (one)), .bool true]) rfl (by kernel_rfl) (by kernel_rfl) (by kernel_rfl) (fun _ _ _ h => h) rfl rfl ⟨hB, hz5, hz11⟩ (fun w' h' => exec_move _ rfl (.tuple #[.agg (u8s (one)), .bool true]) rfl) ?_
      go_frame
      refine y_yield 11 (some 21) (.agg (u8s (one))) rfl (by kernel_rfl) (by kernel_rfl) (by kernel_rfl) (fun _ _ _ h => h) rfl rfl ⟨hB, hz5, hz11⟩ (fun w' h' => exec_extract _ 0 rfl #[.agg (u8s (one)), .bool true] (by rfl) _ rfl) ?_
      go_frame
      refine y_yield 12 (some 22) (.bool true) rfl (by kernel_rfl) (by kernel_rfl) (by kernel_rfl) (fun _ _ _ h => h) rfl rfl ⟨hB, hz5, hz11⟩ (fun w' h' => exec_extract _ 1 rfl #[.agg (u8s (one)), .bool true] (by rfl) _ rfl) ?_
      go_frame
      refine y_oper 13 (by kernel_rfl) rfl rfl (fun K' hK' => ?_)
      have lz32 := hB.size
      have lz33 := hz5.lt
      have lz34 := hz11.lt
      have lz35 := hz18.lt
      refine wp_new (some 8) rfl (alRa_impl_Product rfl) (fun Wz36 nnz37 => ?_)
      have bz38 := nnz37.below (Below.refl _ _) (Nat.le_refl _)
      replace hB := below_after hB bz38
      replace hz5 := hz5.after bz38
      replace hz11 := hz11.after bz38
      replace hz18 := hz18.after bz38
      have hz39 : At Wz36 Wz26.heap.size (.cells (u8s (List.replicate 27 0)) 53 (0, 0)) := nnz37.at_
      refine hK' _ _ ⟨hB, hz5, hz11⟩ (fun _ => trivial) ?_
      clear hK' K' nnz37 bz38
      go_frame
      refine y_oper 14 (by kernel_rfl) rfl rfl (fun K' hK' => ?_)
      refine wp_store_bytes 53 _ _ rfl rfl Wz26.heap.size rfl (one) rfl _ _ hz39 27 (by kernel_rfl) HOb.out.len (by simp) (fun Wz40 pz41 => ?_)
      replace hB := pz41.below hB (by omega)
      replace hz5 := pz41.other hz5 (by omega)
      replace hz11 := pz41.other hz11 (by omega)
      replace hz18 := pz41.other hz18 (by omega)
      replace hz39 : At Wz40 Wz26.heap.size (.cells (u8s (one)) 53 (0, 0)) := pz41.at_
      refine hK' _ _ ⟨hB, hz5, hz11⟩ (fun _ => trivial) ?_
      clear hK' K' pz41
      refine y_oper 15 (by kernel_rfl) rfl rfl (fun K' hK' => ?_)
      refine wp_exec (some 9) rfl (.bool true) (exec_assign _ rfl (.bool true) rfl) ?_
      refine hK' _ _ ⟨hB, hz5, hz11⟩ (fun _ => trivial) ?_
      clear hK' K'
      go_frame
      refine y_done (by kernel_rfl) ?_ _
      go_upto_region 2 with (fail)
      refine wp_region_lit ?_
      refine ls_ex (some 23) (.bool true) rfl rfl (exec_move _ rfl (.bool true) rfl) ?_
      go_frame
      refine ls_ex (some 24) (.bool false) rfl rfl (exec_not _ _ rfl true rfl) ?_
      go_frame
      refine wpList_nil ?_
      go_upto_region 4 with (fail)
      refine wp_region_lit ?_
      refine ls_ex (some 26) (.int .i64 p) rfl rfl (exec_move _ rfl (.int .i64 p) rfl) ?_
      go_frame
      refine ls_ex (some 27) (.agg (u8s (one))) rfl rfl (exec_load_all 53 _ rfl Wz26.heap.size rfl _ _ _ hz39 Try.underlying53 rfl 27 (by kernel_rfl) ((u8s_size _).trans HOb.out.len)) ?_
      go_frame
      refine ls_op rfl (fun K' hK' => ?_)
      have lz44 := hB.size
      have lz45 := hz5.lt
      have lz46 := hz11.lt
      have lz47 := hz18.lt
      have lz48 := hz39.lt
      refine wp_call2 (some 28) rfl 64 _ _ _ rfl (fun args w => by kernel_rfl) _ _ rfl rfl _ (normalProduct_c p one HOb.out _ hpp HLo.out) (fun e Wz42 h => ?_)
      obtain ⟨rfl, bz43⟩ := h
      replace hB := below_after hB bz43
      replace hz5 := hz5.after bz43
      replace hz11 := hz11.after bz43
      replace hz18 := hz18.after bz43
      replace hz39 := hz39.after bz43
      rw [HN.out]
      clear bz43
      refine ⟨_, rfl, ?_⟩
      refine hK' _ _ ?_
      clear hK' K'
      go_frame
      refine ls_op rfl (fun K' hK' => ?_)
      refine wp_store_bytes 53 _ _ rfl rfl Wz8.heap.size rfl (N) rfl _ _ hz18 27 (by kernel_rfl) HNb.out.len (by simp) (fun Wz49 pz50 => ?_)
      replace hB := pz50.below hB (by omega)
      replace hz5 := pz50.other hz5 (by omega)
      replace hz11 := pz50.other hz11 (by omega)
      replace hz39 := pz50.other hz39 (by omega)
      replace hz18 : At Wz49 Wz8.heap.size (.cells (u8s (N)) 53 (0, 0)) := pz50.at_
      refine hK' _ _ ?_
      clear hK' K' pz50
      refine ls_ex (some 7) (.bool true) rfl rfl (exec_assign _ rfl (.bool true) rfl) ?_
      go_frame
      refine wpList_nil ?_
      go_wp2_with fail
      refine bodyPost_ret (results_at2 rfl _ _ Wz8.heap.size _ _ _ rfl _ rfl hz18 Try.underlying53 rfl 27 (by kernel_rfl) ((u8s_size _).trans HNb.out.len)) rfl ?_
      exact ⟨by rw [HE.out]; rfl, hB⟩
    · have lz51 := hB.size
      have lz52 := hz5.lt
      have lz53 := hz11.lt
      have lz54 := hz18.lt
      refine wp_new (some 8) rfl (alRa_impl_Product rfl) (fun Wz55 nnz56 => ?_)
      have bz57 := nnz56.below (Below.refl _ _) (Nat.le_refl _)
      replace hB := below_after hB bz57
      replace hz5 := hz5.after bz57
      replace hz11 := hz11.after bz57
      replace hz18 := hz18.after bz57
      have hz58 : At Wz55 Wz20.heap.size (.cells (u8s (List.replicate 27 0)) 53 (0, 0)) := nnz56.at_
      refine hK' _ _ ⟨hB, hz5, hz11⟩ (fun _ => trivial) ?_
      clear hK' K' nnz56 bz57
      go_frame
      refine y_oper 9 (by kernel_rfl) rfl rfl (fun K' hK' => ?_)
      have lz61 := hB.size
      have lz62 := hz5.lt
      have lz63 := hz11.lt
      have lz64 := hz18.lt
      have lz65 := hz58.lt
      refine wp_call4 (some 20) rfl 65 _ _ _ _ _ rfl (fun args w => by kernel_rfl) _ _ _ _ rfl rfl rfl rfl _ (onePair_c p t q r hq hr _ hp (by omega)) (fun e Wz59 h => ?_)
      obtain ⟨rfl, bz60⟩ := h
      replace hB := below_after hB bz60
      replace hz5 := hz5.after bz60
      replace hz11 := hz11.after bz60
      replace hz18 := hz18.after bz60
      replace hz58 := hz58.after bz60
      rw [HU.out, unV_some]
      clear bz60
      refine ⟨_, rfl, ?_⟩
      refine hK' _ _ ⟨hB, hz5, hz11⟩ (fun _ => trivial) ?_
      clear hK' K'
      go_frame
      refine y_yield 10 (some 10) (.tuple #[.agg (u8s (one)), .bool true]) rfl (by kernel_rfl) (by kernel_rfl) (by kernel_rfl) (fun _ _ _ h => h) rfl rfl ⟨hB, hz5, hz11⟩ (fun w' h' => exec_move _ rfl (.tuple #[.agg (u8s (one)), .bool true]) rfl) ?_
      go_frame
      refine y_yield 11 (some 21) (.agg (u8s (one))) rfl (by kernel_rfl) (by kernel_rfl) (by kernel_rfl) (fun _ _ _ h => h) rfl rfl ⟨hB, hz5, hz11⟩ (fun w' h' => exec_extract _ 0 rfl #[.agg (u8s (one)), .bool true] (by rfl) _ rfl) ?_
      go_frame
      refine y_yield 12 (some 22) (.bool true) rfl (by kernel_rfl) (by kernel_rfl) (by kernel_rfl) (fun _ _ _ h => h) rfl rfl ⟨hB, hz5, hz11⟩ (fun w' h' => exec_extract _ 1 rfl #[.agg (u8s (one)), .bool true] (by rfl) _ rfl) ?_
      go_frame
      refine y_oper 14 (by kernel_rfl) rfl rfl (fun K' hK' => ?_)
      refine wp_store_bytes 53 _ _ rfl rfl Wz20.heap.size rfl (one) rfl _ _ hz58 27 (by kernel_rfl) HOb.out.len (by simp) (fun Wz66 pz67 => ?_)
      replace hB := pz67.below hB (by omega)
      replace hz5 := pz67.other hz5 (by omega)
      replace hz11 := pz67.other hz11 (by omega)
      replace hz18 := pz67.other hz18 (by omega)
      replace hz58 : At Wz66 Wz20.heap.size (.cells (u8s (one)) 53 (0, 0)) := pz67.at_
      refine hK' _ _ ⟨hB, hz5, hz11⟩ (fun _ => trivial) ?_
      clear hK' K' pz67
      refine y_oper 15 (by kernel_rfl) rfl rfl (fun K' hK' => ?_)
      refine wp_exec (some 9) rfl (.bool true) (exec_assign _ rfl (.bool true) rfl) ?_
      refine hK' _ _ ⟨hB, hz5, hz11⟩ (fun _ => trivial) ?_
      clear hK' K'
      go_frame
      refine y_done (by kernel_rfl) ?_ _
      go_upto_region 2 with (fail)
      refine wp_region_lit ?_
      refine ls_ex (some 23) (.bool true) rfl rfl (exec_move _ rfl (.bool true) rfl) ?_
      go_frame
      refine ls_ex (some 24) (.bool false) rfl rfl (exec_not _ _ rfl true rfl) ?_
      go_frame
      refine wpList_nil ?_
      go_upto_region 4 with (fail)
      refine wp_region_lit ?_
      refine ls_ex (some 26) (.int .i64 p) rfl rfl (exec_move _ rfl (.int .i64 p) rfl) ?_
      go_frame
      refine ls_ex (some 27) (.agg (u8s (one))) rfl rfl (exec_load_all 53 _ rfl Wz20.heap.size rfl _ _ _ hz58 Try.underlying53 rfl 27 (by kernel_rfl) ((u8s_size _).trans HOb.out.len)) ?_
      go_frame
      refine ls_op rfl (fun K' hK' => ?_)
      have lz70 := hB.size
      have lz71 := hz5.lt
      have lz72 := hz11.lt
      have lz73 := hz18.lt
      have lz74 := hz58.lt
      refine wp_call2 (some 28) rfl 64 _ _ _ rfl (fun args w => by kernel_rfl) _ _ rfl rfl _ (normalProduct_c p one HOb.out _ hpp HLo.out) (fun e Wz68 h => ?_)
      obtain ⟨rfl, bz69⟩ := h
      replace hB := below_after hB bz69
      replace hz5 := hz5.after bz69
      replace hz11 := hz11.after bz69
      replace hz18 := hz18.after bz69
      replace hz58 := hz58.after bz69
      rw [HN.out]
      clear bz69
      refine ⟨_, rfl, ?_⟩
      refine hK' _ _ ?_
      clear hK' K'
      go_frame
      refine ls_op rfl (fun K' hK' => ?_)
      refine wp_store_bytes 53 _ _ rfl rfl Wz8.heap.size rfl (N) rfl _ _ hz18 27 (by kernel_rfl) HNb.out.len (by simp) (fun Wz75 pz76 => ?_)
      replace hB := pz76.below hB (by omega)
      replace hz5 := pz76.other hz5 (by omega)
      replace hz11 := pz76.other hz11 (by omega)
      replace hz58 := pz76.other hz58 (by omega)
      replace hz18 : At Wz75 Wz8.heap.size (.cells (u8s (N)) 53 (0, 0)) := pz76.at_
      refine hK' _ _ ?_
      clear hK' K' pz76
      refine ls_ex (some 7) (.bool true) rfl rfl (exec_assign _ rfl (.bool true) rfl) ?_
      go_frame
      refine wpList_nil ?_
      go_wp2_with fail
      refine bodyPost_ret (results_at2 rfl _ _ Wz8.heap.size _ _ _ rfl _ rfl hz18 Try.underlying53 rfl 27 (by kernel_rfl) ((u8s_size _).trans HNb.out.len)) rfl ?_
      exact ⟨by rw [HE.out]; rfl, hB⟩
  · have lz77 := hB.size
    have lz78 := hz5.lt
    have lz79 := hz11.lt
    have lz80 := hz18.lt
    refine wp_new (some 8) rfl (alRa_impl_Product rfl) (fun Wz81 nnz82 => ?_)
    have bz83 := nnz82.below (Below.refl _ _) (Nat.le_refl _)
    replace hB := below_after hB bz83
    replace hz5 := hz5.after bz83
    replace hz11 := hz11.after bz83
    replace hz18 := hz18.after bz83
    have hz84 : At Wz81 wdz19.heap.size (.cells (u8s (List.replicate 27 0)) 53 (0, 0)) := nnz82.at_
    refine hK' _ _ ⟨hB, hz5, hz11⟩ (fun _ => trivial) ?_
    clear hK' K' nnz82 bz83
    go_frame
    refine y_oper 8 (by kernel_rfl) rfl rfl (fun K' hK' => ?_)
    have lz87 := hB.size
    have lz88 := hz5.lt
    have lz89 := hz11.lt
    have lz90 := hz18.lt
    have lz91 := hz84.lt
    refine wp_call3 (some 19) rfl 66 _ _ _ _ rfl (fun args w => by kernel_rfl) _ _ _ rfl rfl rfl _ (multipleOf_c p (segm q 18 9) (segm r 18 9) (segm_bytes hq (by omega)) (segm_bytes hr (by omega)) _ hpp gq.f2 gr.f2 (nz_parts gq.z).2.2 (nz_parts gr.z).2.2) (fun e Wz85 h => ?_)
    obtain ⟨rfl, bz86⟩ := h
    replace hB := below_after hB bz86
    replace hz5 := hz5.after bz86
    replace hz11 := hz11.after bz86
    replace hz18 := hz18.after bz86
    replace hz84 := hz84.after bz86
    rw [HTv.out]
    clear bz86
    refine ⟨_, rfl, ?_⟩
    refine hK' _ _ ⟨hB, hz5, hz11⟩ (fun _ => trivial) ?_
    clear hK' K'
    go_frame
    refine y_oper 9 (by kernel_rfl) rfl rfl (fun K' hK' => ?_)
    have lz94 := hB.size
    have lz95 := hz5.lt
    have lz96 := hz11.lt
    have lz97 := hz18.lt
    have lz98 := hz84.lt
    refine wp_call4 (some 20) rfl 65 _ _ _ _ _ rfl (fun args w => by kernel_rfl) _ _ _ _ rfl rfl rfl rfl _ (onePair_c p t q r hq hr _ hp (by omega)) (fun e Wz92 h => ?_)
    obtain ⟨rfl, bz93⟩ := h
    replace hB := below_after hB bz93
    replace hz5 := hz5.after bz93
    replace hz11 := hz11.after bz93
    replace hz18 := hz18.after bz93
    replace hz84 := hz84.after bz93
    rw [HU.out, unV_some]
    clear bz93
    refine ⟨_, rfl, ?_⟩
    refine hK' _ _ ⟨hB, hz5, hz11⟩ (fun _ => trivial) ?_
    clear hK' K'
    go_frame
    refine y_yield 10 (some 10) (.tuple #[.agg (u8s (one)), .bool true]) rfl (by kernel_rfl) (by kernel_rfl) (by kernel_rfl) (fun _ _ _ h => h) rfl rfl ⟨hB, hz5, hz11⟩ (fun w' h' => exec_move _ rfl (.tuple #[.agg (u8s (one)), .bool true]) rfl) ?_
    go_frame
    refine y_yield 11 (some 21) (.agg (u8s (one))) rfl (by kernel_rfl) (by kernel_rfl) (by kernel_rfl) (fun _ _ _ h => h) rfl rfl ⟨hB, hz5, hz11⟩ (fun w' h' => exec_extract _ 0 rfl #[.agg (u8s (one)), .bool true] (by rfl) _ rfl) ?_
    go_frame
    refine y_yield 12 (some 22) (.bool true) rfl (by kernel_rfl) (by kernel_rfl) (by kernel_rfl) (fun _ _ _ h => h) rfl rfl ⟨hB, hz5, hz11⟩ (fun w' h' => exec_extract _ 1 rfl #[.agg (u8s (one)), .bool true] (by rfl) _ rfl) ?_
    go_frame
    refine y_oper 14 (by kernel_rfl) rfl rfl (fun K' hK' => ?_)
    refine wp_store_bytes 53 _ _ rfl rfl wdz19.heap.size rfl (one) rfl _ _ hz84 27 (by kernel_rfl) HOb.out.len (by simp) (fun Wz99 pz100 => ?_)
    replace hB := pz100.below hB (by omega)
    replace hz5 := pz100.other hz5 (by omega)
    replace hz11 := pz100.other hz11 (by omega)
    replace hz18 := pz100.other hz18 (by omega)
    replace hz84 : At Wz99 wdz19.heap.size (.cells (u8s (one)) 53 (0, 0)) := pz100.at_
    refine hK' _ _ ⟨hB, hz5, hz11⟩ (fun _ => trivial) ?_
    clear hK' K' pz100
    refine y_oper 15 (by kernel_rfl) rfl rfl (fun K' hK' => ?_)
    refine wp_exec (some 9) rfl (.bool true) (exec_assign _ rfl (.bool true) rfl) ?_
    refine hK' _ _ ⟨hB, hz5, hz11⟩ (fun _ => trivial) ?_
    clear hK' K'
    go_frame
    refine y_done (by kernel_rfl) ?_ _
    go_upto_region 2 with (fail)
    refine wp_region_lit ?_
    refine ls_ex (some 23) (.bool true) rfl rfl (exec_move _ rfl (.bool true) rfl) ?_
    go_frame
    refine ls_ex (some 24) (.bool false) rfl rfl (exec_not _ _ rfl true rfl) ?_
    go_frame
    refine wpList_nil ?_
    go_upto_region 4 with (fail)
    refine wp_region_lit ?_
    refine ls_ex (some 26) (.int .i64 p) rfl rfl (exec_move _ rfl (.int .i64 p) rfl) ?_
    go_frame
    refine ls_ex (some 27) (.agg (u8s (one))) rfl rfl (exec_load_all 53 _ rfl wdz19.heap.size rfl _ _ _ hz84 Try.underlying53 rfl 27 (by kernel_rfl) ((u8s_size _).trans HOb.out.len)) ?_
    go_frame
    refine ls_op rfl (fun K' hK' => ?_)
    have lz103 := hB.size
    have lz104 := hz5.lt
    have lz105 := hz11.lt
    have lz106 := hz18.lt
    have lz107 := hz84.lt
    refine wp_call2 (some 28) rfl 64 _ _ _ rfl (fun args w => by kernel_rfl) _ _ rfl rfl _ (normalProduct_c p one HOb.out _ hpp HLo.out) (fun e Wz101 h => ?_)
    obtain ⟨rfl, bz102⟩ := h
    replace hB := below_after hB bz102
    replace hz5 := hz5.after bz102
    replace hz11 := hz11.after bz102
    replace hz18 := hz18.after bz102
    replace hz84 := hz84.after bz102
    rw [HN.out]
    clear bz102
    refine ⟨_, rfl, ?_⟩
    refine hK' _ _ ?_
    clear hK' K'
    go_frame
    refine ls_op rfl (fun K' hK' => ?_)
    refine wp_store_bytes 53 _ _ rfl rfl Wz8.heap.size rfl (N) rfl _ _ hz18 27 (by kernel_rfl) HNb.out.len (by simp) (fun Wz108 pz109 => ?_)
    replace hB := pz109.below hB (by omega)
    replace hz5 := pz109.other hz5 (by omega)
    replace hz11 := pz109.other hz11 (by omega)
    replace hz84 := pz109.other hz84 (by omega)
    replace hz18 : At Wz108 Wz8.heap.size (.cells (u8s (N)) 53 (0, 0)) := pz109.at_
    refine hK' _ _ ?_
    clear hK' K' pz109
    refine ls_ex (some 7) (.bool true) rfl rfl (exec_assign _ rfl (.bool true) rfl) ?_
    go_frame
    refine wpList_nil ?_
    go_wp2_with fail
    refine bodyPost_ret (results_at2 rfl _ _ Wz8.heap.size _ _ _ rfl _ rfl hz18 Try.underlying53 rfl 27 (by kernel_rfl) ((u8s_size _).trans HNb.out.len)) rfl ?_
    exact ⟨by rw [HE.out]; rfl, hB⟩
set_option maxHeartbeats 6400000 in
theorem reduced_f (p : Int) (q r : List Nat) (w : World) (hpp : primeB p = true) (gq : GR p q) (gr : GR p r) (t : Int) (htv : timF p (segm q 18 9) (segm r 18 9) = t) (hu : joF p q r = none) :
    Calls Try.prog 30 #[.int .i64 p, .agg (u8s q), .agg (u8s r)] w (fun e w' => e = .returned (unV (reF p q r)) ∧ Below w.heap.size w w') := by
  have hB := Below.refl w.heap.size w
  have hp : 2 ≤ p ∧ p ≤ 5 := prime_le5 hpp
  have hq := gq.b
  have hr := gr.b
  have htb := timF_in hpp (segm q 18 9) (segm r 18 9)
  rw [htv] at htb
  have HTv := Lib.hid htv
  have HU : Hid (opF p t q r = none) := Lib.hid (by rw [← htv]; exact hu)
  have HE : Hid (reF p q r = none) := Lib.hid (by unfold reF; rw [hu]; rfl)
  clear hu htv
  go_enter Try.func30, Try.ntmps30
  go_upto_region 0 with (fail)
  refine wp_region_lit ?_
  refine ls_op rfl (fun K' hK' => ?_)
  have lz1 := hB.size
  refine wp_new (some 4) rfl (exec_box 53 _ rfl (u8s (q)) rfl) (fun Wz2 nnz3 => ?_)
  have bz4 := nnz3.below (Below.refl _ _) (Nat.le_refl _)
  replace hB := below_after hB bz4
  have hz5 : At Wz2 w.heap.size (.cells (u8s (q)) 53 (0, 0)) := nnz3.at_
  refine hK' _ _ ?_
  clear hK' K' nnz3 bz4
  go_frame
  refine ls_op rfl (fun K' hK' => ?_)
  have lz6 := hB.size
  have lz7 := hz5.lt
  refine wp_new (some 5) rfl (exec_box 53 _ rfl (u8s (r)) rfl) (fun Wz8 nnz9 => ?_)
  have bz10 := nnz9.below (Below.refl _ _) (Nat.le_refl _)
  replace hB := below_after hB bz10
  replace hz5 := hz5.after bz10
  have hz11 : At Wz8 Wz2.heap.size (.cells (u8s (r)) 53 (0, 0)) := nnz9.at_
  refine hK' _ _ ?_
  clear hK' K' nnz9 bz10
  go_frame
  refine ls_op rfl (fun K' hK' => ?_)
  have lz12 := hB.size
  have lz13 := hz5.lt
  have lz14 := hz11.lt
  refine wp_new (some 6) rfl (alRa_impl_Product rfl) (fun Wz15 nnz16 => ?_)
  have bz17 := nnz16.below (Below.refl _ _) (Nat.le_refl _)
  replace hB := below_after hB bz17
  replace hz5 := hz5.after bz17
  replace hz11 := hz11.after bz17
  have hz18 : At Wz15 Wz8.heap.size (.cells (u8s (List.replicate 27 0)) 53 (0, 0)) := nnz16.at_
  refine hK' _ _ ?_
  clear hK' K' nnz16 bz17
  go_frame
  refine ls_ex (some 7) (.bool false) rfl rfl (exec_assign _ rfl (.bool false) rfl) ?_
  go_frame
  refine wpList_nil ?_
  go_upto_region 1 with (fail)
  refine wp_region_y (zs := []) (S := fun w' => Below w.heap.size w w' ∧ At w' w.heap.size (.cells (u8s (q)) 53 (0, 0)) ∧ At w' Wz2.heap.size (.cells (u8s (r)) 53 (0, 0))) (S2 := fun w' => True) (by kernel_rfl) ?_
  change wpAnyY _ _ _ _ _ _ _ _ _ _ (World.drew _)
  generalize hwdz19 : World.drew _ = wdz19
  replace hB : Below w.heap.size w wdz19 := by rw [← hwdz19]; exact hB.drew
  replace hz5 : At wdz19 w.heap.size (.cells (u8s (q)) 53 (0, 0)) := by rw [← hwdz19]; exact hz5
  replace hz11 : At wdz19 Wz2.heap.size (.cells (u8s (r)) 53 (0, 0)) := by rw [← hwdz19]; exact hz11
  replace hz18 : At wdz19 Wz8.heap.size (.cells (u8s (List.replicate 27 0)) 53 (0, 0)) := by rw [← hwdz19]; exact hz18
  clear hwdz19
  refine y_yield 0 (some 11) (.int .i64 p) rfl (by kernel_rfl) (by kernel_rfl) (by kernel_rfl) (fun _ _ _ h => h) rfl rfl ⟨hB, hz5, hz11⟩ (fun w' h' => exec_move _ rfl (.int .i64 p) rfl) ?_
  go_frame
  refine y_yield 1 (some 12) (.agg (u8s (q))) rfl (by kernel_rfl) (by kernel_rfl) (by kernel_rfl) (fun _ _ _ h => h) rfl rfl ⟨hB, hz5, hz11⟩ (fun w' h' => exec_load_all 53 _ rfl w.heap.size rfl _ _ _ h'.2.1 Try.underlying53 rfl 27 (by kernel_rfl) ((u8s_size _).trans hq.len)) ?_
  go_frame
  refine y_yield 2 (some 13) (.agg (u8s (r))) rfl (by kernel_rfl) (by kernel_rfl) (by kernel_rfl) (fun _ _ _ h => h) rfl rfl ⟨hB, hz5, hz11⟩ (fun w' h' => exec_load_all 53 _ rfl Wz2.heap.size rfl _ _ _ h'.2.2 Try.underlying53 rfl 27 (by kernel_rfl) ((u8s_size _).trans hr.len)) ?_
  go_frame
  refine y_yield 3 (some 14) (.int .i64 p) rfl (by kernel_rfl) (by kernel_rfl) (by kernel_rfl) (fun _ _ _ h => h) rfl rfl ⟨hB, hz5, hz11⟩ (fun w' h' => exec_move _ rfl (.int .i64 p) rfl) ?_
  go_frame
  refine y_yield 4 (some 15) (.pointer (some ⟨w.heap.size, 18, none⟩)) rfl (by kernel_rfl) (by kernel_rfl) (by kernel_rfl) (fun _ _ _ h => h) rfl rfl ⟨hB, hz5, hz11⟩ (fun w' h' => exec_fieldAddr 53 _ 2 rfl _ (by kernel_rfl)) ?_
  go_frame
  refine y_yield 5 (some 16) (.agg (u8s (segm q 18 9))) rfl (by kernel_rfl) (by kernel_rfl) (by kernel_rfl) (fun _ _ _ h => h) rfl rfl ⟨hB, hz5, hz11⟩ (fun w' h' => exec_load_seg 51 _ rfl w.heap.size (18) rfl _ (q) _ 9 h'.2.1 Try.underlying51 rfl (by kernel_rfl) (by rw [hq.len]; omega) (segm q 18 9) rfl) ?_
  go_frame
  refine y_yield 6 (some 17) (.pointer (some ⟨Wz2.heap.size, 18, none⟩)) rfl (by kernel_rfl) (by kernel_rfl) (by kernel_rfl) (fun _ _ _ h => h) rfl rfl ⟨hB, hz5, hz11⟩ (fun w' h' => exec_fieldAddr 53 _ 2 rfl _ (by kernel_rfl)) ?_
  go_frame
  refine y_yield 7 (some 18) (.agg (u8s (segm r 18 9))) rfl (by kernel_rfl) (by kernel_rfl) (by kernel_rfl) (fun _ _ _ h => h) rfl rfl ⟨hB, hz5, hz11⟩ (fun w' h' => exec_load_seg 51 _ rfl Wz2.heap.size (18) rfl _ (r) _ 9 h'.2.2 Try.underlying51 rfl (by kernel_rfl) (by rw [hr.len]; omega) (segm r 18 9) rfl) ?_
  go_frame
  refine y_two 8 13 (by kernel_rfl) rfl rfl rfl rfl (fun K' hK' => ?_) (fun K' hK' => ?_)
  · have lz22 := hB.size
    have lz23 := hz5.lt
    have lz24 := hz11.lt
    have lz25 := hz18.lt
    refine wp_call3 (some 19) rfl 66 _ _ _ _ rfl (fun args w => by kernel_rfl) _ _ _ rfl rfl rfl _ (multipleOf_c p (segm q 18 9) (segm r 18 9) (segm_bytes hq (by omega)) (segm_bytes hr (by omega)) _ hpp gq.f2 gr.f2 (nz_parts gq.z).2.2 (nz_parts gr.z).2.2) (fun e Wz20 h => ?_)
    obtain ⟨rfl, bz21⟩ := h
    replace hB := below_after hB bz21
    replace hz5 := hz5.after bz21
    replace hz11 := hz11.after bz21
    replace hz18 := hz18.after bz21
    rw [HTv.out]
    clear bz21
    refine ⟨_, rfl, ?_⟩
    refine hK' _ _ ⟨hB, hz5, hz11⟩ (fun _ => trivial) ?_
    clear hK' K'
    go_frame
    refine y_two 9 13 (by kernel_rfl) rfl rfl rfl rfl (fun K' hK' => ?_) (fun K' hK' => ?_)
    · have lz28 := hB.size
      have lz29 := hz5.lt
      have lz30 := hz11.lt
      have lz31 := hz18.lt
      refine wp_call4 (some 20) rfl 65 _ _ _ _ _ rfl (fun args w => by kernel_rfl) _ _ _ _ rfl rfl rfl rfl _ (onePair_c p t q r hq hr _ hp (by omega)) (fun e Wz26 h => ?_)
      obtain ⟨rfl, bz27⟩ := h
      replace hB := below_after hB bz27
      replace hz5 := hz5.after bz27
      replace hz11 := hz11.after bz27
      replace hz18 := hz18.after bz27
      rw [HU.out, unV_none]
      clear bz27
      refine ⟨_, rfl, ?_⟩
      refine hK' _ _ ⟨hB, hz5, hz11⟩ (fun _ => trivial) ?_
      clear hK' K'
      go_frame
      refine y_yield 10 (some 10) (.tuple #[.agg (u8s (List.replicate 27 0)), .bool false]) rfl (by kernel_rfl) (by kernel_rfl) (by kernel_rfl) (fun _ _ _ h => h) rfl rfl ⟨hB, hz5, hz11⟩ (fun w' h' => exec_move _ rfl (.tuple #[.agg (u8s (List.replicate 27 0)), .bool false]) rfl) ?_
      go_frame
      refine y_yield 11 (some 21) (.agg (u8s (List.replicate 27 0))) rfl (by kernel_rfl) (by kernel_rfl) (by kernel_rfl) (fun _ _ _ h => h) rfl rfl ⟨hB, hz5, hz11⟩ (fun w' h' => exec_extract _ 0 rfl #[.agg (u8s (List.replicate 27 0)), .bool false] (by rfl) _ rfl) ?_
      go_frame
      refine y_yield 12 (some 22) (.bool false) rfl (by kernel_rfl) (by kernel_rfl) (by kernel_rfl) (fun _ _ _ h => h) rfl rfl ⟨hB, hz5, hz11⟩ (fun w' h' => exec_extract _ 1 rfl #[.agg (u8s (List.replicate 27 0)), .bool false] (by rfl) _ rfl) ?_
      go_frame
      refine y_oper 13 (by kernel_rfl) rfl rfl (fun K' hK' => ?_)
      have lz32 := hB.size
      have lz33 := hz5.lt
      have lz34 := hz11.lt
      have lz35 := hz18.lt
      refine wp_new (some 8) rfl (alRa_impl_Product rfl) (fun Wz36 nnz37 => ?_)
      have bz38 := nnz37.below (Below.refl _ _) (Nat.le_refl _)
      replace hB := below_after hB bz38
      replace hz5 := hz5.after bz38
      replace hz11 := hz11.after bz38
      replace hz18 := hz18.after bz38
      have hz39 : At Wz36 Wz26.heap.size (.cells (u8s (List.replicate 27 0)) 53 (0, 0)) := nnz37.at_
      refine hK' _ _ ⟨hB, hz5, hz11⟩ (fun _ => trivial) ?_
      clear hK' K' nnz37 bz38
      go_frame
      refine y_oper 14 (by kernel_rfl) rfl rfl (fun K' hK' => ?_)
      refine wp_store_bytes 53 _ _ rfl rfl Wz26.heap.size rfl (List.replicate 27 0) rfl _ _ hz39 27 (by kernel_rfl) (by simp) (by simp) (fun Wz40 pz41 => ?_)
      replace hB := pz41.below hB (by omega)
      replace hz5 := pz41.other hz5 (by omega)
      replace hz11 := pz41.other hz11 (by omega)
      replace hz18 := pz41.other hz18 (by omega)
      replace hz39 : At Wz40 Wz26.heap.size (.cells (u8s (List.replicate 27 0)) 53 (0, 0)) := pz41.at_
      refine hK' _ _ ⟨hB, hz5, hz11⟩ (fun _ => trivial) ?_
      clear hK' K' pz41
      refine y_oper 15 (by kernel_rfl) rfl rfl (fun K' hK' => ?_)
      refine wp_exec (some 9) rfl (.bool false) (exec_assign _ rfl (.bool false) rfl) ?_
      refine hK' _ _ ⟨hB, hz5, hz11⟩ (fun _ => trivial) ?_
      clear hK' K'
      go_frame
      refine y_done (by kernel_rfl) ?_ _
      go_upto_region 2 with (fail)
      refine wp_region_lit ?_
      refine ls_ex (some 23) (.bool false) rfl rfl (exec_move _ rfl (.bool false) rfl) ?_
      go_frame
      refine ls_ex (some 24) (.bool true) rfl rfl (exec_not _ _ rfl false rfl) ?_
      go_frame
      refine wpList_nil ?_
      go_upto_region 3 with (fail)
      refine wp_region_lit ?_
      refine ls_ex (some 25) (.agg (u8s (List.replicate 27 0))) rfl rfl (exec_build_nil 53 rfl _ (by kernel_rfl)) ?_
      go_frame
      refine ls_op rfl (fun K' hK' => ?_)
      refine wp_store_bytes 53 _ _ rfl rfl Wz8.heap.size rfl (List.replicate 27 0) rfl _ _ hz18 27 (by kernel_rfl) (by simp) (by simp) (fun Wz42 pz43 => ?_)
      replace hB := pz43.below hB (by omega)
      replace hz5 := pz43.other hz5 (by omega)
      replace hz11 := pz43.other hz11 (by omega)
      replace hz39 := pz43.other hz39 (by omega)
      replace hz18 : At Wz42 Wz8.heap.size (.cells (u8s (List.replicate 27 0)) 53 (0, 0)) := pz43.at_
      refine hK' _ _ ?_
      clear hK' K' pz43
      refine ls_ex (some 7) (.bool false) rfl rfl (exec_assign _ rfl (.bool false) rfl) ?_
      go_frame
      refine wpList_nil ?_
      go_wp2_with fail
      refine bodyPost_ret (results_at2 rfl _ _ Wz8.heap.size _ _ _ rfl _ rfl hz18 Try.underlying53 rfl 27 (by kernel_rfl) ((u8s_size _).trans (by simp))) rfl ?_
      exact ⟨by rw [HE.out]; rfl, hB⟩
    · have lz44 := hB.size
      have lz45 := hz5.lt
      have lz46 := hz11.lt
      have lz47 := hz18.lt
      refine wp_new (some 8) rfl (alRa_impl_Product rfl) (fun Wz48 nnz49 => ?_)
      have bz50 := nnz49.below (Below.refl _ _) (Nat.le_refl _)
      replace hB := below_after hB bz50
      replace hz5 := hz5.after bz50
      replace hz11 := hz11.after bz50
      replace hz18 := hz18.after bz50
      have hz51 : At Wz48 Wz20.heap.size (.cells (u8s (List.replicate 27 0)) 53 (0, 0)) := nnz49.at_
      refine hK' _ _ ⟨hB, hz5, hz11⟩ (fun _ => trivial) ?_
      clear hK' K' nnz49 bz50
      go_frame
      refine y_oper 9 (by kernel_rfl) rfl rfl (fun K' hK' => ?_)
      have lz54 := hB.size
      have lz55 := hz5.lt
      have lz56 := hz11.lt
      have lz57 := hz18.lt
      have lz58 := hz51.lt
      refine wp_call4 (some 20) rfl 65 _ _ _ _ _ rfl (fun args w => by kernel_rfl) _ _ _ _ rfl rfl rfl rfl _ (onePair_c p t q r hq hr _ hp (by omega)) (fun e Wz52 h => ?_)
      obtain ⟨rfl, bz53⟩ := h
      replace hB := below_after hB bz53
      replace hz5 := hz5.after bz53
      replace hz11 := hz11.after bz53
      replace hz18 := hz18.after bz53
      replace hz51 := hz51.after bz53
      rw [HU.out, unV_none]
      clear bz53
      refine ⟨_, rfl, ?_⟩
      refine hK' _ _ ⟨hB, hz5, hz11⟩ (fun _ => trivial) ?_
      clear hK' K'
      go_frame
      refine y_yield 10 (some 10) (.tuple #[.agg (u8s (List.replicate 27 0)), .bool false]) rfl (by kernel_rfl) (by kernel_rfl) (by kernel_rfl) (fun _ _ _ h => h) rfl rfl ⟨hB, hz5, hz11⟩ (fun w' h' => exec_move _ rfl (.tuple #[.agg (u8s (List.replicate 27 0)), .bool false]) rfl) ?_
      go_frame
      refine y_yield 11 (some 21) (.agg (u8s (List.replicate 27 0))) rfl (by kernel_rfl) (by kernel_rfl) (by kernel_rfl) (fun _ _ _ h => h) rfl rfl ⟨hB, hz5, hz11⟩ (fun w' h' => exec_extract _ 0 rfl #[.agg (u8s (List.replicate 27 0)), .bool false] (by rfl) _ rfl) ?_
      go_frame
      refine y_yield 12 (some 22) (.bool false) rfl (by kernel_rfl) (by kernel_rfl) (by kernel_rfl) (fun _ _ _ h => h) rfl rfl ⟨hB, hz5, hz11⟩ (fun w' h' => exec_extract _ 1 rfl #[.agg (u8s (List.replicate 27 0)), .bool false] (by rfl) _ rfl) ?_
      go_frame
      refine y_oper 14 (by kernel_rfl) rfl rfl (fun K' hK' => ?_)
      refine wp_store_bytes 53 _ _ rfl rfl Wz20.heap.size rfl (List.replicate 27 0) rfl _ _ hz51 27 (by kernel_rfl) (by simp) (by simp) (fun Wz59 pz60 => ?_)
      replace hB := pz60.below hB (by omega)
      replace hz5 := pz60.other hz5 (by omega)
      replace hz11 := pz60.other hz11 (by omega)
      replace hz18 := pz60.other hz18 (by omega)
      replace hz51 : At Wz59 Wz20.heap.size (.cells (u8s (List.replicate 27 0)) 53 (0, 0)) := pz60.at_
      refine hK' _ _ ⟨hB, hz5, hz11⟩ (fun _ => trivial) ?_
      clear hK' K' pz60
      refine y_oper 15 (by kernel_rfl) rfl rfl (fun K' hK' => ?_)
      refine wp_exec (some 9) rfl (.bool false) (exec_assign _ rfl (.bool false) rfl) ?_
      refine hK' _ _ ⟨hB, hz5, hz11⟩ (fun _ => trivial) ?_
      clear hK' K'
      go_frame
      refine y_done (by kernel_rfl) ?_ _
      go_upto_region 2 with (fail)
      refine wp_region_lit ?_
      refine ls_ex (some 23) (.bool false) rfl rfl (exec_move _ rfl (.bool false) rfl) ?_
      go_frame
      refine ls_ex (some 24) (.bool true) rfl rfl (exec_not _ _ rfl false rfl) ?_
      go_frame
      refine wpList_nil ?_
      go_upto_region 3 with (fail)
      refine wp_region_lit ?_
      refine ls_ex (some 25) (.agg (u8s (List.replicate 27 0))) rfl rfl (exec_build_nil 53 rfl _ (by kernel_rfl)) ?_
      go_frame
      refine ls_op rfl (fun K' hK' => ?_)
      refine wp_store_bytes 53 _ _ rfl rfl Wz8.heap.size rfl (List.replicate 27 0) rfl _ _ hz18 27 (by kernel_rfl) (by simp) (by simp) (fun Wz61 pz62 => ?_)
      replace hB := pz62.below hB (by omega)
      replace hz5 := pz62.other hz5 (by omega)
      replace hz11 := pz62.other hz11 (by omega)
      replace hz51 := pz62.other hz51 (by omega)
      replace hz18 : At Wz61 Wz8.heap.size (.cells (u8s (List.replicate 27 0)) 53 (0, 0)) := pz62.at_
      refine hK' _ _ ?_
      clear hK' K' pz62
      refine ls_ex (some 7) (.bool false) rfl rfl (exec_assign _ rfl (.bool false) rfl) ?_
      go_frame
      refine wpList_nil ?_
      go_wp2_with fail
      refine bodyPost_ret (results_at2 rfl _ _ Wz8.heap.size _ _ _ rfl _ rfl hz18 Try.underlying53 rfl 27 (by kernel_rfl) ((u8s_size _).trans (by simp))) rfl ?_
      exact ⟨by rw [HE.out]; rfl, hB⟩
  · have lz63 := hB.size
    have lz64 := hz5.lt
    have lz65 := hz11.lt
    have lz66 := hz18.lt
    refine wp_new (some 8) rfl (alRa_impl_Product rfl) (fun Wz67 nnz68 => ?_)
    have bz69 := nnz68.below (Below.refl _ _) (Nat.le_refl _)
    replace hB := below_after hB bz69
    replace hz5 := hz5.after bz69
    replace hz11 := hz11.after bz69
    replace hz18 := hz18.after bz69
    have hz70 : At Wz67 wdz19.heap.size (.cells (u8s (List.replicate 27 0)) 53 (0, 0)) := nnz68.at_
    refine hK' _ _ ⟨hB, hz5, hz11⟩ (fun _ => trivial) ?_
    clear hK' K' nnz68 bz69
    go_frame
    refine y_oper 8 (by kernel_rfl) rfl rfl (fun K' hK' => ?_)
    have lz73 := hB.size
    have lz74 := hz5.lt
    have lz75 := hz11.lt
    have lz76 := hz18.lt
    have lz77 := hz70.lt
    refine wp_call3 (some 19) rfl 66 _ _ _ _ rfl (fun args w => by kernel_rfl) _ _ _ rfl rfl rfl _ (multipleOf_c p (segm q 18 9) (segm r 18 9) (segm_bytes hq (by omega)) (segm_bytes hr (by omega)) _ hpp gq.f2 gr.f2 (nz_parts gq.z).2.2 (nz_parts gr.z).2.2) (fun e Wz71 h => ?_)
    obtain ⟨rfl, bz72⟩ := h
    replace hB := below_after hB bz72
    replace hz5 := hz5.after bz72
    replace hz11 := hz11.after bz72
    replace hz18 := hz18.after bz72
    replace hz70 := hz70.after bz72
    rw [HTv.out]
    clear bz72
    refine ⟨_, rfl, ?_⟩
    refine hK' _ _ ⟨hB, hz5, hz11⟩ (fun _ => trivial) ?_
    clear hK' K'
    go_frame
    refine y_oper 9 (by kernel_rfl) rfl rfl (fun K' hK' => ?_)
    have lz80 := hB.size
    have lz81 := hz5.lt
    have lz82 := hz11.lt
    have lz83 := hz18.lt
    have lz84 := hz70.lt
    refine wp_call4 (some 20) rfl 65 _ _ _ _ _ rfl (fun args w => by kernel_rfl) _ _ _ _ rfl rfl rfl rfl _ (onePair_c p t q r hq hr _ hp (by omega)) (fun e Wz78 h => ?_)
    obtain ⟨rfl, bz79⟩ := h
    replace hB := below_after hB bz79
    replace hz5 := hz5.after bz79
    replace hz11 := hz11.after bz79
    replace hz18 := hz18.after bz79
    replace hz70 := hz70.after bz79
    rw [HU.out, unV_none]
    clear bz79
    refine ⟨_, rfl, ?_⟩
    refine hK' _ _ ⟨hB, hz5, hz11⟩ (fun _ => trivial) ?_
    clear hK' K'
    go_frame
    refine y_yield 10 (some 10) (.tuple #[.agg (u8s (List.replicate 27 0)), .bool false]) rfl (by kernel_rfl) (by kernel_rfl) (by kernel_rfl) (fun _ _ _ h => h) rfl rfl ⟨hB, hz5, hz11⟩ (fun w' h' => exec_move _ rfl (.tuple #[.agg (u8s (List.replicate 27 0)), .bool false]) rfl) ?_
    go_frame
    refine y_yield 11 (some 21) (.agg (u8s (List.replicate 27 0))) rfl (by kernel_rfl) (by kernel_rfl) (by kernel_rfl) (fun _ _ _ h => h) rfl rfl ⟨hB, hz5, hz11⟩ (fun w' h' => exec_extract _ 0 rfl #[.agg (u8s (List.replicate 27 0)), .bool false] (by rfl) _ rfl) ?_
    go_frame
    refine y_yield 12 (some 22) (.bool false) rfl (by kernel_rfl) (by kernel_rfl) (by kernel_rfl) (fun _ _ _ h => h) rfl rfl ⟨hB, hz5, hz11⟩ (fun w' h' => exec_extract _ 1 rfl #[.agg (u8s (List.replicate 27 0)), .bool false] (by rfl) _ rfl) ?_
    go_frame
    refine y_oper 14 (by kernel_rfl) rfl rfl (fun K' hK' => ?_)
    refine wp_store_bytes 53 _ _ rfl rfl wdz19.heap.size rfl (List.replicate 27 0) rfl _ _ hz70 27 (by kernel_rfl) (by simp) (by simp) (fun Wz85 pz86 => ?_)
    replace hB := pz86.below hB (by omega)
    replace hz5 := pz86.other hz5 (by omega)
    replace hz11 := pz86.other hz11 (by omega)
    replace hz18 := pz86.other hz18 (by omega)
    replace hz70 : At Wz85 wdz19.heap.size (.cells (u8s (List.replicate 27 0)) 53 (0, 0)) := pz86.at_
    refine hK' _ _ ⟨hB, hz5, hz11⟩ (fun _ => trivial) ?_
    clear hK' K' pz86
    refine y_oper 15 (by kernel_rfl) rfl rfl (fun K' hK' => ?_)
    refine wp_exec (some 9) rfl (.bool false) (exec_assign _ rfl (.bool false) rfl) ?_
    refine hK' _ _ ⟨hB, hz5, hz11⟩ (fun _ => trivial) ?_
    clear hK' K'
    go_frame
    refine y_done (by kernel_rfl) ?_ _
    go_upto_region 2 with (fail)
    refine wp_region_lit ?_
    refine ls_ex (some 23) (.bool false) rfl rfl (exec_move _ rfl (.bool false) rfl) ?_
    go_frame
    refine ls_ex (some 24) (.bool true) rfl rfl (exec_not _ _ rfl false rfl) ?_
    go_frame
    refine wpList_nil ?_
    go_upto_region 3 with (fail)
    refine wp_region_lit ?_
    refine ls_ex (some 25) (.agg (u8s (List.replicate 27 0))) rfl rfl (exec_build_nil 53 rfl _ (by kernel_rfl)) ?_
    go_frame
    refine ls_op rfl (fun K' hK' => ?_)
    refine wp_store_bytes 53 _ _ rfl rfl Wz8.heap.size rfl (List.replicate 27 0) rfl _ _ hz18 27 (by kernel_rfl) (by simp) (by simp) (fun Wz87 pz88 => ?_)
    replace hB := pz88.below hB (by omega)
    replace hz5 := pz88.other hz5 (by omega)
    replace hz11 := pz88.other hz11 (by omega)
    replace hz70 := pz88.other hz70 (by omega)
    replace hz18 : At Wz87 Wz8.heap.size (.cells (u8s (List.replicate 27 0)) 53 (0, 0)) := pz88.at_
    refine hK' _ _ ?_
    clear hK' K' pz88
    refine ls_ex (some 7) (.bool false) rfl rfl (exec_assign _ rfl (.bool false) rfl) ?_
    go_frame
    refine wpList_nil ?_
    go_wp2_with fail
    refine bodyPost_ret (results_at2 rfl _ _ Wz8.heap.size _ _ _ rfl _ rfl hz18 Try.underlying53 rfl 27 (by kernel_rfl) ((u8s_size _).trans (by simp))) rfl ?_
    exact ⟨by rw [HE.out]; rfl, hB⟩
theorem reducedPair_c (p : Int) (q r : List Nat) (w : World) (hpp : primeB p = true) (gq : GR p q) (gr : GR p r) : Calls Try.prog 30 #[.int .i64 p, .agg (u8s q), .agg (u8s r)] w (fun e w' => e = .returned (unV (reF p q r)) ∧ Below w.heap.size w w') := by
  rcases hu : joF p q r with _ | one
  · exact reduced_f p q r w hpp gq gr _ rfl hu
  · exact reduced_t p q r w hpp gq gr _ rfl one hu
set_option maxHeartbeats 4000000 in
theorem reClos_t (p n m k : Int) (A : Option Addr) (l c g : Nat) (q r : List Nat) (w : World) (hpp : primeB p = true) (gq : GR p q) (gr : GR p r) (hg : At w g (.cells #[.int .i64 p, .int .i64 n, .int .i64 m, .int .i64 k, .slice A l c] 28 (0, 0))) (one : List Nat) (hu : reF p q r = some one) :
    Calls Try.prog 29 #[.agg (u8s q), .agg (u8s r), .pointer (some ⟨g, 0, none⟩)] w (fun e w' => e = .returned (unV (reF p q r)) ∧ Below w.heap.size w w') := by
  have hB := Below.refl w.heap.size w
  have hq := gq.b
  have hr := gr.b
  have HOb : Hid (Bytes 27 one) := Lib.hid (reF_good hpp q r one gq gr hu).1
  have HE := Lib.hid hu
  clear hu
  go_enter Try.func29, Try.ntmps29
  go_upto_region 0 with (fail)
  refine wp_region_lit ?_
  refine ls_op rfl (fun K' hK' => ?_)
  have lz1 := hB.size
  have lz2 := hg.lt
  refine wp_new (some 3) rfl (exec_box 53 _ rfl (u8s (q)) rfl) (fun Wz3 nnz4 => ?_)
  have bz5 := nnz4.below (Below.refl _ _) (Nat.le_refl _)
  replace hB := below_after hB bz5
  replace hg := hg.after bz5
  have hz6 : At Wz3 w.heap.size (.cells (u8s (q)) 53 (0, 0)) := nnz4.at_
  refine hK' _ _ ?_
  clear hK' K' nnz4 bz5
  go_frame
  refine ls_op rfl (fun K' hK' => ?_)
  have lz7 := hB.size
  have lz8 := hg.lt
  have lz9 := hz6.lt
  refine wp_new (some 4) rfl (exec_box 53 _ rfl (u8s (r)) rfl) (fun Wz10 nnz11 => ?_)
  have bz12 := nnz11.below (Below.refl _ _) (Nat.le_refl _)
  replace hB := below_after hB bz12
  replace hg := hg.after bz12
  replace hz6 := hz6.after bz12
  have hz13 : At Wz10 Wz3.heap.size (.cells (u8s (r)) 53 (0, 0)) := nnz11.at_
  refine hK' _ _ ?_
  clear hK' K' nnz11 bz12
  go_frame
  refine ls_op rfl (fun K' hK' => ?_)
  have lz14 := hB.size
  have lz15 := hg.lt
  have lz16 := hz6.lt
  have lz17 := hz13.lt
  refine wp_new (some 5) rfl (alRa_impl_Product rfl) (fun Wz18 nnz19 => ?_)
  have bz20 := nnz19.below (Below.refl _ _) (Nat.le_refl _)
  replace hB := below_after hB bz20
  replace hg := hg.after bz20
  replace hz6 := hz6.after bz20
  replace hz13 := hz13.after bz20
  have hz21 : At Wz18 Wz10.heap.size (.cells (u8s (List.replicate 27 0)) 53 (0, 0)) := nnz19.at_
  refine hK' _ _ ?_
  clear hK' K' nnz19 bz20
  go_frame
  refine ls_ex (some 6) (.bool false) rfl rfl (exec_assign _ rfl (.bool false) rfl) ?_
  go_frame
  refine wpList_nil ?_
  go_upto_region 1 with (fail)
  refine wp_region_lit ?_
  refine ls_ex (some 7) (.pointer (some ⟨g, 0, none⟩)) rfl rfl (exec_fieldAddr 28 _ 0 rfl _ (by kernel_rfl)) ?_
  go_frame
  refine ls_ex (some 8) (.int .i64 p) rfl rfl (exec_load_one 2 _ rfl g 0 rfl (.int .i64 p) _ Try.underlying2 rfl (hg.at_ 0)) ?_
  go_frame
  refine ls_ex (some 9) (.agg (u8s (q))) rfl rfl (exec_load_all 53 _ rfl w.heap.size rfl _ _ _ hz6 Try.underlying53 rfl 27 (by kernel_rfl) ((u8s_size _).trans hq.len)) ?_
  go_frame
  refine ls_ex (some 10) (.agg (u8s (r))) rfl rfl (exec_load_all 53 _ rfl Wz3.heap.size rfl _ _ _ hz13 Try.underlying53 rfl 27 (by kernel_rfl) ((u8s_size _).trans hr.len)) ?_
  go_frame
  refine ls_op rfl (fun K' hK' => ?_)
  have lz24 := hB.size
  have lz25 := hg.lt
  have lz26 := hz6.lt
  have lz27 := hz13.lt
  have lz28 := hz21.lt
  refine wp_call3 (some 11) rfl 30 _ _ _ _ rfl (fun args w => by kernel_rfl) _ _ _ rfl rfl rfl _ (reducedPair_c p q r _ hpp gq gr) (fun e Wz22 h => ?_)
  obtain ⟨rfl, bz23⟩ := h
  replace hB := below_after hB bz23
  replace hg := hg.after bz23
  replace hz6 := hz6.after bz23
  replace hz13 := hz13.after bz23
  replace hz21 := hz21.after bz23
  rw [HE.out, unV_some]
  clear bz23
  refine ⟨_, rfl, ?_⟩
  refine hK' _ _ ?_
  clear hK' K'
  go_frame
  refine ls_ex (some 12) (.agg (u8s (one))) rfl rfl (exec_extract _ 0 rfl #[.agg (u8s (one)), .bool true] (by rfl) _ rfl) ?_
  go_frame
  refine ls_ex (some 13) (.bool true) rfl rfl (exec_extract _ 1 rfl #[.agg (u8s (one)), .bool true] (by rfl) _ rfl) ?_
  go_frame
  refine ls_op rfl (fun K' hK' => ?_)
  refine wp_store_bytes 53 _ _ rfl rfl Wz10.heap.size rfl (one) rfl _ _ hz21 27 (by kernel_rfl) HOb.out.len (by simp) (fun Wz29 pz30 => ?_)
  replace hB := pz30.below hB (by omega)
  replace hg := pz30.other hg (by omega)
  replace hz6 := pz30.other hz6 (by omega)
  replace hz13 := pz30.other hz13 (by omega)
  replace hz21 : At Wz29 Wz10.heap.size (.cells (u8s (one)) 53 (0, 0)) := pz30.at_
  refine hK' _ _ ?_
  clear hK' K' pz30
  refine ls_ex (some 6) (.bool true) rfl rfl (exec_assign _ rfl (.bool true) rfl) ?_
  go_frame
  refine wpList_nil ?_
  go_wp2_with fail
  refine bodyPost_ret (results_at2 rfl _ _ Wz10.heap.size _ _ _ rfl _ rfl hz21 Try.underlying53 rfl 27 (by kernel_rfl) ((u8s_size _).trans HOb.out.len)) rfl ?_
  exact ⟨by rw [HE.out]; rfl, hB⟩
set_option maxHeartbeats 4000000 in
theorem reClos_f (p n m k : Int) (A : Option Addr) (l c g : Nat) (q r : List Nat) (w : World) (hpp : primeB p = true) (gq : GR p q) (gr : GR p r) (hg : At w g (.cells #[.int .i64 p, .int .i64 n, .int .i64 m, .int .i64 k, .slice A l c] 28 (0, 0))) (hu : reF p q r = none) :
    Calls Try.prog 29 #[.agg (u8s q), .agg (u8s r), .pointer (some ⟨g, 0, none⟩)] w (fun e w' => e = .returned (unV (reF p q r)) ∧ Below w.heap.size w w') := by
  have hB := Below.refl w.heap.size w
  have hq := gq.b
  have hr := gr.b
  have HE := Lib.hid hu
  clear hu
  go_enter Try.func29, Try.ntmps29
  go_upto_region 0 with (fail)
  refine wp_region_lit ?_
  refine ls_op rfl (fun K' hK' => ?_)
  have lz1 := hB.size
  have lz2 := hg.lt
  refine wp_new (some 3) rfl (exec_box 53 _ rfl (u8s (q)) rfl) (fun Wz3 nnz4 => ?_)
  have bz5 := nnz4.below (Below.refl _ _) (Nat.le_refl _)
  replace hB := below_after hB bz5
  replace hg := hg.after bz5
  have hz6 : At Wz3 w.heap.size (.cells (u8s (q)) 53 (0, 0)) := nnz4.at_
  refine hK' _ _ ?_
  clear hK' K' nnz4 bz5
  go_frame
  refine ls_op rfl (fun K' hK' => ?_)
  have lz7 := hB.size
  have lz8 := hg.lt
  have lz9 := hz6.lt
  refine wp_new (some 4) rfl (exec_box 53 _ rfl (u8s (r)) rfl) (fun Wz10 nnz11 => ?_)
  have bz12 := nnz11.below (Below.refl _ _) (Nat.le_refl _)
  replace hB := below_after hB bz12
  replace hg := hg.after bz12
  replace hz6 := hz6.after bz12
  have hz13 : At Wz10 Wz3.heap.size (.cells (u8s (r)) 53 (0, 0)) := nnz11.at_
  refine hK' _ _ ?_
  clear hK' K' nnz11 bz12
  go_frame
  refine ls_op rfl (fun K' hK' => ?_)
  have lz14 := hB.size
  have lz15 := hg.lt
  have lz16 := hz6.lt
  have lz17 := hz13.lt
  refine wp_new (some 5) rfl (alRa_impl_Product rfl) (fun Wz18 nnz19 => ?_)
  have bz20 := nnz19.below (Below.refl _ _) (Nat.le_refl _)
  replace hB := below_after hB bz20
  replace hg := hg.after bz20
  replace hz6 := hz6.after bz20
  replace hz13 := hz13.after bz20
  have hz21 : At Wz18 Wz10.heap.size (.cells (u8s (List.replicate 27 0)) 53 (0, 0)) := nnz19.at_
  refine hK' _ _ ?_
  clear hK' K' nnz19 bz20
  go_frame
  refine ls_ex (some 6) (.bool false) rfl rfl (exec_assign _ rfl (.bool false) rfl) ?_
  go_frame
  refine wpList_nil ?_
  go_upto_region 1 with (fail)
  refine wp_region_lit ?_
  refine ls_ex (some 7) (.pointer (some ⟨g, 0, none⟩)) rfl rfl (exec_fieldAddr 28 _ 0 rfl _ (by kernel_rfl)) ?_
  go_frame
  refine ls_ex (some 8) (.int .i64 p) rfl rfl (exec_load_one 2 _ rfl g 0 rfl (.int .i64 p) _ Try.underlying2 rfl (hg.at_ 0)) ?_
  go_frame
  refine ls_ex (some 9) (.agg (u8s (q))) rfl rfl (exec_load_all 53 _ rfl w.heap.size rfl _ _ _ hz6 Try.underlying53 rfl 27 (by kernel_rfl) ((u8s_size _).trans hq.len)) ?_
  go_frame
  refine ls_ex (some 10) (.agg (u8s (r))) rfl rfl (exec_load_all 53 _ rfl Wz3.heap.size rfl _ _ _ hz13 Try.underlying53 rfl 27 (by kernel_rfl) ((u8s_size _).trans hr.len)) ?_
  go_frame
  refine ls_op rfl (fun K' hK' => ?_)
  have lz24 := hB.size
  have lz25 := hg.lt
  have lz26 := hz6.lt
  have lz27 := hz13.lt
  have lz28 := hz21.lt
  refine wp_call3 (some 11) rfl 30 _ _ _ _ rfl (fun args w => by kernel_rfl) _ _ _ rfl rfl rfl _ (reducedPair_c p q r _ hpp gq gr) (fun e Wz22 h => ?_)
  obtain ⟨rfl, bz23⟩ := h
  replace hB := below_after hB bz23
  replace hg := hg.after bz23
  replace hz6 := hz6.after bz23
  replace hz13 := hz13.after bz23
  replace hz21 := hz21.after bz23
  rw [HE.out, unV_none]
  clear bz23
  refine ⟨_, rfl, ?_⟩
  refine hK' _ _ ?_
  clear hK' K'
  go_frame
  refine ls_ex (some 12) (.agg (u8s (List.replicate 27 0))) rfl rfl (exec_extract _ 0 rfl #[.agg (u8s (List.replicate 27 0)), .bool false] (by rfl) _ rfl) ?_
  go_frame
  refine ls_ex (some 13) (.bool false) rfl rfl (exec_extract _ 1 rfl #[.agg (u8s (List.replicate 27 0)), .bool false] (by rfl) _ rfl) ?_
  go_frame
  refine ls_op rfl (fun K' hK' => ?_)
  refine wp_store_bytes 53 _ _ rfl rfl Wz10.heap.size rfl (List.replicate 27 0) rfl _ _ hz21 27 (by kernel_rfl) (by simp) (by simp) (fun Wz29 pz30 => ?_)
  replace hB := pz30.below hB (by omega)
  replace hg := pz30.other hg (by omega)
  replace hz6 := pz30.other hz6 (by omega)
  replace hz13 := pz30.other hz13 (by omega)
  replace hz21 : At Wz29 Wz10.heap.size (.cells (u8s (List.replicate 27 0)) 53 (0, 0)) := pz30.at_
  refine hK' _ _ ?_
  clear hK' K' pz30
  refine ls_ex (some 6) (.bool false) rfl rfl (exec_assign _ rfl (.bool false) rfl) ?_
  go_frame
  refine wpList_nil ?_
  go_wp2_with fail
  refine bodyPost_ret (results_at2 rfl _ _ Wz10.heap.size _ _ _ rfl _ rfl hz21 Try.underlying53 rfl 27 (by kernel_rfl) ((u8s_size _).trans (by simp))) rfl ?_
  exact ⟨by rw [HE.out]; rfl, hB⟩
theorem reClos_c (p n m k : Int) (A : Option Addr) (l c g : Nat) (q r : List Nat) (w : World) (hpp : primeB p = true) (gq : GR p q) (gr : GR p r) (hg : At w g (.cells #[.int .i64 p, .int .i64 n, .int .i64 m, .int .i64 k, .slice A l c] 28 (0, 0))) : Calls Try.prog 29 (#[.agg (u8s q), .agg (u8s r)] ++ #[.pointer (some ⟨g, 0, none⟩)]) w (fun e w' => e = .returned (unV (reF p q r)) ∧ Below w.heap.size w w') := by
  rw [show (#[.agg (u8s q), .agg (u8s r)] ++ #[.pointer (some ⟨g, 0, none⟩)] : Array Value) = #[.agg (u8s q), .agg (u8s r), .pointer (some ⟨g, 0, none⟩)] from rfl]
  rcases hu : reF p q r with _ | one
  · have h9 := reClos_f p n m k A l c g q r w hpp gq gr hg hu
    rwa [hu] at h9
  · have h9 := reClos_t p n m k A l c g q r w hpp gq gr hg one hu
    rwa [hu] at h9
end Go.Proofs.Ytemkhlokpinecaa
