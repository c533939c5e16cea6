/-
  ScaledScheme of both sides. (Made by mksc.py.)
-/
import Derived.Test.YtmbjpnkedepijaaSo5
import Derived.Test.YtmbjpnkedepijaaNrm6
namespace Go.Proofs.Ytmbjpnkedepijaa
open Go.RowKit
set_option maxRecDepth 100000
set_option maxHeartbeats 800000 in
theorem l04First_c (f : List Nat) (hf : Bytes 9 f) (w : World) :
    Calls Try.prog 24 #[.agg (u8s f)] w fun e w' => e = .returned (.int .i64 ((lead f : Nat) : Int)) ∧ Below w.heap.size w w' := by
  go_enter Try.func24, Try.ntmps24
  go_wp2_with fail
  go_loopw [3] (fun i wr => ∃ k : Nat, k ≤ 9 ∧ i = .int .i64 k ∧ lead f = leadAt f k (9 - k) ∧ Below w.heap.size w wr ∧ At wr w.heap.size (.cells (u8s f) 43 (0, 0))) (fun i _ => 9 - (intOf i).toNat)
  case atStart => exact ⟨0, by omega, rfl, rfl, below1 _ _, al1_0 _ _⟩
  case round =>
    obtain ⟨k, hk, rfl, hl, hB, h0⟩ := hrel
    by_cases hlt : k < 9
    · have f0 : IntKind.i64.wrap ((k : Int) + 1) = (k : Int) + 1 := IntWalk.i64_in _ (by omega)
      have c0 := h0.cell (i := k) (by rw [hf.len]; exact hlt)
      have hx := hf.lt k
      rw [show 9 - k = (9 - (k + 1)) + 1 by omega] at hl
      simp only [leadAt] at hl
      by_cases hz : f[k]?.getD 0 = 0
      · rw [if_pos hz] at hl
        rw [hz] at c0
        have HL := Lib.hid hl
        clear hl hz hx
        go_wp2_with fail
        go_roundw
        case rel => exact ⟨k + 1, by omega, by go_num, HL.out, hB, h0⟩
        case measure => simp [intOf]; omega
      · rw [if_neg hz] at hl
        generalize f[k]?.getD 0 = x at *
        have hb : (((x : Nat) : Int) != 0) = true := by simp; omega
        have HL := Lib.hid hl
        clear hl hz
        go_wp2_with fail
        go_ret
        exact ⟨ret_i64 (by rw [HL.out]), hB⟩
    · obtain rfl : k = 9 := by omega
      have HL := Lib.hid hl
      clear hl
      go_wp2_with fail
      go_ret
      exact ⟨ret_i64 (by rw [HL.out]; rfl), hB⟩
attribute [local irreducible] wpList
theorem scF_mod (p M : Int) (f : List Nat) : scF p (M % p) f = scF p M f := by
  unfold scF adF
  apply List.map_congr_left
  intro i _
  unfold ad1
  have h : ∀ x y : Int, (x + M % p * y) % p = (x + M * y) % p := fun x y => by
    rw [Int.emod_def M p, show x + (M - p * (M / p)) * y = x + M * y + p * (-(M / p * y)) by grind, Int.add_mul_emod_self_left]
  rw [h]
theorem l01IsN_c (p n m k : Int) (A : Option Addr) (c N : Nat) (qs : List (List Nat)) (w : World) (hN : qs.length = N) (hr : Rd w A qs) (hl : N ≤ 1048576) :
    Calls Try.prog 15 #[.agg #[.int .i64 p, .int .i64 n, .int .i64 m, .int .i64 k, .slice A N c]] w fun e w' => e = .returned (.bool (schemeB p n m k qs)) ∧ Below w.heap.size w w' := by
  subst hN
  exact l01Is_c p n m k A c qs w hr hl
theorem sortedProductsN_c (A : Option Addr) (c N : Nat) (qs : List (List Nat)) (w : World) (hN : qs.length = N) (hR : Rd w A qs) (hn : N ≤ 1000) :
    Calls Try.prog 19 #[.slice A N c] w fun e w' => ∃ v, e = .returned v ∧ Own w' w.heap.size v (insA [] qs) ∧ Below w.heap.size w w' := by
  subst hN
  exact sortedProducts_c A c qs w hR hn
theorem m4s {a b : Int} (ha : 0 ≤ a ∧ a ≤ 4) (hb : 0 ≤ b ∧ b ≤ 4) : 0 ≤ a * b ∧ a * b ≤ 16 := by
  have h : b = 0 ∨ b = 1 ∨ b = 2 ∨ b = 3 ∨ b = 4 := by omega
  rcases h with rfl | rfl | rfl | rfl | rfl <;> omega
theorem exec_prodN {o : Oper} {a : Act} {w : World} (x y z : Operand) (ho : o.op = .build 45 #[(0, x), (1, y), (2, z)]) (P Q R : List Nat) {NQ : List Nat} (hx : a.eval x = .agg (u8s P)) (hy : a.eval y = .agg (u8s Q)) (hz : a.eval z = .agg (u8s R)) (hp : P.length = 9) (hq : Q.length = 9) (hr : R.length = 9) (he : cat3 P Q R = NQ) :
    (execOp a.eval o).run Try.prog w = .ok (.value (.agg (u8s NQ))) w := by
  subst he
  exact exec_prod x y z ho P Q R hx hy hz hp hq hr
theorem sc_res {p n m k : Int} {qs : List (List Nat)} : (∀ r ∈ soL (soCode p n m k qs) (insA [] (qs.map (normQ p))), Bytes 27 r) ∧ (soL (soCode p n m k qs) (insA [] (qs.map (normQ p)))).length ≤ 1048576 := by
  have hp := insA_perm (qs.map (normQ p)) []
  rw [List.nil_append] at hp
  unfold soL
  split
  · rename_i hc
    unfold soCode at hc
    split at hc
    · rename_i hx
      have hpr := (sizesB_parts (schemeB_sizes hx)).1
      refine ⟨fun r hr => ?_, by rw [hp.length_eq, List.length_map]; have := schemeB_len hx; omega⟩
      obtain ⟨q, _, rfl⟩ := List.mem_map.1 (hp.mem_iff.1 hr)
      exact normQ_bytes q hpr
    · cases hc
  · exact ⟨(fun r hr => by cases hr), by simp⟩
theorem alSw_impl_Product {o : Oper} {a : Act} {w : World} (ho : o.op = .alloc 45) : (execOp a.eval o).run Try.prog w = .ok (.value (.pointer (some ⟨w.heap.size, 0, none⟩))) (w.alloc (.cells (u8s (List.replicate 27 0)) 45 (0, 0))) := by
  unfold execOp
  rw [ho]
  kernel_rfl
theorem alSw_impl_Scheme {o : Oper} {a : Act} {w : World} (ho : o.op = .alloc 28) : (execOp a.eval o).run Try.prog w = .ok (.value (.pointer (some ⟨w.heap.size, 0, none⟩))) (w.alloc (.cells #[.int .i64 0, .int .i64 0, .int .i64 0, .int .i64 0, .slice none 0 0] 28 (0, 0))) := by
  unfold execOp
  rw [ho]
  kernel_rfl
set_option maxHeartbeats 4000000 in
theorem specSc_a (p n m k : Int) (AX : Option Addr) (c : Nat) (qs : List (List Nat)) (w : World) (hR : Rd w AX qs) (hlen : qs.length ≤ 1048576) (hx : schemeB p n m k qs = false) :
    Calls Try.prog 12 #[.agg #[.int .i64 p, .int .i64 n, .int .i64 m, .int .i64 k, .slice AX qs.length c]] w (ResS w (soZ (soCode p n m k qs) p) (soZ (soCode p n m k qs) n) (soZ (soCode p n m k qs) m) (soZ (soCode p n m k qs) k) (soL (soCode p n m k qs) (insA [] (qs.map (normQ p)))) (soCode p n m k qs)) := by
  have hB := Below.refl w.heap.size w
  have HC : Hid ((soCode p n m k qs) = 1) := Lib.hid (by unfold soCode; rw [hx]; rfl)
  have HX := Lib.hid hx
  clear hx
  go_enter Try.func12, Try.ntmps12
  go_upto_region 0 with (fail)
  refine wp_region_lit ?_
  refine ls_op rfl (fun K' hK' => ?_)
  have lz1 := hB.size
  refine wp_new (some 1) rfl (exec_box 28 _ rfl (#[.int .i64 p, .int .i64 n, .int .i64 m, .int .i64 k, .slice AX qs.length c]) rfl) (fun Wz2 nnz3 => ?_)
  have bz4 := nnz3.below (Below.refl _ _) (Nat.le_refl _)
  replace hB := below_after hB bz4
  have hz5 : At Wz2 w.heap.size (.cells #[.int .i64 p, .int .i64 n, .int .i64 m, .int .i64 k, .slice AX qs.length c] 28 (0, 0)) := nnz3.at_
  refine hK' _ _ ?_
  clear hK' K' nnz3 bz4
  go_frame
  refine ls_op rfl (fun K' hK' => ?_)
  have lz6 := hB.size
  have lz7 := hz5.lt
  refine wp_new (some 2) rfl (alSw_impl_Scheme rfl) (fun Wz8 nnz9 => ?_)
  have bz10 := nnz9.below (Below.refl _ _) (Nat.le_refl _)
  replace hB := below_after hB bz10
  replace hz5 := hz5.after bz10
  have hz11 : At Wz8 Wz2.heap.size (.cells #[.int .i64 0, .int .i64 0, .int .i64 0, .int .i64 0, .slice none 0 0] 28 (0, 0)) := nnz9.at_
  refine hK' _ _ ?_
  clear hK' K' nnz9 bz10
  go_frame
  refine ls_ex (some 3) (.int .i64 0) rfl rfl (exec_assign _ rfl (.int .i64 0) rfl) ?_
  go_frame
  refine wpList_nil ?_
  go_upto_region 1 with (fail)
  refine wp_region_lit ?_
  refine ls_ex (some 10) (.agg #[.int .i64 p, .int .i64 n, .int .i64 m, .int .i64 k, .slice AX qs.length c]) rfl rfl (exec_load_all 28 _ rfl w.heap.size rfl _ _ _ hz5 Try.underlying28 rfl 5 (by kernel_rfl) rfl) ?_
  go_frame
  refine ls_op rfl (fun K' hK' => ?_)
  have lz14 := hB.size
  have lz15 := hz5.lt
  have lz16 := hz11.lt
  refine wp_call1 (some 11) rfl 15 _ _ rfl (fun args w => by kernel_rfl) _ rfl _ (l01Is_c p n m k AX c qs _ (hR.keep hB) hlen) (fun e Wz12 h => ?_)
  obtain ⟨rfl, bz13⟩ := h
  replace hB := below_after hB bz13
  replace hz5 := hz5.after bz13
  replace hz11 := hz11.after bz13
  rw [HX.out]
  clear bz13
  refine ⟨_, rfl, ?_⟩
  refine hK' _ _ ?_
  clear hK' K'
  go_frame
  refine ls_ex (some 12) (.bool true) rfl rfl (exec_not _ _ rfl false rfl) ?_
  go_frame
  refine wpList_nil ?_
  go_upto_region 2 with (fail)
  refine wp_region_lit ?_
  refine ls_ex (some 13) (.agg #[.int .i64 0, .int .i64 0, .int .i64 0, .int .i64 0, .slice none 0 0]) rfl rfl (exec_build_nil 28 rfl _ (by kernel_rfl)) ?_
  go_frame
  refine ls_op rfl (fun K' hK' => ?_)
  refine wp_store_all 28 _ _ rfl rfl Wz2.heap.size rfl #[.int .i64 0, .int .i64 0, .int .i64 0, .int .i64 0, .slice none 0 0] rfl _ _ hz11 5 (by kernel_rfl) rfl rfl (one5 _ _ _ _ _ _ _) (fun Wz17 pz18 => ?_)
  replace hB := pz18.below hB (by omega)
  replace hz5 := pz18.other hz5 (by omega)
  replace hz11 : At Wz17 Wz2.heap.size (.cells #[.int .i64 0, .int .i64 0, .int .i64 0, .int .i64 0, .slice none 0 0] 28 (0, 0)) := pz18.at_
  refine hK' _ _ ?_
  clear hK' K' pz18
  refine ls_ex (some 3) (.int .i64 1) rfl rfl (exec_assign _ rfl (.int .i64 1) rfl) ?_
  go_frame
  refine wpList_nil ?_
  go_wp2_with fail
  refine bodyPost_ret (results_at2 rfl _ _ Wz2.heap.size _ _ _ rfl _ rfl hz11 Try.underlying28 rfl 5 (by kernel_rfl) rfl) rfl ?_
  unfold ResS soZ soL
  rw [HC.out]
  exact ⟨_, rfl, Own.nil _ _, hB⟩
set_option maxHeartbeats 6400000 in
theorem specSc_y (p n m k : Int) (AX : Option Addr) (c N : Nat) (qs : List (List Nat)) (w : World) (hR : Rd w AX qs) (hN : qs.length = N) (hlen : N ≤ 1048576) (hx : schemeB p n m k qs = true) :
    Calls Try.prog 12 #[.agg #[.int .i64 p, .int .i64 n, .int .i64 m, .int .i64 k, .slice AX N c]] w (ResS w (soZ (soCode p n m k qs) p) (soZ (soCode p n m k qs) n) (soZ (soCode p n m k qs) m) (soZ (soCode p n m k qs) k) (soL (soCode p n m k qs) (insA [] (qs.map (normQ p)))) (soCode p n m k qs)) := by
  have hB := Below.refl w.heap.size w
  have HC : Hid ((soCode p n m k qs) = 0) := Lib.hid (by unfold soCode; rw [hx]; rfl)
  have hl30 := schemeB_len hx
  have hpr := (sizesB_parts (schemeB_sizes hx)).1
  have hp5 := prime_le5 hpr
  have HLd : Hid (∀ q ∈ qs, LeadOk p q) := Lib.hid (scheme_lead hR.good hx)
  have HX := Lib.hid hx
  have HQb : Hid (∀ q ∈ qs.map (normQ p), Bytes 27 q) := Lib.hid (fun r hr => by obtain ⟨q, _, rfl⟩ := List.mem_map.1 hr; exact normQ_bytes q hpr)
  obtain ⟨N8, hN8⟩ : ∃ z9, (insA [] (qs.map (normQ p))).length = z9 := ⟨_, rfl⟩
  have HN8 := Lib.hid hN8
  rw [hN] at hl30
  have HNl := Lib.hid hN
  clear hN8 hx hN
  go_enter Try.func12, Try.ntmps12
  go_upto_region 0 with (fail)
  refine wp_region_lit ?_
  refine ls_op rfl (fun K' hK' => ?_)
  have lz1 := hB.size
  refine wp_new (some 1) rfl (exec_box 28 _ rfl (#[.int .i64 p, .int .i64 n, .int .i64 m, .int .i64 k, .slice AX N c]) rfl) (fun Wz2 nnz3 => ?_)
  have bz4 := nnz3.below (Below.refl _ _) (Nat.le_refl _)
  replace hB := below_after hB bz4
  have hz5 : At Wz2 w.heap.size (.cells #[.int .i64 p, .int .i64 n, .int .i64 m, .int .i64 k, .slice AX N c] 28 (0, 0)) := nnz3.at_
  refine hK' _ _ ?_
  clear hK' K' nnz3 bz4
  go_frame
  refine ls_op rfl (fun K' hK' => ?_)
  have lz6 := hB.size
  have lz7 := hz5.lt
  refine wp_new (some 2) rfl (alSw_impl_Scheme rfl) (fun Wz8 nnz9 => ?_)
  have bz10 := nnz9.below (Below.refl _ _) (Nat.le_refl _)
  replace hB := below_after hB bz10
  replace hz5 := hz5.after bz10
  have hz11 : At Wz8 Wz2.heap.size (.cells #[.int .i64 0, .int .i64 0, .int .i64 0, .int .i64 0, .slice none 0 0] 28 (0, 0)) := nnz9.at_
  refine hK' _ _ ?_
  clear hK' K' nnz9 bz10
  go_frame
  refine ls_ex (some 3) (.int .i64 0) rfl rfl (exec_assign _ rfl (.int .i64 0) rfl) ?_
  go_frame
  refine wpList_nil ?_
  go_upto_region 1 with (fail)
  refine wp_region_lit ?_
  refine ls_ex (some 10) (.agg #[.int .i64 p, .int .i64 n, .int .i64 m, .int .i64 k, .slice AX N c]) rfl rfl (exec_load_all 28 _ rfl w.heap.size rfl _ _ _ hz5 Try.underlying28 rfl 5 (by kernel_rfl) rfl) ?_
  go_frame
  refine ls_op rfl (fun K' hK' => ?_)
  have lz14 := hB.size
  have lz15 := hz5.lt
  have lz16 := hz11.lt
  refine wp_call1 (some 11) rfl 15 _ _ rfl (fun args w => by kernel_rfl) _ rfl _ (l01IsN_c p n m k AX c N qs _ HNl.out (hR.keep hB) hlen) (fun e Wz12 h => ?_)
  obtain ⟨rfl, bz13⟩ := h
  replace hB := below_after hB bz13
  replace hz5 := hz5.after bz13
  replace hz11 := hz11.after bz13
  rw [HX.out]
  clear bz13
  refine ⟨_, rfl, ?_⟩
  refine hK' _ _ ?_
  clear hK' K'
  go_frame
  refine ls_ex (some 12) (.bool false) rfl rfl (exec_not _ _ rfl true rfl) ?_
  go_frame
  refine wpList_nil ?_
  go_upto_region 3 with (fail)
  refine wp_region_y (zs := []) (S := fun w' => Below w.heap.size w w' ∧ At w' w.heap.size (.cells #[.int .i64 p, .int .i64 n, .int .i64 m, .int .i64 k, .slice AX N c] 28 (0, 0))) (S2 := fun w' => True) (by kernel_rfl) ?_
  change wpAnyY _ _ _ _ _ _ _ _ _ _ (World.drew _)
  generalize hwdz17 : World.drew _ = wdz17
  replace hB : Below w.heap.size w wdz17 := by rw [← hwdz17]; exact hB.drew
  replace hz5 : At wdz17 w.heap.size (.cells #[.int .i64 p, .int .i64 n, .int .i64 m, .int .i64 k, .slice AX N c] 28 (0, 0)) := by rw [← hwdz17]; exact hz5
  replace hz11 : At wdz17 Wz2.heap.size (.cells #[.int .i64 0, .int .i64 0, .int .i64 0, .int .i64 0, .slice none 0 0] 28 (0, 0)) := by rw [← hwdz17]; exact hz11
  clear hwdz17
  refine y_yield 0 (some 14) (.agg #[.int .i64 p, .int .i64 n, .int .i64 m, .int .i64 k, .slice AX N c]) rfl (by kernel_rfl) (by kernel_rfl) (by kernel_rfl) (fun _ _ _ h => h) rfl rfl ⟨hB, hz5⟩ (fun w' h' => exec_load_all 28 _ rfl w.heap.size rfl _ _ _ h'.2 Try.underlying28 rfl 5 (by kernel_rfl) rfl) ?_
  go_frame
  refine y_yield 2 (some 16) (.pointer (some ⟨w.heap.size, 0, none⟩)) rfl (by kernel_rfl) (by kernel_rfl) (by kernel_rfl) (fun _ _ _ h => h) rfl rfl ⟨hB, hz5⟩ (fun w' h' => exec_fieldAddr 28 _ 0 rfl _ (by kernel_rfl)) ?_
  go_frame
  refine y_yield 3 (some 17) (.int .i64 p) rfl (by kernel_rfl) (by kernel_rfl) (by kernel_rfl) (fun _ _ _ h => h) rfl rfl ⟨hB, hz5⟩ (fun w' h' => exec_load_one 2 _ rfl w.heap.size 0 rfl (.int .i64 p) _ Try.underlying2 rfl (h'.2.at_ 0)) ?_
  go_frame
  refine y_two 1 4 (by kernel_rfl) rfl rfl rfl rfl (fun K' hK' => ?_) (fun K' hK' => ?_)
  · have lz20 := hB.size
    have lz21 := hz5.lt
    have lz22 := hz11.lt
    have lo5 := hB.size
    refine wp_call1 (some 15) rfl 23 _ _ rfl (fun args w => by kernel_rfl) _ rfl _ (l01Empty_c p n m k _ _) (fun e Wz18 h => ?_)
    obtain ⟨v5, rfl, ho5, bz19⟩ := h
    replace hB := below_after hB bz19
    replace hz5 := hz5.after bz19
    replace hz11 := hz11.after bz19
    obtain ⟨A9, c9, rfl⟩ := Own.rdN2 ho5 (n := 0) rfl
    have ho := ho5.mono lo5
    clear ho5
    clear bz19
    refine ⟨_, rfl, ?_⟩
    refine hK' _ _ ⟨hB, hz5⟩ (fun _ => trivial) ?_
    clear hK' K'
    go_frame
    refine y_oper 4 (by kernel_rfl) rfl rfl (fun K' hK' => ?_)
    have lz23 := hB.size
    have lz24 := hz5.lt
    have lz25 := hz11.lt
    have naz30 := ho.away_new
    refine wp_new (some 4) rfl (alSw_impl_Scheme rfl) (fun Wz26 nnz27 => ?_)
    have bz28 := nnz27.below (Below.refl _ _) (Nat.le_refl _)
    replace hB := below_after hB bz28
    replace hz5 := hz5.after bz28
    replace hz11 := hz11.after bz28
    replace ho := ho.below bz28
    have hz29 : At Wz26 Wz18.heap.size (.cells #[.int .i64 0, .int .i64 0, .int .i64 0, .int .i64 0, .slice none 0 0] 28 (0, 0)) := nnz27.at_
    refine hK' _ _ ⟨hB, hz5⟩ (fun _ => trivial) ?_
    clear hK' K' nnz27 bz28
    go_frame
    refine y_oper 5 (by kernel_rfl) rfl rfl (fun K' hK' => ?_)
    refine wp_store_all 28 _ _ rfl rfl Wz18.heap.size rfl #[.int .i64 p, .int .i64 n, .int .i64 m, .int .i64 k, .slice A9 0 c9] rfl _ _ hz29 5 (by kernel_rfl) rfl rfl (one5 _ _ _ _ _ _ _) (fun Wz31 pz32 => ?_)
    replace hB := pz32.below hB (by omega)
    replace hz5 := pz32.other hz5 (by omega)
    replace hz11 := pz32.other hz11 (by omega)
    replace ho := ho.put pz32 naz30
    replace hz29 : At Wz31 Wz18.heap.size (.cells #[.int .i64 p, .int .i64 n, .int .i64 m, .int .i64 k, .slice A9 0 c9] 28 (0, 0)) := pz32.at_
    refine hK' _ _ ⟨hB, hz5⟩ (fun _ => trivial) ?_
    clear hK' K' pz32
    refine y_oper 6 (by kernel_rfl) rfl rfl (fun K' hK' => ?_)
    refine wp_exec (some 5) rfl (.int .i64 p) (exec_assign _ rfl (.int .i64 p) rfl) ?_
    refine hK' _ _ ⟨hB, hz5⟩ (fun _ => trivial) ?_
    clear hK' K'
    go_frame
    refine y_done (by kernel_rfl) ?_ _
    go_upto_region 4 with (fail)
    refine wp_region_lit ?_
    refine ls_ex (some 6) (.int .i64 0) rfl rfl (exec_assign _ rfl (.int .i64 0) rfl) ?_
    go_frame
    refine wpList_nil ?_
    go_wp2_with fail
    go_loopw [6] (fun s6 wr => ∃ (i c9 : Nat) (A9 : Option Addr), i ≤ N ∧ s6 = .int .i64 i ∧ Below w.heap.size w wr ∧ At wr w.heap.size (.cells #[.int .i64 p, .int .i64 n, .int .i64 m, .int .i64 k, .slice AX N c] 28 (0, 0)) ∧ At wr Wz2.heap.size (.cells #[.int .i64 0, .int .i64 0, .int .i64 0, .int .i64 0, .slice none 0 0] 28 (0, 0)) ∧ At wr Wz18.heap.size (.cells #[.int .i64 p, .int .i64 n, .int .i64 m, .int .i64 k, .slice A9 i c9] 28 (0, 0)) ∧ Own wr w.heap.size (.slice A9 i c9) ((qs.take i).map (normQ p))) (fun s6 _ => N - (intOf s6).toNat)
    case atStart => exact ⟨0, _, _, by omega, rfl, hB, hz5, hz11, hz29, ho⟩
    case round =>
      clear hB hz5 hz11 ho hz29
      obtain ⟨i, c9, A9, hle, rfl, hB, h1, h2, h4, ho⟩ := hrel
      by_cases hlt : i < N
      · obtain ⟨we, rfl⟩ : ∃ z : World, z = wr := ⟨_, rfl⟩
        obtain ⟨X, hX⟩ : ∃ z9, qs[i]? = some z9 := ⟨_, List.getElem?_eq_getElem (by rw [HNl.out]; exact hlt)⟩
        have hXm := List.mem_of_getElem? hX
        have HXb := Lib.hid (hR.good X hXm)
        obtain ⟨bX, oX, hAX⟩ := hR.addrX hXm
        have hld := HLd.out X hXm
        unfold LeadOk at hld
        have HX9 := Lib.hid hX
        have HAX := Lib.hid hAX
        obtain ⟨F0, hF0⟩ : ∃ z9, segm X 0 9 = z9 := ⟨_, rfl⟩
        obtain ⟨F1, hF1⟩ : ∃ z9, segm X 9 9 = z9 := ⟨_, rfl⟩
        obtain ⟨F2, hF2⟩ : ∃ z9, segm X 18 9 = z9 := ⟨_, rfl⟩
        have Hb0 : Hid (Bytes 9 F0) := Lib.hid (by rw [← hF0]; exact segm_bytes HXb.out (by omega))
        have Hb1 : Hid (Bytes 9 F1) := Lib.hid (by rw [← hF1]; exact segm_bytes HXb.out (by omega))
        have Hb2 : Hid (Bytes 9 F2) := Lib.hid (by rw [← hF2]; exact segm_bytes HXb.out (by omega))
        obtain ⟨NQ, hNQ⟩ : ∃ z9, normQ p X = z9 := ⟨_, rfl⟩
        have hnq : cat3 (scF p (inv p (lead F0)) F0) (scF p (inv p (lead F1)) F1) (scF p ((lead F0 : Int) * (lead F1 : Int)) F2) = NQ := by rw [← hNQ, ← hF0, ← hF1, ← hF2]; rfl
        rw [hF0, hF1] at hld
        obtain ⟨a, ha⟩ : ∃ z9 : Nat, lead F0 = z9 := ⟨_, rfl⟩
        obtain ⟨b, hb⟩ : ∃ z9 : Nat, lead F1 = z9 := ⟨_, rfl⟩
        rw [ha, hb] at hld hnq
        have HA0 := Lib.hid ha
        have HB0 := Lib.hid hb
        have HNQ := Lib.hid hnq
        obtain ⟨I0, hI0⟩ : ∃ z9, inv p (a : Int) = z9 := ⟨_, rfl⟩
        obtain ⟨I1, hI1⟩ : ∃ z9, inv p (b : Int) = z9 := ⟨_, rfl⟩
        have hr0 := inv_range hpr (a := (a : Int)) hld.1 hld.2.1
        have hr1 := inv_range hpr (a := (b : Int)) hld.2.2.1 hld.2.2.2
        rw [hI0] at hr0
        rw [hI1] at hr1
        rw [hI0, hI1] at HNQ
        have HI0 := Lib.hid hI0
        have HI1 := Lib.hid hI1
        obtain ⟨M, hM⟩ : ∃ z9, (a : Int) * (b : Int) = z9 := ⟨_, rfl⟩
        have hMb := m4s (a := (a : Int)) (b := (b : Int)) (by omega) (by omega)
        rw [hM] at hMb HNQ
        have HM : Hid (IntKind.i64.wrap ((a : Int) * (b : Int)) = M) := Lib.hid (by rw [hM]; exact IntWalk.i64_in _ (by omega))
        obtain ⟨R, hR9⟩ : ∃ z9, M % p = z9 := ⟨_, rfl⟩
        have hRb : 0 ≤ R ∧ R < p := by rw [← hR9]; exact ⟨Int.emod_nonneg _ (by omega), Int.emod_lt_of_pos _ (by omega)⟩
        have HRm : Hid (M.tmod p = R) := Lib.hid (by rw [Int.tmod_eq_emod_of_nonneg (by omega)]; exact hR9)
        have HSc : Hid (scF p R F2 = scF p M F2) := Lib.hid (by rw [← hR9]; exact scF_mod p M F2)
        have HNb : Hid (NQ.length = 27) := Lib.hid (by rw [← hNQ]; exact (normQ_bytes X hpr).len)
        have HT : Hid ((qs.take i).map (normQ p) ++ [NQ] = (qs.take (i + 1)).map (normQ p)) := Lib.hid (by rw [← hNQ, List.take_add_one, hX]; simp)
        have HLn : Hid (((qs.take (i + 1)).map (normQ p)).length = i + 1) := Lib.hid (by rw [List.length_map, List.length_take, HNl.out]; omega)
        have HLi : Hid (((qs.take i).map (normQ p)).length = i) := Lib.hid (by rw [List.length_map, List.length_take, HNl.out]; omega)
        have HF0 := Lib.hid hF0
        have HF1 := Lib.hid hF1
        have HF2 := Lib.hid hF2
        clear hX hXm hAX hF0 hF1 hF2 hNQ hnq ha hb hI0 hI1 hM hR9
        go_upto_region 5 with (fail)
        refine wp_region_lit ?_
        refine ls_ex (some 18) (.int .i64 i) rfl rfl (exec_move _ rfl (.int .i64 i) rfl) ?_
        go_frame
        refine ls_ex (some 19) (.pointer (some ⟨w.heap.size, 4, none⟩)) rfl rfl (exec_fieldAddr 28 _ 4 rfl _ (by kernel_rfl)) ?_
        go_frame
        refine ls_ex (some 20) (.slice AX N c) rfl rfl (exec_load_one 26 _ rfl w.heap.size 4 rfl (.slice AX N c) _ Try.underlying26 rfl (h1.at_ 4)) ?_
        go_frame
        refine ls_ex (some 21) (.int .i64 N) rfl rfl (exec_len _ 26 45 rfl AX N c rfl Try.underlying26) ?_
        go_frame
        refine ls_ex (some 22) (.bool true) rfl rfl (exec_lss _ _ _ _ rfl i N rfl rfl true (decide_eq_true (by omega))) ?_
        go_frame
        refine wpList_nil ?_
        go_upto_region 7 with (fail)
        refine wp_region_lit ?_
        refine ls_ex (some 25) (.pointer (some ⟨w.heap.size, 4, none⟩)) rfl rfl (exec_fieldAddr 28 _ 4 rfl _ (by kernel_rfl)) ?_
        go_frame
        refine ls_ex (some 26) (.slice AX N c) rfl rfl (exec_load_one 26 _ rfl w.heap.size 4 rfl (.slice AX N c) _ Try.underlying26 rfl (h1.at_ 4)) ?_
        go_frame
        refine ls_ex (some 27) (.int .i64 i) rfl rfl (exec_move _ rfl (.int .i64 i) rfl) ?_
        go_frame
        refine ls_ex (some 28) (.pointer (some ⟨bX, oX + i * 27, none⟩)) rfl rfl (exec_ixSA _ _ rfl HAX.out N c i rfl rfl hlt) ?_
        go_frame
        refine ls_ex (some 29) (.agg (u8s (X))) rfl rfl (exec_load_cells 45 _ rfl bX (oX + i * 27) rfl (X) _ 27 (Rd.c27x (hR.keep hB) HAX.out HX9.out) Try.underlying45 rfl (by kernel_rfl) (HXb.out.len)) ?_
        go_frame
        refine ls_op rfl (fun K' hK' => ?_)
        have lz33 := hB.size
        have lz34 := h1.lt
        have lz35 := h2.lt
        have lz36 := h4.lt
        have naz41 := ho.away_new
        refine wp_new (some 7) rfl (alSw_impl_Product rfl) (fun Wz37 nnz38 => ?_)
        have bz39 := nnz38.below (Below.refl _ _) (Nat.le_refl _)
        replace hB := below_after hB bz39
        replace h1 := h1.after bz39
        replace h2 := h2.after bz39
        replace h4 := h4.after bz39
        replace ho := ho.below bz39
        have hz40 : At Wz37 we.heap.size (.cells (u8s (List.replicate 27 0)) 45 (0, 0)) := nnz38.at_
        refine hK' _ _ ?_
        clear hK' K' nnz38 bz39
        go_frame
        refine ls_op rfl (fun K' hK' => ?_)
        refine wp_store_bytes 45 _ _ rfl rfl we.heap.size rfl (X) rfl _ _ hz40 27 (by kernel_rfl) HXb.out.len (by simp) (fun Wz42 pz43 => ?_)
        replace hB := pz43.below hB (by omega)
        replace h1 := pz43.other h1 (by omega)
        replace h2 := pz43.other h2 (by omega)
        replace h4 := pz43.other h4 (by omega)
        replace ho := ho.put pz43 naz41
        replace hz40 : At Wz42 we.heap.size (.cells (u8s (X)) 45 (0, 0)) := pz43.at_
        refine hK' _ _ ?_
        clear hK' K' pz43
        refine wpList_nil ?_
        go_upto_region 8 with (fail)
        refine wp_region_y (zs := []) (S := fun w' => Below w.heap.size w w' ∧ At w' we.heap.size (.cells (u8s (X)) 45 (0, 0))) (S2 := fun w' => True) (by kernel_rfl) ?_
        change wpAnyY _ _ _ _ _ _ _ _ _ _ (World.drew _)
        generalize hwdz44 : World.drew _ = wdz44
        replace hB : Below w.heap.size w wdz44 := by rw [← hwdz44]; exact hB.drew
        replace h1 : At wdz44 w.heap.size (.cells #[.int .i64 p, .int .i64 n, .int .i64 m, .int .i64 k, .slice AX N c] 28 (0, 0)) := by rw [← hwdz44]; exact h1
        replace h2 : At wdz44 Wz2.heap.size (.cells #[.int .i64 0, .int .i64 0, .int .i64 0, .int .i64 0, .slice none 0 0] 28 (0, 0)) := by rw [← hwdz44]; exact h2
        replace h4 : At wdz44 Wz18.heap.size (.cells #[.int .i64 p, .int .i64 n, .int .i64 m, .int .i64 k, .slice A9 i c9] 28 (0, 0)) := by rw [← hwdz44]; exact h4
        replace ho : Own wdz44 w.heap.size (.slice A9 i c9) ((qs.take i).map (normQ p)) := by rw [← hwdz44]; exact ho.drew
        replace hz40 : At wdz44 we.heap.size (.cells (u8s (X)) 45 (0, 0)) := by rw [← hwdz44]; exact hz40
        clear hwdz44
        refine y_yield 0 (some 30) (.pointer (some ⟨we.heap.size, 0, none⟩)) rfl (by kernel_rfl) (by kernel_rfl) (by kernel_rfl) (fun _ _ _ h => h) rfl rfl ⟨hB, hz40⟩ (fun w' h' => exec_fieldAddr 45 _ 0 rfl _ (by kernel_rfl)) ?_
        go_frame
        refine y_yield 1 (some 31) (.agg (u8s (F0))) rfl (by kernel_rfl) (by kernel_rfl) (by kernel_rfl) (fun _ _ _ h => h) rfl rfl ⟨hB, hz40⟩ (fun w' h' => exec_load_seg 43 _ rfl we.heap.size 0 rfl _ X _ 9 h'.2 Try.underlying43 rfl (by kernel_rfl) (by rw [HXb.out.len]; omega) F0 HF0.out) ?_
        go_frame
        refine y_yield 3 (some 33) (.pointer (some ⟨we.heap.size, 9, none⟩)) rfl (by kernel_rfl) (by kernel_rfl) (by kernel_rfl) (fun _ _ _ h => h) rfl rfl ⟨hB, hz40⟩ (fun w' h' => exec_fieldAddr 45 _ 1 rfl _ (by kernel_rfl)) ?_
        go_frame
        refine y_yield 4 (some 34) (.agg (u8s (F1))) rfl (by kernel_rfl) (by kernel_rfl) (by kernel_rfl) (fun _ _ _ h => h) rfl rfl ⟨hB, hz40⟩ (fun w' h' => exec_load_seg 43 _ rfl we.heap.size 9 rfl _ X _ 9 h'.2 Try.underlying43 rfl (by kernel_rfl) (by rw [HXb.out.len]; omega) F1 HF1.out) ?_
        go_frame
        refine y_oper 2 (by kernel_rfl) rfl rfl (fun K' hK' => ?_)
        have lz47 := hB.size
        have lz48 := h1.lt
        have lz49 := h2.lt
        have lz50 := h4.lt
        have lz51 := hz40.lt
        refine wp_call1 (some 32) rfl 24 _ _ rfl (fun args w => by kernel_rfl) _ rfl _ (l04First_c F0 Hb0.out _) (fun e Wz45 h => ?_)
        obtain ⟨rfl, bz46⟩ := h
        replace hB := below_after hB bz46
        replace h1 := h1.after bz46
        replace h2 := h2.after bz46
        replace h4 := h4.after bz46
        replace ho := ho.below bz46
        replace hz40 := hz40.after bz46
        rw [HA0.out]
        clear bz46
        refine ⟨_, rfl, ?_⟩
        refine hK' _ _ ⟨hB, hz40⟩ (fun _ => trivial) ?_
        clear hK' K'
        go_frame
        refine y_oper 5 (by kernel_rfl) rfl rfl (fun K' hK' => ?_)
        have lz54 := hB.size
        have lz55 := h1.lt
        have lz56 := h2.lt
        have lz57 := h4.lt
        have lz58 := hz40.lt
        refine wp_call1 (some 35) rfl 24 _ _ rfl (fun args w => by kernel_rfl) _ rfl _ (l04First_c F1 Hb1.out _) (fun e Wz52 h => ?_)
        obtain ⟨rfl, bz53⟩ := h
        replace hB := below_after hB bz53
        replace h1 := h1.after bz53
        replace h2 := h2.after bz53
        replace h4 := h4.after bz53
        replace ho := ho.below bz53
        replace hz40 := hz40.after bz53
        rw [HB0.out]
        clear bz53
        refine ⟨_, rfl, ?_⟩
        refine hK' _ _ ⟨hB, hz40⟩ (fun _ => trivial) ?_
        clear hK' K'
        go_frame
        refine y_oper 6 (by kernel_rfl) rfl rfl (fun K' hK' => ?_)
        refine wp_exec (some 8) rfl (.int .i64 (a : Nat)) (exec_assign _ rfl (.int .i64 (a : Nat)) rfl) ?_
        refine hK' _ _ ⟨hB, hz40⟩ (fun _ => trivial) ?_
        clear hK' K'
        go_frame
        refine y_oper 7 (by kernel_rfl) rfl rfl (fun K' hK' => ?_)
        refine wp_exec (some 9) rfl (.int .i64 (b : Nat)) (exec_assign _ rfl (.int .i64 (b : Nat)) rfl) ?_
        refine hK' _ _ ⟨hB, hz40⟩ (fun _ => trivial) ?_
        clear hK' K'
        go_frame
        refine y_done (by kernel_rfl) ?_ _
        go_upto_region 9 with (fail)
        refine wp_region_y (zs := [29]) (S := fun w' => Below w.heap.size w w' ∧ At w' we.heap.size (.cells (u8s (X)) 45 (0, 0))) (S2 := fun w' => At w' Wz18.heap.size (.cells #[.int .i64 p, .int .i64 n, .int .i64 m, .int .i64 k, .slice A9 i c9] 28 (0, 0))) (by kernel_rfl) ?_
        change wpAnyY _ _ _ _ _ _ _ _ _ _ (World.drew _)
        generalize hwdz59 : World.drew _ = wdz59
        replace hB : Below w.heap.size w wdz59 := by rw [← hwdz59]; exact hB.drew
        replace h1 : At wdz59 w.heap.size (.cells #[.int .i64 p, .int .i64 n, .int .i64 m, .int .i64 k, .slice AX N c] 28 (0, 0)) := by rw [← hwdz59]; exact h1
        replace h2 : At wdz59 Wz2.heap.size (.cells #[.int .i64 0, .int .i64 0, .int .i64 0, .int .i64 0, .slice none 0 0] 28 (0, 0)) := by rw [← hwdz59]; exact h2
        replace h4 : At wdz59 Wz18.heap.size (.cells #[.int .i64 p, .int .i64 n, .int .i64 m, .int .i64 k, .slice A9 i c9] 28 (0, 0)) := by rw [← hwdz59]; exact h4
        replace ho : Own wdz59 w.heap.size (.slice A9 i c9) ((qs.take i).map (normQ p)) := by rw [← hwdz59]; exact ho.drew
        replace hz40 : At wdz59 we.heap.size (.cells (u8s (X)) 45 (0, 0)) := by rw [← hwdz59]; exact hz40
        clear hwdz59
        refine y_yield 0 (some 36) (.pointer (some ⟨Wz18.heap.size, 4, none⟩)) rfl (by kernel_rfl) (by kernel_rfl) (by kernel_rfl) (fun _ _ _ h => h) rfl rfl ⟨hB, hz40⟩ (fun w' h' => exec_fieldAddr 28 _ 4 rfl _ (by kernel_rfl)) ?_
        go_frame
        refine y_yield3 1 (some 37) (.slice A9 i c9) rfl 30 (by kernel_rfl) (by kernel_rfl) (by kernel_rfl) (by kernel_rfl) (by kernel_rfl) (fun _ _ _ h => h) rfl rfl ⟨hB, hz40⟩ h4 (fun w' h' h2' => exec_load_one 26 _ rfl Wz18.heap.size 4 rfl (.slice A9 i c9) _ Try.underlying26 rfl (h2'.at_ 4)) ?_
        go_frame
        refine y_yield 2 (some 38) (.int .i64 p) rfl (by kernel_rfl) (by kernel_rfl) (by kernel_rfl) (fun _ _ _ h => h) rfl rfl ⟨hB, hz40⟩ (fun w' h' => exec_move _ rfl (.int .i64 p) rfl) ?_
        go_frame
        refine y_yield 3 (some 39) (.pointer (some ⟨we.heap.size, 0, none⟩)) rfl (by kernel_rfl) (by kernel_rfl) (by kernel_rfl) (fun _ _ _ h => h) rfl rfl ⟨hB, hz40⟩ (fun w' h' => exec_fieldAddr 45 _ 0 rfl _ (by kernel_rfl)) ?_
        go_frame
        refine y_yield 4 (some 40) (.agg (u8s (F0))) rfl (by kernel_rfl) (by kernel_rfl) (by kernel_rfl) (fun _ _ _ h => h) rfl rfl ⟨hB, hz40⟩ (fun w' h' => exec_load_seg 43 _ rfl we.heap.size 0 rfl _ X _ 9 h'.2 Try.underlying43 rfl (by kernel_rfl) (by rw [HXb.out.len]; omega) F0 HF0.out) ?_
        go_frame
        refine y_yield 5 (some 41) (.int .i64 p) rfl (by kernel_rfl) (by kernel_rfl) (by kernel_rfl) (fun _ _ _ h => h) rfl rfl ⟨hB, hz40⟩ (fun w' h' => exec_move _ rfl (.int .i64 p) rfl) ?_
        go_frame
        refine y_yield 6 (some 42) (.int .i64 (a : Nat)) rfl (by kernel_rfl) (by kernel_rfl) (by kernel_rfl) (fun _ _ _ h => h) rfl rfl ⟨hB, hz40⟩ (fun w' h' => exec_move _ rfl (.int .i64 (a : Nat)) rfl) ?_
        go_frame
        refine y_yield 9 (some 45) (.int .i64 p) rfl (by kernel_rfl) (by kernel_rfl) (by kernel_rfl) (fun _ _ _ h => h) rfl rfl ⟨hB, hz40⟩ (fun w' h' => exec_move _ rfl (.int .i64 p) rfl) ?_
        go_frame
        refine y_yield 10 (some 46) (.pointer (some ⟨we.heap.size, 9, none⟩)) rfl (by kernel_rfl) (by kernel_rfl) (by kernel_rfl) (fun _ _ _ h => h) rfl rfl ⟨hB, hz40⟩ (fun w' h' => exec_fieldAddr 45 _ 1 rfl _ (by kernel_rfl)) ?_
        go_frame
        refine y_yield 11 (some 47) (.agg (u8s (F1))) rfl (by kernel_rfl) (by kernel_rfl) (by kernel_rfl) (fun _ _ _ h => h) rfl rfl ⟨hB, hz40⟩ (fun w' h' => exec_load_seg 43 _ rfl we.heap.size 9 rfl _ X _ 9 h'.2 Try.underlying43 rfl (by kernel_rfl) (by rw [HXb.out.len]; omega) F1 HF1.out) ?_
        go_frame
        refine y_yield 12 (some 48) (.int .i64 p) rfl (by kernel_rfl) (by kernel_rfl) (by kernel_rfl) (fun _ _ _ h => h) rfl rfl ⟨hB, hz40⟩ (fun w' h' => exec_move _ rfl (.int .i64 p) rfl) ?_
        go_frame
        refine y_yield 13 (some 49) (.int .i64 (b : Nat)) rfl (by kernel_rfl) (by kernel_rfl) (by kernel_rfl) (fun _ _ _ h => h) rfl rfl ⟨hB, hz40⟩ (fun w' h' => exec_move _ rfl (.int .i64 (b : Nat)) rfl) ?_
        go_frame
        refine y_yield 16 (some 52) (.int .i64 p) rfl (by kernel_rfl) (by kernel_rfl) (by kernel_rfl) (fun _ _ _ h => h) rfl rfl ⟨hB, hz40⟩ (fun w' h' => exec_move _ rfl (.int .i64 p) rfl) ?_
        go_frame
        refine y_yield 17 (some 53) (.pointer (some ⟨we.heap.size, 18, none⟩)) rfl (by kernel_rfl) (by kernel_rfl) (by kernel_rfl) (fun _ _ _ h => h) rfl rfl ⟨hB, hz40⟩ (fun w' h' => exec_fieldAddr 45 _ 2 rfl _ (by kernel_rfl)) ?_
        go_frame
        refine y_yield 18 (some 54) (.agg (u8s (F2))) rfl (by kernel_rfl) (by kernel_rfl) (by kernel_rfl) (fun _ _ _ h => h) rfl rfl ⟨hB, hz40⟩ (fun w' h' => exec_load_seg 43 _ rfl we.heap.size 18 rfl _ X _ 9 h'.2 Try.underlying43 rfl (by kernel_rfl) (by rw [HXb.out.len]; omega) F2 HF2.out) ?_
        go_frame
        refine y_yield 19 (some 55) (.int .i64 (a : Nat)) rfl (by kernel_rfl) (by kernel_rfl) (by kernel_rfl) (fun _ _ _ h => h) rfl rfl ⟨hB, hz40⟩ (fun w' h' => exec_move _ rfl (.int .i64 (a : Nat)) rfl) ?_
        go_frame
        refine y_yield 20 (some 56) (.int .i64 (b : Nat)) rfl (by kernel_rfl) (by kernel_rfl) (by kernel_rfl) (fun _ _ _ h => h) rfl rfl ⟨hB, hz40⟩ (fun w' h' => exec_move _ rfl (.int .i64 (b : Nat)) rfl) ?_
        go_frame
        refine y_yield 21 (some 57) (.int .i64 M) rfl (by kernel_rfl) (by kernel_rfl) (by kernel_rfl) (fun _ _ _ h => h) rfl rfl ⟨hB, hz40⟩ (fun w' h' => exec_mul _ _ _ _ rfl (a : Nat) (b : Nat) M rfl rfl HM.out) ?_
        go_frame
        refine y_yield 22 (some 58) (.int .i64 p) rfl (by kernel_rfl) (by kernel_rfl) (by kernel_rfl) (fun _ _ _ h => h) rfl rfl ⟨hB, hz40⟩ (fun w' h' => exec_move _ rfl (.int .i64 p) rfl) ?_
        go_frame
        refine y_yield 23 (some 59) (.int .i64 R) rfl (by kernel_rfl) (by kernel_rfl) (by kernel_rfl) (fun _ _ _ h => h) rfl rfl ⟨hB, hz40⟩ (fun w' h' => exec_rem _ _ _ _ rfl M p R rfl rfl (by omega) HRm.out) ?_
        go_frame
        refine y_oper 7 (by kernel_rfl) rfl rfl (fun K' hK' => ?_)
        have lz62 := hB.size
        have lz63 := h1.lt
        have lz64 := h2.lt
        have lz65 := h4.lt
        have lz66 := hz40.lt
        refine wp_call2 (some 43) rfl 26 _ _ _ rfl (fun args w => by kernel_rfl) _ _ rfl rfl _ (l01Inverse_c p (a : Nat) _ hpr hld.1 hld.2.1) (fun e Wz60 h => ?_)
        obtain ⟨rfl, rfl⟩ := h
        rw [HI0.out]
        refine ⟨_, rfl, ?_⟩
        refine hK' _ _ ⟨hB, hz40⟩ (fun _ => h4) ?_
        clear hK' K'
        go_frame
        refine y_oper 8 (by kernel_rfl) rfl rfl (fun K' hK' => ?_)
        have lz69 := hB.size
        have lz70 := h1.lt
        have lz71 := h2.lt
        have lz72 := h4.lt
        have lz73 := hz40.lt
        refine wp_call3 (some 44) rfl 25 _ _ _ _ rfl (fun args w => by kernel_rfl) _ _ _ rfl rfl rfl _ (l01Scale_c p I0 F0 Hb0.out _ (by omega) (by omega) (by omega) (by omega)) (fun e Wz67 h => ?_)
        obtain ⟨rfl, bz68⟩ := h
        replace hB := below_after hB bz68
        replace h1 := h1.after bz68
        replace h2 := h2.after bz68
        replace h4 := h4.after bz68
        replace ho := ho.below bz68
        replace hz40 := hz40.after bz68
        clear bz68
        refine ⟨_, rfl, ?_⟩
        refine hK' _ _ ⟨hB, hz40⟩ (fun _ => h4) ?_
        clear hK' K'
        go_frame
        refine y_oper 14 (by kernel_rfl) rfl rfl (fun K' hK' => ?_)
        have lz76 := hB.size
        have lz77 := h1.lt
        have lz78 := h2.lt
        have lz79 := h4.lt
        have lz80 := hz40.lt
        refine wp_call2 (some 50) rfl 26 _ _ _ rfl (fun args w => by kernel_rfl) _ _ rfl rfl _ (l01Inverse_c p (b : Nat) _ hpr hld.2.2.1 hld.2.2.2) (fun e Wz74 h => ?_)
        obtain ⟨rfl, rfl⟩ := h
        rw [HI1.out]
        refine ⟨_, rfl, ?_⟩
        refine hK' _ _ ⟨hB, hz40⟩ (fun _ => h4) ?_
        clear hK' K'
        go_frame
        refine y_oper 15 (by kernel_rfl) rfl rfl (fun K' hK' => ?_)
        have lz83 := hB.size
        have lz84 := h1.lt
        have lz85 := h2.lt
        have lz86 := h4.lt
        have lz87 := hz40.lt
        refine wp_call3 (some 51) rfl 25 _ _ _ _ rfl (fun args w => by kernel_rfl) _ _ _ rfl rfl rfl _ (l01Scale_c p I1 F1 Hb1.out _ (by omega) (by omega) (by omega) (by omega)) (fun e Wz81 h => ?_)
        obtain ⟨rfl, bz82⟩ := h
        replace hB := below_after hB bz82
        replace h1 := h1.after bz82
        replace h2 := h2.after bz82
        replace h4 := h4.after bz82
        replace ho := ho.below bz82
        replace hz40 := hz40.after bz82
        clear bz82
        refine ⟨_, rfl, ?_⟩
        refine hK' _ _ ⟨hB, hz40⟩ (fun _ => h4) ?_
        clear hK' K'
        go_frame
        refine y_oper 24 (by kernel_rfl) rfl rfl (fun K' hK' => ?_)
        have lz90 := hB.size
        have lz91 := h1.lt
        have lz92 := h2.lt
        have lz93 := h4.lt
        have lz94 := hz40.lt
        refine wp_call3 (some 60) rfl 25 _ _ _ _ rfl (fun args w => by kernel_rfl) _ _ _ rfl rfl rfl _ (l01Scale_c p R F2 Hb2.out _ (by omega) (by omega) (by omega) (by omega)) (fun e Wz88 h => ?_)
        obtain ⟨rfl, bz89⟩ := h
        replace hB := below_after hB bz89
        replace h1 := h1.after bz89
        replace h2 := h2.after bz89
        replace h4 := h4.after bz89
        replace ho := ho.below bz89
        replace hz40 := hz40.after bz89
        rw [HSc.out]
        clear bz89
        refine ⟨_, rfl, ?_⟩
        refine hK' _ _ ⟨hB, hz40⟩ (fun _ => h4) ?_
        clear hK' K'
        go_frame
        refine y_yield 25 (some 61) (.agg (u8s (NQ))) rfl (by kernel_rfl) (by kernel_rfl) (by kernel_rfl) (fun _ _ _ h => h) rfl rfl ⟨hB, hz40⟩ (fun w' h' => exec_prodN _ _ _ rfl (scF p I0 F0) (scF p I1 F1) (scF p M F2) rfl rfl rfl (adF_len _ _ _ _) (adF_len _ _ _ _) (adF_len _ _ _ _) HNQ.out) ?_
        go_frame
        refine y_oper 26 (by kernel_rfl) rfl rfl (fun K' hK' => ?_)
        have lz95 := hB.size
        have lz96 := h1.lt
        have lz97 := h2.lt
        have lz98 := h4.lt
        have lz99 := hz40.lt
        refine wp_slice1 (some 62) rfl 26 45 _ rfl (NQ) rfl Try.underlying26 infoProd HNb.out (fun Wz100 nnz101 => ?_)
        have bz102 := nnz101.below (Below.refl _ _) (Nat.le_refl _)
        replace hB := below_after hB bz102
        replace h1 := h1.after bz102
        replace h2 := h2.after bz102
        replace h4 := h4.after bz102
        replace ho := ho.below bz102
        replace hz40 := hz40.after bz102
        have hqz103 : At Wz100 Wz88.heap.size (.cells (u8s (NQ)) 45 (0, 0)) := nnz101.at_
        refine hK' _ _ ⟨hB, hz40⟩ (fun _ => h4) ?_
        clear hK' K' nnz101 bz102
        go_frame
        refine y_oper 27 (by kernel_rfl) rfl rfl (fun K' hK' => ?_)
        have lz107 := hB.size
        have lz108 := h1.lt
        have lz109 := h2.lt
        have lz110 := h4.lt
        have lz111 := hz40.lt
        have lz112 := hqz103.lt
        refine wp_appP (some 63) rfl _ _ rfl (.slice A9 i c9) ((qs.take i).map (normQ p)) (NQ) rfl ho Wz88.heap.size rfl hqz103 HNb.out (by rw [HLi.out]; omega) (by omega) (fun v6 Wz104 noz106 grz105 => ?_)
        rw [HT.out] at noz106
        obtain ⟨A6, c6, rfl⟩ := Own.rdN2 noz106 (n := i + 1) HLn.out
        replace hB := below_grown hB grz105 ho (by omega)
        replace h1 := h1.grown grz105 (ho.off h1 (by decide))
        replace h2 := h2.grown grz105 (ho.off h2 (by decide))
        replace h4 := h4.grown grz105 (ho.off h4 (by decide))
        replace hz40 := hz40.grown grz105 naz41
        replace ho := noz106
        refine hK' _ _ ⟨hB, hz40⟩ (fun _ => h4) ?_
        clear hK' K' grz105 hqz103
        go_frame
        refine y_yield 28 (some 64) (.pointer (some ⟨Wz18.heap.size, 4, none⟩)) rfl (by kernel_rfl) (by kernel_rfl) (by kernel_rfl) (fun _ _ _ h => h) rfl rfl ⟨hB, hz40⟩ (fun w' h' => exec_fieldAddr 28 _ 4 rfl _ (by kernel_rfl)) ?_
        go_frame
        refine y_oper 29 (by kernel_rfl) rfl rfl (fun K' hK' => ?_)
        refine wp_store_one 26 _ _ rfl rfl Wz18.heap.size 4 rfl (.slice A6 (i + 1) c6) rfl rfl rfl _ _ h4 (by kernel_rfl) (by simp) (fun Wz113 pz114 => ?_)
        replace hB := pz114.below hB (by omega)
        replace h1 := pz114.other h1 (by omega)
        replace h2 := pz114.other h2 (by omega)
        replace ho := ho.put pz114 (ho.off h4 (by decide))
        replace hz40 := pz114.other hz40 (by omega)
        replace h4 : At Wz113 Wz18.heap.size (.cells #[.int .i64 p, .int .i64 n, .int .i64 m, .int .i64 k, .slice A6 (i + 1) c6] 28 (0, 0)) := pz114.at_
        refine hK' _ _ ⟨hB, hz40⟩ (fun h => absurd (by decide) h) ?_
        clear hK' K' pz114
        refine y_done (by kernel_rfl) ?_ _
        go_upto_region 6 with (fail)
        refine wp_region_lit ?_
        refine ls_ex (some 23) (.int .i64 i) rfl rfl (exec_move _ rfl (.int .i64 i) rfl) ?_
        go_frame
        refine ls_ex (some 24) (.int .i64 (i + 1)) rfl rfl (exec_add _ _ _ _ rfl i 1 (i + 1) rfl rfl (IntWalk.i64_in _ (by omega))) ?_
        go_frame
        refine ls_ex (some 6) (.int .i64 (i + 1)) rfl rfl (exec_assign _ rfl (.int .i64 (i + 1)) rfl) ?_
        go_frame
        refine wpList_nil ?_
        go_wp2_with fail
        go_roundw
        case rel => exact ⟨i + 1, c6, A6, by omega, by go_num, hB, h1, h2, h4, ho⟩
        case measure => simp [intOf] <;> omega
      · have HAz : Hid ((qs.take i).map (normQ p) = qs.map (normQ p)) := Lib.hid (by rw [List.take_of_length_le (by rw [HNl.out]; omega)])
        have hiN : i = N := by omega
        rw [HAz.out] at ho
        rw [hiN] at ho h4
        go_upto_region 5 with (fail)
        refine wp_region_lit ?_
        refine ls_ex (some 18) (.int .i64 i) rfl rfl (exec_move _ rfl (.int .i64 i) rfl) ?_
        go_frame
        refine ls_ex (some 19) (.pointer (some ⟨w.heap.size, 4, none⟩)) rfl rfl (exec_fieldAddr 28 _ 4 rfl _ (by kernel_rfl)) ?_
        go_frame
        refine ls_ex (some 20) (.slice AX N c) rfl rfl (exec_load_one 26 _ rfl w.heap.size 4 rfl (.slice AX N c) _ Try.underlying26 rfl (h1.at_ 4)) ?_
        go_frame
        refine ls_ex (some 21) (.int .i64 N) rfl rfl (exec_len _ 26 45 rfl AX N c rfl Try.underlying26) ?_
        go_frame
        refine ls_ex (some 22) (.bool false) rfl rfl (exec_lss _ _ _ _ rfl i N rfl rfl false (decide_eq_false (by omega))) ?_
        go_frame
        refine wpList_nil ?_
        go_upto_region 10 with (fail)
        refine wp_region_lit ?_
        refine ls_ex (some 65) (.agg #[.int .i64 p, .int .i64 n, .int .i64 m, .int .i64 k, .slice A9 N c9]) rfl rfl (exec_load_all 28 _ rfl Wz18.heap.size rfl _ _ _ h4 Try.underlying28 rfl 5 (by kernel_rfl) rfl) ?_
        go_frame
        refine ls_op rfl (fun K' hK' => ?_)
        have lz117 := hB.size
        have lz118 := h1.lt
        have lz119 := h2.lt
        have lz120 := h4.lt
        have lo9 := hB.size
        refine wp_call1 (some 66) rfl 16 _ _ rfl (fun args w => by kernel_rfl) _ rfl _ (l01Sorted_c p n m k A9 c9 N (qs.map (normQ p)) _ (ho.rd' HQb.out) (by rw [List.length_map]; exact HNl.out) (by omega)) (fun e Wz115 h => ?_)
        obtain ⟨v8, rfl, ho8, bz116⟩ := h
        replace hB := below_after hB bz116
        replace h1 := h1.after bz116
        replace h2 := h2.after bz116
        replace h4 := h4.after bz116
        replace ho := ho.below bz116
        obtain ⟨A8, c8, rfl⟩ := Own.rdN2 ho8 (n := N8) HN8.out
        clear ho
        have ho := ho8
        clear ho8
        clear bz116
        refine ⟨_, rfl, ?_⟩
        refine hK' _ _ ?_
        clear hK' K'
        go_frame
        refine ls_op rfl (fun K' hK' => ?_)
        refine wp_store_all 28 _ _ rfl rfl Wz2.heap.size rfl #[.int .i64 p, .int .i64 n, .int .i64 m, .int .i64 k, .slice A8 N8 c8] rfl _ _ h2 5 (by kernel_rfl) rfl rfl (one5 _ _ _ _ _ _ _) (fun Wz121 pz122 => ?_)
        replace hB := pz122.below hB (by omega)
        replace h1 := pz122.other h1 (by omega)
        replace h4 := pz122.other h4 (by omega)
        replace ho := ho.put pz122 (ho.off h2 (by decide))
        replace h2 : At Wz121 Wz2.heap.size (.cells #[.int .i64 p, .int .i64 n, .int .i64 m, .int .i64 k, .slice A8 N8 c8] 28 (0, 0)) := pz122.at_
        refine hK' _ _ ?_
        clear hK' K' pz122
        refine ls_ex (some 3) (.int .i64 0) rfl rfl (exec_assign _ rfl (.int .i64 0) rfl) ?_
        go_frame
        refine wpList_nil ?_
        go_wp2_with fail
        refine bodyPost_ret (results_at2 rfl _ _ Wz2.heap.size _ _ _ rfl _ rfl h2 Try.underlying28 rfl 5 (by kernel_rfl) rfl) rfl ?_
        unfold ResS soZ soL
        rw [HC.out]
        exact ⟨_, rfl, ho.mono (by omega), hB⟩
  · have lz123 := hB.size
    have lz124 := hz5.lt
    have lz125 := hz11.lt
    refine wp_new (some 4) rfl (alSw_impl_Scheme rfl) (fun Wz126 nnz127 => ?_)
    have bz128 := nnz127.below (Below.refl _ _) (Nat.le_refl _)
    replace hB := below_after hB bz128
    replace hz5 := hz5.after bz128
    replace hz11 := hz11.after bz128
    have hz129 : At Wz126 wdz17.heap.size (.cells #[.int .i64 0, .int .i64 0, .int .i64 0, .int .i64 0, .slice none 0 0] 28 (0, 0)) := nnz127.at_
    refine hK' _ _ ⟨hB, hz5⟩ (fun _ => trivial) ?_
    clear hK' K' nnz127 bz128
    go_frame
    refine y_oper 1 (by kernel_rfl) rfl rfl (fun K' hK' => ?_)
    have lz132 := hB.size
    have lz133 := hz5.lt
    have lz134 := hz11.lt
    have lz135 := hz129.lt
    have lo5 := hB.size
    refine wp_call1 (some 15) rfl 23 _ _ rfl (fun args w => by kernel_rfl) _ rfl _ (l01Empty_c p n m k _ _) (fun e Wz130 h => ?_)
    obtain ⟨v5, rfl, ho5, bz131⟩ := h
    replace hB := below_after hB bz131
    replace hz5 := hz5.after bz131
    replace hz11 := hz11.after bz131
    replace hz129 := hz129.after bz131
    obtain ⟨A9, c9, rfl⟩ := Own.rdN2 ho5 (n := 0) rfl
    have ho := ho5.mono lo5
    clear ho5
    clear bz131
    refine ⟨_, rfl, ?_⟩
    refine hK' _ _ ⟨hB, hz5⟩ (fun _ => trivial) ?_
    clear hK' K'
    go_frame
    refine y_oper 5 (by kernel_rfl) rfl rfl (fun K' hK' => ?_)
    refine wp_store_all 28 _ _ rfl rfl wdz17.heap.size rfl #[.int .i64 p, .int .i64 n, .int .i64 m, .int .i64 k, .slice A9 0 c9] rfl _ _ hz129 5 (by kernel_rfl) rfl rfl (one5 _ _ _ _ _ _ _) (fun Wz136 pz137 => ?_)
    replace hB := pz137.below hB (by omega)
    replace hz5 := pz137.other hz5 (by omega)
    replace hz11 := pz137.other hz11 (by omega)
    replace ho := ho.put pz137 (ho.off hz129 (by decide))
    replace hz129 : At Wz136 wdz17.heap.size (.cells #[.int .i64 p, .int .i64 n, .int .i64 m, .int .i64 k, .slice A9 0 c9] 28 (0, 0)) := pz137.at_
    refine hK' _ _ ⟨hB, hz5⟩ (fun _ => trivial) ?_
    clear hK' K' pz137
    refine y_oper 6 (by kernel_rfl) rfl rfl (fun K' hK' => ?_)
    refine wp_exec (some 5) rfl (.int .i64 p) (exec_assign _ rfl (.int .i64 p) rfl) ?_
    refine hK' _ _ ⟨hB, hz5⟩ (fun _ => trivial) ?_
    clear hK' K'
    go_frame
    refine y_done (by kernel_rfl) ?_ _
    go_upto_region 4 with (fail)
    refine wp_region_lit ?_
    refine ls_ex (some 6) (.int .i64 0) rfl rfl (exec_assign _ rfl (.int .i64 0) rfl) ?_
    go_frame
    refine wpList_nil ?_
    go_wp2_with fail
    go_loopw [6] (fun s6 wr => ∃ (i c9 : Nat) (A9 : Option Addr), i ≤ N ∧ s6 = .int .i64 i ∧ Below w.heap.size w wr ∧ At wr w.heap.size (.cells #[.int .i64 p, .int .i64 n, .int .i64 m, .int .i64 k, .slice AX N c] 28 (0, 0)) ∧ At wr Wz2.heap.size (.cells #[.int .i64 0, .int .i64 0, .int .i64 0, .int .i64 0, .slice none 0 0] 28 (0, 0)) ∧ At wr wdz17.heap.size (.cells #[.int .i64 p, .int .i64 n, .int .i64 m, .int .i64 k, .slice A9 i c9] 28 (0, 0)) ∧ Own wr w.heap.size (.slice A9 i c9) ((qs.take i).map (normQ p))) (fun s6 _ => N - (intOf s6).toNat)
    case atStart => exact ⟨0, _, _, by omega, rfl, hB, hz5, hz11, hz129, ho⟩
    case round =>
      clear hB hz5 hz11 hz129 ho
      obtain ⟨i, c9, A9, hle, rfl, hB, h1, h2, h4, ho⟩ := hrel
      by_cases hlt : i < N
      · obtain ⟨we, rfl⟩ : ∃ z : World, z = wr := ⟨_, rfl⟩
        obtain ⟨X, hX⟩ : ∃ z9, qs[i]? = some z9 := ⟨_, List.getElem?_eq_getElem (by rw [HNl.out]; exact hlt)⟩
        have hXm := List.mem_of_getElem? hX
        have HXb := Lib.hid (hR.good X hXm)
        obtain ⟨bX, oX, hAX⟩ := hR.addrX hXm
        have hld := HLd.out X hXm
        unfold LeadOk at hld
        have HX9 := Lib.hid hX
        have HAX := Lib.hid hAX
        obtain ⟨F0, hF0⟩ : ∃ z9, segm X 0 9 = z9 := ⟨_, rfl⟩
        obtain ⟨F1, hF1⟩ : ∃ z9, segm X 9 9 = z9 := ⟨_, rfl⟩
        obtain ⟨F2, hF2⟩ : ∃ z9, segm X 18 9 = z9 := ⟨_, rfl⟩
        have Hb0 : Hid (Bytes 9 F0) := Lib.hid (by rw [← hF0]; exact segm_bytes HXb.out (by omega))
        have Hb1 : Hid (Bytes 9 F1) := Lib.hid (by rw [← hF1]; exact segm_bytes HXb.out (by omega))
        have Hb2 : Hid (Bytes 9 F2) := Lib.hid (by rw [← hF2]; exact segm_bytes HXb.out (by omega))
        obtain ⟨NQ, hNQ⟩ : ∃ z9, normQ p X = z9 := ⟨_, rfl⟩
        have hnq : cat3 (scF p (inv p (lead F0)) F0) (scF p (inv p (lead F1)) F1) (scF p ((lead F0 : Int) * (lead F1 : Int)) F2) = NQ := by rw [← hNQ, ← hF0, ← hF1, ← hF2]; rfl
        rw [hF0, hF1] at hld
        obtain ⟨a, ha⟩ : ∃ z9 : Nat, lead F0 = z9 := ⟨_, rfl⟩
        obtain ⟨b, hb⟩ : ∃ z9 : Nat, lead F1 = z9 := ⟨_, rfl⟩
        rw [ha, hb] at hld hnq
        have HA0 := Lib.hid ha
        have HB0 := Lib.hid hb
        have HNQ := Lib.hid hnq
        obtain ⟨I0, hI0⟩ : ∃ z9, inv p (a : Int) = z9 := ⟨_, rfl⟩
        obtain ⟨I1, hI1⟩ : ∃ z9, inv p (b : Int) = z9 := ⟨_, rfl⟩
        have hr0 := inv_range hpr (a := (a : Int)) hld.1 hld.2.1
        have hr1 := inv_range hpr (a := (b : Int)) hld.2.2.1 hld.2.2.2
        rw [hI0] at hr0
        rw [hI1] at hr1
        rw [hI0, hI1] at HNQ
        have HI0 := Lib.hid hI0
        have HI1 := Lib.hid hI1
        obtain ⟨M, hM⟩ : ∃ z9, (a : Int) * (b : Int) = z9 := ⟨_, rfl⟩
        have hMb := m4s (a := (a : Int)) (b := (b : Int)) (by omega) (by omega)
        rw [hM] at hMb HNQ
        have HM : Hid (IntKind.i64.wrap ((a : Int) * (b : Int)) = M) := Lib.hid (by rw [hM]; exact IntWalk.i64_in _ (by omega))
        obtain ⟨R, hR9⟩ : ∃ z9, M % p = z9 := ⟨_, rfl⟩
        have hRb : 0 ≤ R ∧ R < p := by rw [← hR9]; exact ⟨Int.emod_nonneg _ (by omega), Int.emod_lt_of_pos _ (by omega)⟩
        have HRm : Hid (M.tmod p = R) := Lib.hid (by rw [Int.tmod_eq_emod_of_nonneg (by omega)]; exact hR9)
        have HSc : Hid (scF p R F2 = scF p M F2) := Lib.hid (by rw [← hR9]; exact scF_mod p M F2)
        have HNb : Hid (NQ.length = 27) := Lib.hid (by rw [← hNQ]; exact (normQ_bytes X hpr).len)
        have HT : Hid ((qs.take i).map (normQ p) ++ [NQ] = (qs.take (i + 1)).map (normQ p)) := Lib.hid (by rw [← hNQ, List.take_add_one, hX]; simp)
        have HLn : Hid (((qs.take (i + 1)).map (normQ p)).length = i + 1) := Lib.hid (by rw [List.length_map, List.length_take, HNl.out]; omega)
        have HLi : Hid (((qs.take i).map (normQ p)).length = i) := Lib.hid (by rw [List.length_map, List.length_take, HNl.out]; omega)
        have HF0 := Lib.hid hF0
        have HF1 := Lib.hid hF1
        have HF2 := Lib.hid hF2
        clear hX hXm hAX hF0 hF1 hF2 hNQ hnq ha hb hI0 hI1 hM hR9
        go_upto_region 5 with (fail)
        refine wp_region_lit ?_
        refine ls_ex (some 18) (.int .i64 i) rfl rfl (exec_move _ rfl (.int .i64 i) rfl) ?_
        go_frame
        refine ls_ex (some 19) (.pointer (some ⟨w.heap.size, 4, none⟩)) rfl rfl (exec_fieldAddr 28 _ 4 rfl _ (by kernel_rfl)) ?_
        go_frame
        refine ls_ex (some 20) (.slice AX N c) rfl rfl (exec_load_one 26 _ rfl w.heap.size 4 rfl (.slice AX N c) _ Try.underlying26 rfl (h1.at_ 4)) ?_
        go_frame
        refine ls_ex (some 21) (.int .i64 N) rfl rfl (exec_len _ 26 45 rfl AX N c rfl Try.underlying26) ?_
        go_frame
        refine ls_ex (some 22) (.bool true) rfl rfl (exec_lss _ _ _ _ rfl i N rfl rfl true (decide_eq_true (by omega))) ?_
        go_frame
        refine wpList_nil ?_
        go_upto_region 7 with (fail)
        refine wp_region_lit ?_
        refine ls_ex (some 25) (.pointer (some ⟨w.heap.size, 4, none⟩)) rfl rfl (exec_fieldAddr 28 _ 4 rfl _ (by kernel_rfl)) ?_
        go_frame
        refine ls_ex (some 26) (.slice AX N c) rfl rfl (exec_load_one 26 _ rfl w.heap.size 4 rfl (.slice AX N c) _ Try.underlying26 rfl (h1.at_ 4)) ?_
        go_frame
        refine ls_ex (some 27) (.int .i64 i) rfl rfl (exec_move _ rfl (.int .i64 i) rfl) ?_
        go_frame
        refine ls_ex (some 28) (.pointer (some ⟨bX, oX + i * 27, none⟩)) rfl rfl (exec_ixSA _ _ rfl HAX.out N c i rfl rfl hlt) ?_
        go_frame
        refine ls_ex (some 29) (.agg (u8s (X))) rfl rfl (exec_load_cells 45 _ rfl bX (oX + i * 27) rfl (X) _ 27 (Rd.c27x (hR.keep hB) HAX.out HX9.out) Try.underlying45 rfl (by kernel_rfl) (HXb.out.len)) ?_
        go_frame
        refine ls_op rfl (fun K' hK' => ?_)
        have lz138 := hB.size
        have lz139 := h1.lt
        have lz140 := h2.lt
        have lz141 := h4.lt
        have naz146 := ho.away_new
        refine wp_new (some 7) rfl (alSw_impl_Product rfl) (fun Wz142 nnz143 => ?_)
        have bz144 := nnz143.below (Below.refl _ _) (Nat.le_refl _)
        replace hB := below_after hB bz144
        replace h1 := h1.after bz144
        replace h2 := h2.after bz144
        replace h4 := h4.after bz144
        replace ho := ho.below bz144
        have hz145 : At Wz142 we.heap.size (.cells (u8s (List.replicate 27 0)) 45 (0, 0)) := nnz143.at_
        refine hK' _ _ ?_
        clear hK' K' nnz143 bz144
        go_frame
        refine ls_op rfl (fun K' hK' => ?_)
        refine wp_store_bytes 45 _ _ rfl rfl we.heap.size rfl (X) rfl _ _ hz145 27 (by kernel_rfl) HXb.out.len (by simp) (fun Wz147 pz148 => ?_)
        replace hB := pz148.below hB (by omega)
        replace h1 := pz148.other h1 (by omega)
        replace h2 := pz148.other h2 (by omega)
        replace h4 := pz148.other h4 (by omega)
        replace ho := ho.put pz148 naz146
        replace hz145 : At Wz147 we.heap.size (.cells (u8s (X)) 45 (0, 0)) := pz148.at_
        refine hK' _ _ ?_
        clear hK' K' pz148
        refine wpList_nil ?_
        go_upto_region 8 with (fail)
        refine wp_region_y (zs := []) (S := fun w' => Below w.heap.size w w' ∧ At w' we.heap.size (.cells (u8s (X)) 45 (0, 0))) (S2 := fun w' => True) (by kernel_rfl) ?_
        change wpAnyY _ _ _ _ _ _ _ _ _ _ (World.drew _)
        generalize hwdz149 : World.drew _ = wdz149
        replace hB : Below w.heap.size w wdz149 := by rw [← hwdz149]; exact hB.drew
        replace h1 : At wdz149 w.heap.size (.cells #[.int .i64 p, .int .i64 n, .int .i64 m, .int .i64 k, .slice AX N c] 28 (0, 0)) := by rw [← hwdz149]; exact h1
        replace h2 : At wdz149 Wz2.heap.size (.cells #[.int .i64 0, .int .i64 0, .int .i64 0, .int .i64 0, .slice none 0 0] 28 (0, 0)) := by rw [← hwdz149]; exact h2
        replace h4 : At wdz149 wdz17.heap.size (.cells #[.int .i64 p, .int .i64 n, .int .i64 m, .int .i64 k, .slice A9 i c9] 28 (0, 0)) := by rw [← hwdz149]; exact h4
        replace ho : Own wdz149 w.heap.size (.slice A9 i c9) ((qs.take i).map (normQ p)) := by rw [← hwdz149]; exact ho.drew
        replace hz145 : At wdz149 we.heap.size (.cells (u8s (X)) 45 (0, 0)) := by rw [← hwdz149]; exact hz145
        clear hwdz149
        refine y_yield 0 (some 30) (.pointer (some ⟨we.heap.size, 0, none⟩)) rfl (by kernel_rfl) (by kernel_rfl) (by kernel_rfl) (fun _ _ _ h => h) rfl rfl ⟨hB, hz145⟩ (fun w' h' => exec_fieldAddr 45 _ 0 rfl _ (by kernel_rfl)) ?_
        go_frame
        refine y_yield 1 (some 31) (.agg (u8s (F0))) rfl (by kernel_rfl) (by kernel_rfl) (by kernel_rfl) (fun _ _ _ h => h) rfl rfl ⟨hB, hz145⟩ (fun w' h' => exec_load_seg 43 _ rfl we.heap.size 0 rfl _ X _ 9 h'.2 Try.underlying43 rfl (by kernel_rfl) (by rw [HXb.out.len]; omega) F0 HF0.out) ?_
        go_frame
        refine y_yield 3 (some 33) (.pointer (some ⟨we.heap.size, 9, none⟩)) rfl (by kernel_rfl) (by kernel_rfl) (by kernel_rfl) (fun _ _ _ h => h) rfl rfl ⟨hB, hz145⟩ (fun w' h' => exec_fieldAddr 45 _ 1 rfl _ (by kernel_rfl)) ?_
        go_frame
        refine y_yield 4 (some 34) (.agg (u8s (F1))) rfl (by kernel_rfl) (by kernel_rfl) (by kernel_rfl) (fun _ _ _ h => h) rfl rfl ⟨hB, hz145⟩ (fun w' h' => exec_load_seg 43 _ rfl we.heap.size 9 rfl _ X _ 9 h'.2 Try.underlying43 rfl (by kernel_rfl) (by rw [HXb.out.len]; omega) F1 HF1.out) ?_
        go_frame
        refine y_oper 2 (by kernel_rfl) rfl rfl (fun K' hK' => ?_)
        have lz152 := hB.size
        have lz153 := h1.lt
        have lz154 := h2.lt
        have lz155 := h4.lt
        have lz156 := hz145.lt
        refine wp_call1 (some 32) rfl 24 _ _ rfl (fun args w => by kernel_rfl) _ rfl _ (l04First_c F0 Hb0.out _) (fun e Wz150 h => ?_)
        obtain ⟨rfl, bz151⟩ := h
        replace hB := below_after hB bz151
        replace h1 := h1.after bz151
        replace h2 := h2.after bz151
        replace h4 := h4.after bz151
        replace ho := ho.below bz151
        replace hz145 := hz145.after bz151
        rw [HA0.out]
        clear bz151
        refine ⟨_, rfl, ?_⟩
        refine hK' _ _ ⟨hB, hz145⟩ (fun _ => trivial) ?_
        clear hK' K'
        go_frame
        refine y_oper 5 (by kernel_rfl) rfl rfl (fun K' hK' => ?_)
        have lz159 := hB.size
        have lz160 := h1.lt
        have lz161 := h2.lt
        have lz162 := h4.lt
        have lz163 := hz145.lt
        refine wp_call1 (some 35) rfl 24 _ _ rfl (fun args w => by kernel_rfl) _ rfl _ (l04First_c F1 Hb1.out _) (fun e Wz157 h => ?_)
        obtain ⟨rfl, bz158⟩ := h
        replace hB := below_after hB bz158
        replace h1 := h1.after bz158
        replace h2 := h2.after bz158
        replace h4 := h4.after bz158
        replace ho := ho.below bz158
        replace hz145 := hz145.after bz158
        rw [HB0.out]
        clear bz158
        refine ⟨_, rfl, ?_⟩
        refine hK' _ _ ⟨hB, hz145⟩ (fun _ => trivial) ?_
        clear hK' K'
        go_frame
        refine y_oper 6 (by kernel_rfl) rfl rfl (fun K' hK' => ?_)
        refine wp_exec (some 8) rfl (.int .i64 (a : Nat)) (exec_assign _ rfl (.int .i64 (a : Nat)) rfl) ?_
        refine hK' _ _ ⟨hB, hz145⟩ (fun _ => trivial) ?_
        clear hK' K'
        go_frame
        refine y_oper 7 (by kernel_rfl) rfl rfl (fun K' hK' => ?_)
        refine wp_exec (some 9) rfl (.int .i64 (b : Nat)) (exec_assign _ rfl (.int .i64 (b : Nat)) rfl) ?_
        refine hK' _ _ ⟨hB, hz145⟩ (fun _ => trivial) ?_
        clear hK' K'
        go_frame
        refine y_done (by kernel_rfl) ?_ _
        go_upto_region 9 with (fail)
        refine wp_region_y (zs := [29]) (S := fun w' => Below w.heap.size w w' ∧ At w' we.heap.size (.cells (u8s (X)) 45 (0, 0))) (S2 := fun w' => At w' wdz17.heap.size (.cells #[.int .i64 p, .int .i64 n, .int .i64 m, .int .i64 k, .slice A9 i c9] 28 (0, 0))) (by kernel_rfl) ?_
        change wpAnyY _ _ _ _ _ _ _ _ _ _ (World.drew _)
        generalize hwdz164 : World.drew _ = wdz164
        replace hB : Below w.heap.size w wdz164 := by rw [← hwdz164]; exact hB.drew
        replace h1 : At wdz164 w.heap.size (.cells #[.int .i64 p, .int .i64 n, .int .i64 m, .int .i64 k, .slice AX N c] 28 (0, 0)) := by rw [← hwdz164]; exact h1
        replace h2 : At wdz164 Wz2.heap.size (.cells #[.int .i64 0, .int .i64 0, .int .i64 0, .int .i64 0, .slice none 0 0] 28 (0, 0)) := by rw [← hwdz164]; exact h2
        replace h4 : At wdz164 wdz17.heap.size (.cells #[.int .i64 p, .int .i64 n, .int .i64 m, .int .i64 k, .slice A9 i c9] 28 (0, 0)) := by rw [← hwdz164]; exact h4
        replace ho : Own wdz164 w.heap.size (.slice A9 i c9) ((qs.take i).map (normQ p)) := by rw [← hwdz164]; exact ho.drew
        replace hz145 : At wdz164 we.heap.size (.cells (u8s (X)) 45 (0, 0)) := by rw [← hwdz164]; exact hz145
        clear hwdz164
        refine y_yield 0 (some 36) (.pointer (some ⟨wdz17.heap.size, 4, none⟩)) rfl (by kernel_rfl) (by kernel_rfl) (by kernel_rfl) (fun _ _ _ h => h) rfl rfl ⟨hB, hz145⟩ (fun w' h' => exec_fieldAddr 28 _ 4 rfl _ (by kernel_rfl)) ?_
        go_frame
        refine y_yield3 1 (some 37) (.slice A9 i c9) rfl 30 (by kernel_rfl) (by kernel_rfl) (by kernel_rfl) (by kernel_rfl) (by kernel_rfl) (fun _ _ _ h => h) rfl rfl ⟨hB, hz145⟩ h4 (fun w' h' h2' => exec_load_one 26 _ rfl wdz17.heap.size 4 rfl (.slice A9 i c9) _ Try.underlying26 rfl (h2'.at_ 4)) ?_
        go_frame
        refine y_yield 2 (some 38) (.int .i64 p) rfl (by kernel_rfl) (by kernel_rfl) (by kernel_rfl) (fun _ _ _ h => h) rfl rfl ⟨hB, hz145⟩ (fun w' h' => exec_move _ rfl (.int .i64 p) rfl) ?_
        go_frame
        refine y_yield 3 (some 39) (.pointer (some ⟨we.heap.size, 0, none⟩)) rfl (by kernel_rfl) (by kernel_rfl) (by kernel_rfl) (fun _ _ _ h => h) rfl rfl ⟨hB, hz145⟩ (fun w' h' => exec_fieldAddr 45 _ 0 rfl _ (by kernel_rfl)) ?_
        go_frame
        refine y_yield 4 (some 40) (.agg (u8s (F0))) rfl (by kernel_rfl) (by kernel_rfl) (by kernel_rfl) (fun _ _ _ h => h) rfl rfl ⟨hB, hz145⟩ (fun w' h' => exec_load_seg 43 _ rfl we.heap.size 0 rfl _ X _ 9 h'.2 Try.underlying43 rfl (by kernel_rfl) (by rw [HXb.out.len]; omega) F0 HF0.out) ?_
        go_frame
        refine y_yield 5 (some 41) (.int .i64 p) rfl (by kernel_rfl) (by kernel_rfl) (by kernel_rfl) (fun _ _ _ h => h) rfl rfl ⟨hB, hz145⟩ (fun w' h' => exec_move _ rfl (.int .i64 p) rfl) ?_
        go_frame
        refine y_yield 6 (some 42) (.int .i64 (a : Nat)) rfl (by kernel_rfl) (by kernel_rfl) (by kernel_rfl) (fun _ _ _ h => h) rfl rfl ⟨hB, hz145⟩ (fun w' h' => exec_move _ rfl (.int .i64 (a : Nat)) rfl) ?_
        go_frame
        refine y_yield 9 (some 45) (.int .i64 p) rfl (by kernel_rfl) (by kernel_rfl) (by kernel_rfl) (fun _ _ _ h => h) rfl rfl ⟨hB, hz145⟩ (fun w' h' => exec_move _ rfl (.int .i64 p) rfl) ?_
        go_frame
        refine y_yield 10 (some 46) (.pointer (some ⟨we.heap.size, 9, none⟩)) rfl (by kernel_rfl) (by kernel_rfl) (by kernel_rfl) (fun _ _ _ h => h) rfl rfl ⟨hB, hz145⟩ (fun w' h' => exec_fieldAddr 45 _ 1 rfl _ (by kernel_rfl)) ?_
        go_frame
        refine y_yield 11 (some 47) (.agg (u8s (F1))) rfl (by kernel_rfl) (by kernel_rfl) (by kernel_rfl) (fun _ _ _ h => h) rfl rfl ⟨hB, hz145⟩ (fun w' h' => exec_load_seg 43 _ rfl we.heap.size 9 rfl _ X _ 9 h'.2 Try.underlying43 rfl (by kernel_rfl) (by rw [HXb.out.len]; omega) F1 HF1.out) ?_
        go_frame
        refine y_yield 12 (some 48) (.int .i64 p) rfl (by kernel_rfl) (by kernel_rfl) (by kernel_rfl) (fun _ _ _ h => h) rfl rfl ⟨hB, hz145⟩ (fun w' h' => exec_move _ rfl (.int .i64 p) rfl) ?_
        go_frame
        refine y_yield 13 (some 49) (.int .i64 (b : Nat)) rfl (by kernel_rfl) (by kernel_rfl) (by kernel_rfl) (fun _ _ _ h => h) rfl rfl ⟨hB, hz145⟩ (fun w' h' => exec_move _ rfl (.int .i64 (b : Nat)) rfl) ?_
        go_frame
        refine y_yield 16 (some 52) (.int .i64 p) rfl (by kernel_rfl) (by kernel_rfl) (by kernel_rfl) (fun _ _ _ h => h) rfl rfl ⟨hB, hz145⟩ (fun w' h' => exec_move _ rfl (.int .i64 p) rfl) ?_
        go_frame
        refine y_yield 17 (some 53) (.pointer (some ⟨we.heap.size, 18, none⟩)) rfl (by kernel_rfl) (by kernel_rfl) (by kernel_rfl) (fun _ _ _ h => h) rfl rfl ⟨hB, hz145⟩ (fun w' h' => exec_fieldAddr 45 _ 2 rfl _ (by kernel_rfl)) ?_
        go_frame
        refine y_yield 18 (some 54) (.agg (u8s (F2))) rfl (by kernel_rfl) (by kernel_rfl) (by kernel_rfl) (fun _ _ _ h => h) rfl rfl ⟨hB, hz145⟩ (fun w' h' => exec_load_seg 43 _ rfl we.heap.size 18 rfl _ X _ 9 h'.2 Try.underlying43 rfl (by kernel_rfl) (by rw [HXb.out.len]; omega) F2 HF2.out) ?_
        go_frame
        refine y_yield 19 (some 55) (.int .i64 (a : Nat)) rfl (by kernel_rfl) (by kernel_rfl) (by kernel_rfl) (fun _ _ _ h => h) rfl rfl ⟨hB, hz145⟩ (fun w' h' => exec_move _ rfl (.int .i64 (a : Nat)) rfl) ?_
        go_frame
        refine y_yield 20 (some 56) (.int .i64 (b : Nat)) rfl (by kernel_rfl) (by kernel_rfl) (by kernel_rfl) (fun _ _ _ h => h) rfl rfl ⟨hB, hz145⟩ (fun w' h' => exec_move _ rfl (.int .i64 (b : Nat)) rfl) ?_
        go_frame
        refine y_yield 21 (some 57) (.int .i64 M) rfl (by kernel_rfl) (by kernel_rfl) (by kernel_rfl) (fun _ _ _ h => h) rfl rfl ⟨hB, hz145⟩ (fun w' h' => exec_mul _ _ _ _ rfl (a : Nat) (b : Nat) M rfl rfl HM.out) ?_
        go_frame
        refine y_yield 22 (some 58) (.int .i64 p) rfl (by kernel_rfl) (by kernel_rfl) (by kernel_rfl) (fun _ _ _ h => h) rfl rfl ⟨hB, hz145⟩ (fun w' h' => exec_move _ rfl (.int .i64 p) rfl) ?_
        go_frame
        refine y_yield 23 (some 59) (.int .i64 R) rfl (by kernel_rfl) (by kernel_rfl) (by kernel_rfl) (fun _ _ _ h => h) rfl rfl ⟨hB, hz145⟩ (fun w' h' => exec_rem _ _ _ _ rfl M p R rfl rfl (by omega) HRm.out) ?_
        go_frame
        refine y_oper 7 (by kernel_rfl) rfl rfl (fun K' hK' => ?_)
        have lz167 := hB.size
        have lz168 := h1.lt
        have lz169 := h2.lt
        have lz170 := h4.lt
        have lz171 := hz145.lt
        refine wp_call2 (some 43) rfl 26 _ _ _ rfl (fun args w => by kernel_rfl) _ _ rfl rfl _ (l01Inverse_c p (a : Nat) _ hpr hld.1 hld.2.1) (fun e Wz165 h => ?_)
        obtain ⟨rfl, rfl⟩ := h
        rw [HI0.out]
        refine ⟨_, rfl, ?_⟩
        refine hK' _ _ ⟨hB, hz145⟩ (fun _ => h4) ?_
        clear hK' K'
        go_frame
        refine y_oper 8 (by kernel_rfl) rfl rfl (fun K' hK' => ?_)
        have lz174 := hB.size
        have lz175 := h1.lt
        have lz176 := h2.lt
        have lz177 := h4.lt
        have lz178 := hz145.lt
        refine wp_call3 (some 44) rfl 25 _ _ _ _ rfl (fun args w => by kernel_rfl) _ _ _ rfl rfl rfl _ (l01Scale_c p I0 F0 Hb0.out _ (by omega) (by omega) (by omega) (by omega)) (fun e Wz172 h => ?_)
        obtain ⟨rfl, bz173⟩ := h
        replace hB := below_after hB bz173
        replace h1 := h1.after bz173
        replace h2 := h2.after bz173
        replace h4 := h4.after bz173
        replace ho := ho.below bz173
        replace hz145 := hz145.after bz173
        clear bz173
        refine ⟨_, rfl, ?_⟩
        refine hK' _ _ ⟨hB, hz145⟩ (fun _ => h4) ?_
        clear hK' K'
        go_frame
        refine y_oper 14 (by kernel_rfl) rfl rfl (fun K' hK' => ?_)
        have lz181 := hB.size
        have lz182 := h1.lt
        have lz183 := h2.lt
        have lz184 := h4.lt
        have lz185 := hz145.lt
        refine wp_call2 (some 50) rfl 26 _ _ _ rfl (fun args w => by kernel_rfl) _ _ rfl rfl _ (l01Inverse_c p (b : Nat) _ hpr hld.2.2.1 hld.2.2.2) (fun e Wz179 h => ?_)
        obtain ⟨rfl, rfl⟩ := h
        rw [HI1.out]
        refine ⟨_, rfl, ?_⟩
        refine hK' _ _ ⟨hB, hz145⟩ (fun _ => h4) ?_
        clear hK' K'
        go_frame
        refine y_oper 15 (by kernel_rfl) rfl rfl (fun K' hK' => ?_)
        have lz188 := hB.size
        have lz189 := h1.lt
        have lz190 := h2.lt
        have lz191 := h4.lt
        have lz192 := hz145.lt
        refine wp_call3 (some 51) rfl 25 _ _ _ _ rfl (fun args w => by kernel_rfl) _ _ _ rfl rfl rfl _ (l01Scale_c p I1 F1 Hb1.out _ (by omega) (by omega) (by omega) (by omega)) (fun e Wz186 h => ?_)
        obtain ⟨rfl, bz187⟩ := h
        replace hB := below_after hB bz187
        replace h1 := h1.after bz187
        replace h2 := h2.after bz187
        replace h4 := h4.after bz187
        replace ho := ho.below bz187
        replace hz145 := hz145.after bz187
        clear bz187
        refine ⟨_, rfl, ?_⟩
        refine hK' _ _ ⟨hB, hz145⟩ (fun _ => h4) ?_
        clear hK' K'
        go_frame
        refine y_oper 24 (by kernel_rfl) rfl rfl (fun K' hK' => ?_)
        have lz195 := hB.size
        have lz196 := h1.lt
        have lz197 := h2.lt
        have lz198 := h4.lt
        have lz199 := hz145.lt
        refine wp_call3 (some 60) rfl 25 _ _ _ _ rfl (fun args w => by kernel_rfl) _ _ _ rfl rfl rfl _ (l01Scale_c p R F2 Hb2.out _ (by omega) (by omega) (by omega) (by omega)) (fun e Wz193 h => ?_)
        obtain ⟨rfl, bz194⟩ := h
        replace hB := below_after hB bz194
        replace h1 := h1.after bz194
        replace h2 := h2.after bz194
        replace h4 := h4.after bz194
        replace ho := ho.below bz194
        replace hz145 := hz145.after bz194
        rw [HSc.out]
        clear bz194
        refine ⟨_, rfl, ?_⟩
        refine hK' _ _ ⟨hB, hz145⟩ (fun _ => h4) ?_
        clear hK' K'
        go_frame
        refine y_yield 25 (some 61) (.agg (u8s (NQ))) rfl (by kernel_rfl) (by kernel_rfl) (by kernel_rfl) (fun _ _ _ h => h) rfl rfl ⟨hB, hz145⟩ (fun w' h' => exec_prodN _ _ _ rfl (scF p I0 F0) (scF p I1 F1) (scF p M F2) rfl rfl rfl (adF_len _ _ _ _) (adF_len _ _ _ _) (adF_len _ _ _ _) HNQ.out) ?_
        go_frame
        refine y_oper 26 (by kernel_rfl) rfl rfl (fun K' hK' => ?_)
        have lz200 := hB.size
        have lz201 := h1.lt
        have lz202 := h2.lt
        have lz203 := h4.lt
        have lz204 := hz145.lt
        refine wp_slice1 (some 62) rfl 26 45 _ rfl (NQ) rfl Try.underlying26 infoProd HNb.out (fun Wz205 nnz206 => ?_)
        have bz207 := nnz206.below (Below.refl _ _) (Nat.le_refl _)
        replace hB := below_after hB bz207
        replace h1 := h1.after bz207
        replace h2 := h2.after bz207
        replace h4 := h4.after bz207
        replace ho := ho.below bz207
        replace hz145 := hz145.after bz207
        have hqz208 : At Wz205 Wz193.heap.size (.cells (u8s (NQ)) 45 (0, 0)) := nnz206.at_
        refine hK' _ _ ⟨hB, hz145⟩ (fun _ => h4) ?_
        clear hK' K' nnz206 bz207
        go_frame
        refine y_oper 27 (by kernel_rfl) rfl rfl (fun K' hK' => ?_)
        have lz212 := hB.size
        have lz213 := h1.lt
        have lz214 := h2.lt
        have lz215 := h4.lt
        have lz216 := hz145.lt
        have lz217 := hqz208.lt
        refine wp_appP (some 63) rfl _ _ rfl (.slice A9 i c9) ((qs.take i).map (normQ p)) (NQ) rfl ho Wz193.heap.size rfl hqz208 HNb.out (by rw [HLi.out]; omega) (by omega) (fun v6 Wz209 noz211 grz210 => ?_)
        rw [HT.out] at noz211
        obtain ⟨A6, c6, rfl⟩ := Own.rdN2 noz211 (n := i + 1) HLn.out
        replace hB := below_grown hB grz210 ho (by omega)
        replace h1 := h1.grown grz210 (ho.off h1 (by decide))
        replace h2 := h2.grown grz210 (ho.off h2 (by decide))
        replace h4 := h4.grown grz210 (ho.off h4 (by decide))
        replace hz145 := hz145.grown grz210 naz146
        replace ho := noz211
        refine hK' _ _ ⟨hB, hz145⟩ (fun _ => h4) ?_
        clear hK' K' grz210 hqz208
        go_frame
        refine y_yield 28 (some 64) (.pointer (some ⟨wdz17.heap.size, 4, none⟩)) rfl (by kernel_rfl) (by kernel_rfl) (by kernel_rfl) (fun _ _ _ h => h) rfl rfl ⟨hB, hz145⟩ (fun w' h' => exec_fieldAddr 28 _ 4 rfl _ (by kernel_rfl)) ?_
        go_frame
        refine y_oper 29 (by kernel_rfl) rfl rfl (fun K' hK' => ?_)
        refine wp_store_one 26 _ _ rfl rfl wdz17.heap.size 4 rfl (.slice A6 (i + 1) c6) rfl rfl rfl _ _ h4 (by kernel_rfl) (by simp) (fun Wz218 pz219 => ?_)
        replace hB := pz219.below hB (by omega)
        replace h1 := pz219.other h1 (by omega)
        replace h2 := pz219.other h2 (by omega)
        replace ho := ho.put pz219 (ho.off h4 (by decide))
        replace hz145 := pz219.other hz145 (by omega)
        replace h4 : At Wz218 wdz17.heap.size (.cells #[.int .i64 p, .int .i64 n, .int .i64 m, .int .i64 k, .slice A6 (i + 1) c6] 28 (0, 0)) := pz219.at_
        refine hK' _ _ ⟨hB, hz145⟩ (fun h => absurd (by decide) h) ?_
        clear hK' K' pz219
        refine y_done (by kernel_rfl) ?_ _
        go_upto_region 6 with (fail)
        refine wp_region_lit ?_
        refine ls_ex (some 23) (.int .i64 i) rfl rfl (exec_move _ rfl (.int .i64 i) rfl) ?_
        go_frame
        refine ls_ex (some 24) (.int .i64 (i + 1)) rfl rfl (exec_add _ _ _ _ rfl i 1 (i + 1) rfl rfl (IntWalk.i64_in _ (by omega))) ?_
        go_frame
        refine ls_ex (some 6) (.int .i64 (i + 1)) rfl rfl (exec_assign _ rfl (.int .i64 (i + 1)) rfl) ?_
        go_frame
        refine wpList_nil ?_
        go_wp2_with fail
        go_roundw
        case rel => exact ⟨i + 1, c6, A6, by omega, by go_num, hB, h1, h2, h4, ho⟩
        case measure => simp [intOf] <;> omega
      · have HAz : Hid ((qs.take i).map (normQ p) = qs.map (normQ p)) := Lib.hid (by rw [List.take_of_length_le (by rw [HNl.out]; omega)])
        have hiN : i = N := by omega
        rw [HAz.out] at ho
        rw [hiN] at ho h4
        go_upto_region 5 with (fail)
        refine wp_region_lit ?_
        refine ls_ex (some 18) (.int .i64 i) rfl rfl (exec_move _ rfl (.int .i64 i) rfl) ?_
        go_frame
        refine ls_ex (some 19) (.pointer (some ⟨w.heap.size, 4, none⟩)) rfl rfl (exec_fieldAddr 28 _ 4 rfl _ (by kernel_rfl)) ?_
        go_frame
        refine ls_ex (some 20) (.slice AX N c) rfl rfl (exec_load_one 26 _ rfl w.heap.size 4 rfl (.slice AX N c) _ Try.underlying26 rfl (h1.at_ 4)) ?_
        go_frame
        refine ls_ex (some 21) (.int .i64 N) rfl rfl (exec_len _ 26 45 rfl AX N c rfl Try.underlying26) ?_
        go_frame
        refine ls_ex (some 22) (.bool false) rfl rfl (exec_lss _ _ _ _ rfl i N rfl rfl false (decide_eq_false (by omega))) ?_
        go_frame
        refine wpList_nil ?_
        go_upto_region 10 with (fail)
        refine wp_region_lit ?_
        refine ls_ex (some 65) (.agg #[.int .i64 p, .int .i64 n, .int .i64 m, .int .i64 k, .slice A9 N c9]) rfl rfl (exec_load_all 28 _ rfl wdz17.heap.size rfl _ _ _ h4 Try.underlying28 rfl 5 (by kernel_rfl) rfl) ?_
        go_frame
        refine ls_op rfl (fun K' hK' => ?_)
        have lz222 := hB.size
        have lz223 := h1.lt
        have lz224 := h2.lt
        have lz225 := h4.lt
        have lo9 := hB.size
        refine wp_call1 (some 66) rfl 16 _ _ rfl (fun args w => by kernel_rfl) _ rfl _ (l01Sorted_c p n m k A9 c9 N (qs.map (normQ p)) _ (ho.rd' HQb.out) (by rw [List.length_map]; exact HNl.out) (by omega)) (fun e Wz220 h => ?_)
        obtain ⟨v8, rfl, ho8, bz221⟩ := h
        replace hB := below_after hB bz221
        replace h1 := h1.after bz221
        replace h2 := h2.after bz221
        replace h4 := h4.after bz221
        replace ho := ho.below bz221
        obtain ⟨A8, c8, rfl⟩ := Own.rdN2 ho8 (n := N8) HN8.out
        clear ho
        have ho := ho8
        clear ho8
        clear bz221
        refine ⟨_, rfl, ?_⟩
        refine hK' _ _ ?_
        clear hK' K'
        go_frame
        refine ls_op rfl (fun K' hK' => ?_)
        refine wp_store_all 28 _ _ rfl rfl Wz2.heap.size rfl #[.int .i64 p, .int .i64 n, .int .i64 m, .int .i64 k, .slice A8 N8 c8] rfl _ _ h2 5 (by kernel_rfl) rfl rfl (one5 _ _ _ _ _ _ _) (fun Wz226 pz227 => ?_)
        replace hB := pz227.below hB (by omega)
        replace h1 := pz227.other h1 (by omega)
        replace h4 := pz227.other h4 (by omega)
        replace ho := ho.put pz227 (ho.off h2 (by decide))
        replace h2 : At Wz226 Wz2.heap.size (.cells #[.int .i64 p, .int .i64 n, .int .i64 m, .int .i64 k, .slice A8 N8 c8] 28 (0, 0)) := pz227.at_
        refine hK' _ _ ?_
        clear hK' K' pz227
        refine ls_ex (some 3) (.int .i64 0) rfl rfl (exec_assign _ rfl (.int .i64 0) rfl) ?_
        go_frame
        refine wpList_nil ?_
        go_wp2_with fail
        refine bodyPost_ret (results_at2 rfl _ _ Wz2.heap.size _ _ _ rfl _ rfl h2 Try.underlying28 rfl 5 (by kernel_rfl) rfl) rfl ?_
        unfold ResS soZ soL
        rw [HC.out]
        exact ⟨_, rfl, ho.mono (by omega), hB⟩
set_option maxHeartbeats 4000000 in
theorem implSc_a (p n m k : Int) (gX c : Nat) (qs : List (List Nat)) (w : World) (hR : Rd w (some ⟨gX, 0, none⟩) qs) (hlen : qs.length ≤ 1048576) (hx : schemeB p n m k qs = false) :
    Calls Try.prog 13 #[.agg #[.int .i64 p, .int .i64 n, .int .i64 m, .int .i64 k, .slice (some ⟨gX, 0, none⟩) qs.length c]] w (ResS w (soZ (soCode p n m k qs) p) (soZ (soCode p n m k qs) n) (soZ (soCode p n m k qs) m) (soZ (soCode p n m k qs) k) (soL (soCode p n m k qs) (insA [] (qs.map (normQ p)))) (soCode p n m k qs)) := by
  have hB := Below.refl w.heap.size w
  have HC : Hid ((soCode p n m k qs) = 1) := Lib.hid (by unfold soCode; rw [hx]; rfl)
  have HX := Lib.hid hx
  clear hx
  go_enter Try.func13, Try.ntmps13
  go_upto_region 0 with (fail)
  refine wp_region_lit ?_
  refine ls_op rfl (fun K' hK' => ?_)
  have lz1 := hB.size
  refine wp_new (some 1) rfl (exec_box 28 _ rfl (#[.int .i64 p, .int .i64 n, .int .i64 m, .int .i64 k, .slice (some ⟨gX, 0, none⟩) qs.length c]) rfl) (fun Wz2 nnz3 => ?_)
  have bz4 := nnz3.below (Below.refl _ _) (Nat.le_refl _)
  replace hB := below_after hB bz4
  have hz5 : At Wz2 w.heap.size (.cells #[.int .i64 p, .int .i64 n, .int .i64 m, .int .i64 k, .slice (some ⟨gX, 0, none⟩) qs.length c] 28 (0, 0)) := nnz3.at_
  refine hK' _ _ ?_
  clear hK' K' nnz3 bz4
  go_frame
  refine ls_op rfl (fun K' hK' => ?_)
  have lz6 := hB.size
  have lz7 := hz5.lt
  refine wp_new (some 2) rfl (alSw_impl_Scheme rfl) (fun Wz8 nnz9 => ?_)
  have bz10 := nnz9.below (Below.refl _ _) (Nat.le_refl _)
  replace hB := below_after hB bz10
  replace hz5 := hz5.after bz10
  have hz11 : At Wz8 Wz2.heap.size (.cells #[.int .i64 0, .int .i64 0, .int .i64 0, .int .i64 0, .slice none 0 0] 28 (0, 0)) := nnz9.at_
  refine hK' _ _ ?_
  clear hK' K' nnz9 bz10
  go_frame
  refine ls_ex (some 3) (.int .i64 0) rfl rfl (exec_assign _ rfl (.int .i64 0) rfl) ?_
  go_frame
  refine wpList_nil ?_
  go_upto_region 1 with (fail)
  refine wp_region_lit ?_
  refine ls_ex (some 4) (.agg #[.int .i64 p, .int .i64 n, .int .i64 m, .int .i64 k, .slice (some ⟨gX, 0, none⟩) qs.length c]) rfl rfl (exec_load_all 28 _ rfl w.heap.size rfl _ _ _ hz5 Try.underlying28 rfl 5 (by kernel_rfl) rfl) ?_
  go_frame
  refine ls_op rfl (fun K' hK' => ?_)
  have lz14 := hB.size
  have lz15 := hz5.lt
  have lz16 := hz11.lt
  refine wp_call1 (some 5) rfl 18 _ _ rfl (fun args w => by kernel_rfl) _ rfl _ (implIsScheme_c p n m k (some ⟨gX, 0, none⟩) c qs _ (hR.keep hB) hlen) (fun e Wz12 h => ?_)
  obtain ⟨rfl, bz13⟩ := h
  replace hB := below_after hB bz13
  replace hz5 := hz5.after bz13
  replace hz11 := hz11.after bz13
  rw [HX.out]
  clear bz13
  refine ⟨_, rfl, ?_⟩
  refine hK' _ _ ?_
  clear hK' K'
  go_frame
  refine ls_ex (some 6) (.bool true) rfl rfl (exec_not _ _ rfl false rfl) ?_
  go_frame
  refine wpList_nil ?_
  go_upto_region 2 with (fail)
  refine wp_region_lit ?_
  refine ls_ex (some 7) (.agg #[.int .i64 0, .int .i64 0, .int .i64 0, .int .i64 0, .slice none 0 0]) rfl rfl (exec_build_nil 28 rfl _ (by kernel_rfl)) ?_
  go_frame
  refine ls_op rfl (fun K' hK' => ?_)
  refine wp_store_all 28 _ _ rfl rfl Wz2.heap.size rfl #[.int .i64 0, .int .i64 0, .int .i64 0, .int .i64 0, .slice none 0 0] rfl _ _ hz11 5 (by kernel_rfl) rfl rfl (one5 _ _ _ _ _ _ _) (fun Wz17 pz18 => ?_)
  replace hB := pz18.below hB (by omega)
  replace hz5 := pz18.other hz5 (by omega)
  replace hz11 : At Wz17 Wz2.heap.size (.cells #[.int .i64 0, .int .i64 0, .int .i64 0, .int .i64 0, .slice none 0 0] 28 (0, 0)) := pz18.at_
  refine hK' _ _ ?_
  clear hK' K' pz18
  refine ls_ex (some 3) (.int .i64 1) rfl rfl (exec_assign _ rfl (.int .i64 1) rfl) ?_
  go_frame
  refine wpList_nil ?_
  go_wp2_with fail
  refine bodyPost_ret (results_at2 rfl _ _ Wz2.heap.size _ _ _ rfl _ rfl hz11 Try.underlying28 rfl 5 (by kernel_rfl) rfl) rfl ?_
  unfold ResS soZ soL
  rw [HC.out]
  exact ⟨_, rfl, Own.nil _ _, hB⟩
set_option maxHeartbeats 6400000 in
theorem implSc_y (p n m k : Int) (gX c : Nat) (qs : List (List Nat)) (w : World) (hR : Rd w (some ⟨gX, 0, none⟩) qs) (hlen : qs.length ≤ 1048576) (hx : schemeB p n m k qs = true) :
    Calls Try.prog 13 #[.agg #[.int .i64 p, .int .i64 n, .int .i64 m, .int .i64 k, .slice (some ⟨gX, 0, none⟩) qs.length c]] w (ResS w (soZ (soCode p n m k qs) p) (soZ (soCode p n m k qs) n) (soZ (soCode p n m k qs) m) (soZ (soCode p n m k qs) k) (soL (soCode p n m k qs) (insA [] (qs.map (normQ p)))) (soCode p n m k qs)) := by
  have hB := Below.refl w.heap.size w
  have HC : Hid ((soCode p n m k qs) = 0) := Lib.hid (by unfold soCode; rw [hx]; rfl)
  have hl30 := schemeB_len hx
  have hpr := (sizesB_parts (schemeB_sizes hx)).1
  have hp5 := prime_le5 hpr
  have HLd : Hid (∀ q ∈ qs, LeadOk p q) := Lib.hid (scheme_lead hR.good hx)
  have HX := Lib.hid hx
  have HQb : Hid (∀ q ∈ qs.map (normQ p), Bytes 27 q) := Lib.hid (fun r hr => by obtain ⟨q, _, rfl⟩ := List.mem_map.1 hr; exact normQ_bytes q hpr)
  obtain ⟨N8, hN8⟩ : ∃ z9, (insA [] (qs.map (normQ p))).length = z9 := ⟨_, rfl⟩
  have HN8 := Lib.hid hN8
  obtain ⟨N7, hN7⟩ : ∃ z9, (qs.map (normQ p)).length = z9 := ⟨_, rfl⟩
  have hN7b : N7 ≤ 500 := by rw [← hN7, List.length_map]; omega
  have HN7 := Lib.hid hN7
  clear hN8 hx hN7
  go_enter Try.func13, Try.ntmps13
  go_upto_region 0 with (fail)
  refine wp_region_lit ?_
  refine ls_op rfl (fun K' hK' => ?_)
  have lz1 := hB.size
  refine wp_new (some 1) rfl (exec_box 28 _ rfl (#[.int .i64 p, .int .i64 n, .int .i64 m, .int .i64 k, .slice (some ⟨gX, 0, none⟩) qs.length c]) rfl) (fun Wz2 nnz3 => ?_)
  have bz4 := nnz3.below (Below.refl _ _) (Nat.le_refl _)
  replace hB := below_after hB bz4
  have hz5 : At Wz2 w.heap.size (.cells #[.int .i64 p, .int .i64 n, .int .i64 m, .int .i64 k, .slice (some ⟨gX, 0, none⟩) qs.length c] 28 (0, 0)) := nnz3.at_
  refine hK' _ _ ?_
  clear hK' K' nnz3 bz4
  go_frame
  refine ls_op rfl (fun K' hK' => ?_)
  have lz6 := hB.size
  have lz7 := hz5.lt
  refine wp_new (some 2) rfl (alSw_impl_Scheme rfl) (fun Wz8 nnz9 => ?_)
  have bz10 := nnz9.below (Below.refl _ _) (Nat.le_refl _)
  replace hB := below_after hB bz10
  replace hz5 := hz5.after bz10
  have hz11 : At Wz8 Wz2.heap.size (.cells #[.int .i64 0, .int .i64 0, .int .i64 0, .int .i64 0, .slice none 0 0] 28 (0, 0)) := nnz9.at_
  refine hK' _ _ ?_
  clear hK' K' nnz9 bz10
  go_frame
  refine ls_ex (some 3) (.int .i64 0) rfl rfl (exec_assign _ rfl (.int .i64 0) rfl) ?_
  go_frame
  refine wpList_nil ?_
  go_upto_region 1 with (fail)
  refine wp_region_lit ?_
  refine ls_ex (some 4) (.agg #[.int .i64 p, .int .i64 n, .int .i64 m, .int .i64 k, .slice (some ⟨gX, 0, none⟩) qs.length c]) rfl rfl (exec_load_all 28 _ rfl w.heap.size rfl _ _ _ hz5 Try.underlying28 rfl 5 (by kernel_rfl) rfl) ?_
  go_frame
  refine ls_op rfl (fun K' hK' => ?_)
  have lz14 := hB.size
  have lz15 := hz5.lt
  have lz16 := hz11.lt
  refine wp_call1 (some 5) rfl 18 _ _ rfl (fun args w => by kernel_rfl) _ rfl _ (implIsScheme_c p n m k (some ⟨gX, 0, none⟩) c qs _ (hR.keep hB) hlen) (fun e Wz12 h => ?_)
  obtain ⟨rfl, bz13⟩ := h
  replace hB := below_after hB bz13
  replace hz5 := hz5.after bz13
  replace hz11 := hz11.after bz13
  rw [HX.out]
  clear bz13
  refine ⟨_, rfl, ?_⟩
  refine hK' _ _ ?_
  clear hK' K'
  go_frame
  refine ls_ex (some 6) (.bool false) rfl rfl (exec_not _ _ rfl true rfl) ?_
  go_frame
  refine wpList_nil ?_
  go_upto_region 3 with (fail)
  refine wp_region_y (zs := [8, 9]) (S := fun w' => Below w.heap.size w w' ∧ At w' w.heap.size (.cells #[.int .i64 p, .int .i64 n, .int .i64 m, .int .i64 k, .slice (some ⟨gX, 0, none⟩) qs.length c] 28 (0, 0))) (S2 := fun w' => True) (by kernel_rfl) ?_
  change wpAnyY _ _ _ _ _ _ _ _ _ _ (World.drew _)
  generalize hwdz17 : World.drew _ = wdz17
  replace hB : Below w.heap.size w wdz17 := by rw [← hwdz17]; exact hB.drew
  replace hz5 : At wdz17 w.heap.size (.cells #[.int .i64 p, .int .i64 n, .int .i64 m, .int .i64 k, .slice (some ⟨gX, 0, none⟩) qs.length c] 28 (0, 0)) := by rw [← hwdz17]; exact hz5
  replace hz11 : At wdz17 Wz2.heap.size (.cells #[.int .i64 0, .int .i64 0, .int .i64 0, .int .i64 0, .slice none 0 0] 28 (0, 0)) := by rw [← hwdz17]; exact hz11
  clear hwdz17
  refine y_yield 0 (some 8) (.pointer (some ⟨w.heap.size, 0, none⟩)) rfl (by kernel_rfl) (by kernel_rfl) (by kernel_rfl) (fun _ _ _ h => h) rfl rfl ⟨hB, hz5⟩ (fun w' h' => exec_fieldAddr 28 _ 0 rfl _ (by kernel_rfl)) ?_
  go_frame
  refine y_yield 1 (some 9) (.int .i64 p) rfl (by kernel_rfl) (by kernel_rfl) (by kernel_rfl) (fun _ _ _ h => h) rfl rfl ⟨hB, hz5⟩ (fun w' h' => exec_load_one 2 _ rfl w.heap.size 0 rfl (.int .i64 p) _ Try.underlying2 rfl (h'.2.at_ 0)) ?_
  go_frame
  refine y_yield 2 (some 10) (.agg #[.int .i64 p, .int .i64 n, .int .i64 m, .int .i64 k, .slice (some ⟨gX, 0, none⟩) qs.length c]) rfl (by kernel_rfl) (by kernel_rfl) (by kernel_rfl) (fun _ _ _ h => h) rfl rfl ⟨hB, hz5⟩ (fun w' h' => exec_load_all 28 _ rfl w.heap.size rfl _ _ _ h'.2 Try.underlying28 rfl 5 (by kernel_rfl) rfl) ?_
  go_frame
  refine y_yield 4 (some 12) (.agg #[.int .i64 p, .int .i64 n, .int .i64 m, .int .i64 k, .slice (some ⟨gX, 0, none⟩) qs.length c]) rfl (by kernel_rfl) (by kernel_rfl) (by kernel_rfl) (fun _ _ _ h => h) rfl rfl ⟨hB, hz5⟩ (fun w' h' => exec_load_all 28 _ rfl w.heap.size rfl _ _ _ h'.2 Try.underlying28 rfl 5 (by kernel_rfl) rfl) ?_
  go_frame
  refine y_oper 3 (by kernel_rfl) rfl rfl (fun K' hK' => ?_)
  have lz20 := hB.size
  have lz21 := hz5.lt
  have lz22 := hz11.lt
  refine wp_call1 (some 11) rfl 28 _ _ rfl (fun args w => by kernel_rfl) _ rfl _ (sizesOf_c _ _ _ _ _ _) (fun e Wz18 h => ?_)
  obtain ⟨rfl, bz19⟩ := h
  replace hB := below_after hB bz19
  replace hz5 := hz5.after bz19
  replace hz11 := hz11.after bz19
  clear bz19
  refine ⟨_, rfl, ?_⟩
  refine hK' _ _ ⟨hB, hz5⟩ (fun _ => trivial) ?_
  clear hK' K'
  go_frame
  refine y_oper 5 (by kernel_rfl) rfl rfl (fun K' hK' => ?_)
  have lz25 := hB.size
  have lz26 := hz5.lt
  have lz27 := hz11.lt
  have lo7 := hB.size
  refine wp_call1 (some 13) rfl 29 _ _ rfl (fun args w => by kernel_rfl) _ rfl _ (normalProducts_c p n m k gX c qs _ (hR.keep hB) (by omega) hpr HLd.out) (fun e Wz23 h => ?_)
  obtain ⟨v7, rfl, ho7, bz24⟩ := h
  replace hB := below_after hB bz24
  replace hz5 := hz5.after bz24
  replace hz11 := hz11.after bz24
  obtain ⟨A7, c7, rfl⟩ := Own.rdN2 ho7 (n := N7) HN7.out
  clear bz24
  refine ⟨_, rfl, ?_⟩
  refine hK' _ _ ⟨hB, hz5⟩ (fun _ => trivial) ?_
  clear hK' K'
  go_frame
  refine y_oper 6 (by kernel_rfl) rfl rfl (fun K' hK' => ?_)
  have lz30 := hB.size
  have lz31 := hz5.lt
  have lz32 := hz11.lt
  have lo9 := hB.size
  refine wp_call1 (some 14) rfl 19 _ _ rfl (fun args w => by kernel_rfl) _ rfl _ (sortedProductsN_c A7 c7 N7 (qs.map (normQ p)) _ HN7.out (ho7.rd' HQb.out) (by omega)) (fun e Wz28 h => ?_)
  obtain ⟨v8, rfl, ho, bz29⟩ := h
  replace hB := below_after hB bz29
  replace hz5 := hz5.after bz29
  replace hz11 := hz11.after bz29
  replace ho7 := ho7.below bz29
  obtain ⟨A8, c8, rfl⟩ := Own.rdN2 ho (n := N8) HN8.out
  clear ho7
  clear bz29
  refine ⟨_, rfl, ?_⟩
  refine hK' _ _ ⟨hB, hz5⟩ (fun _ => trivial) ?_
  clear hK' K'
  go_frame
  refine y_oper 7 (by kernel_rfl) rfl rfl (fun K' hK' => ?_)
  have lz35 := hB.size
  have lz36 := hz5.lt
  have lz37 := hz11.lt
  refine wp_call3 (some 15) rfl 27 _ _ _ _ rfl (fun args w => by kernel_rfl) _ _ _ rfl rfl rfl _ (schemeFor_c _ _ _ _ _ _ _ _) (fun e Wz33 h => ?_)
  obtain ⟨rfl, bz34⟩ := h
  replace hB := below_after hB bz34
  replace hz5 := hz5.after bz34
  replace hz11 := hz11.after bz34
  replace ho := ho.below bz34
  clear bz34
  refine ⟨_, rfl, ?_⟩
  refine hK' _ _ ⟨hB, hz5⟩ (fun _ => trivial) ?_
  clear hK' K'
  go_frame
  refine y_oper 8 (by kernel_rfl) rfl rfl (fun K' hK' => ?_)
  refine wp_store_all 28 _ _ rfl rfl Wz2.heap.size rfl #[.int .i64 p, .int .i64 n, .int .i64 m, .int .i64 k, .slice A8 N8 c8] rfl _ _ hz11 5 (by kernel_rfl) rfl rfl (one5 _ _ _ _ _ _ _) (fun Wz38 pz39 => ?_)
  replace hB := pz39.below hB (by omega)
  replace hz5 := pz39.other hz5 (by omega)
  replace ho := ho.put pz39 (ho.off hz11 (by decide))
  replace hz11 : At Wz38 Wz2.heap.size (.cells #[.int .i64 p, .int .i64 n, .int .i64 m, .int .i64 k, .slice A8 N8 c8] 28 (0, 0)) := pz39.at_
  refine hK' _ _ ⟨hB, hz5⟩ (fun h => absurd (by decide) h) ?_
  clear hK' K' pz39
  refine y_oper 9 (by kernel_rfl) rfl rfl (fun K' hK' => ?_)
  refine wp_exec (some 3) rfl (.int .i64 0) (exec_assign _ rfl (.int .i64 0) rfl) ?_
  refine hK' _ _ ⟨hB, hz5⟩ (fun h => absurd (by decide) h) ?_
  clear hK' K'
  go_frame
  refine y_done (by kernel_rfl) ?_ _
  go_wp2_with fail
  refine bodyPost_ret (results_at2 rfl _ _ Wz2.heap.size _ _ _ rfl _ rfl hz11 Try.underlying28 rfl 5 (by kernel_rfl) rfl) rfl ?_
  unfold ResS soZ soL
  rw [HC.out]
  exact ⟨_, rfl, ho.mono (by omega), hB⟩
theorem specScaledScheme_c (p n m k : Int) (AX : Option Addr) (c : Nat) (qs : List (List Nat)) (w : World) (hR : Rd w AX qs) (hlen : qs.length ≤ 1048576) : Calls Try.prog 12 #[.agg #[.int .i64 p, .int .i64 n, .int .i64 m, .int .i64 k, .slice AX qs.length c]] w (ResS w (soZ (soCode p n m k qs) p) (soZ (soCode p n m k qs) n) (soZ (soCode p n m k qs) m) (soZ (soCode p n m k qs) k) (soL (soCode p n m k qs) (insA [] (qs.map (normQ p)))) (soCode p n m k qs)) := by
  rcases Bool.eq_false_or_eq_true (schemeB p n m k qs) with hx | hx
  · exact specSc_y p n m k AX c qs.length qs w hR rfl hlen hx
  · exact specSc_a p n m k AX c qs w hR hlen hx
theorem implScaledScheme_c (p n m k : Int) (gX c : Nat) (qs : List (List Nat)) (w : World) (hR : Rd w (some ⟨gX, 0, none⟩) qs) (hlen : qs.length ≤ 1048576) : Calls Try.prog 13 #[.agg #[.int .i64 p, .int .i64 n, .int .i64 m, .int .i64 k, .slice (some ⟨gX, 0, none⟩) qs.length c]] w (ResS w (soZ (soCode p n m k qs) p) (soZ (soCode p n m k qs) n) (soZ (soCode p n m k qs) m) (soZ (soCode p n m k qs) k) (soL (soCode p n m k qs) (insA [] (qs.map (normQ p)))) (soCode p n m k qs)) := by
  rcases Bool.eq_false_or_eq_true (schemeB p n m k qs) with hx | hx
  · exact implSc_y p n m k gX c qs w hR hlen hx
  · exact implSc_a p n m k gX c qs w hR hlen hx
end Go.Proofs.Ytmbjpnkedepijaa
