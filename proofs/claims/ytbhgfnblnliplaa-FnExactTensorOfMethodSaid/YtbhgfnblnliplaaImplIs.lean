/-
  impl.IsScheme answers as spec.IsScheme does. (Made by mkimplis.py.)
-/
import Derived.Test.YtbhgfnblnliplaaIs
import Derived.Test.YtbhgfnblnliplaaAre
namespace Go.Proofs.Ytbhgfnblnliplaa
open Go.RowKit
set_option maxRecDepth 100000
theorem schemeB_are {p n m k : Int} {qs : List (List Nat)} (hs : sizesB p n m k = true) : schemeB p n m k qs = areB p (shR n m) (shC m k) qs := by
  unfold schemeB areB
  rw [hs, Bool.true_and, show prodB p n m k = prodG p (shR n m) (shC m k) from funext (prodB_G p n m k)]
theorem areScheme_c (p n m k : Int) (A : Option Addr) (c : Nat) (qs : List (List Nat)) (w : World) (hR : Rd w A qs) (hlen : qs.length ≤ 1048576) (hs : sizesB p n m k = true) :
    Calls Try.prog 39 #[.int .i64 p, .agg #[.int .i64 n, .int .i64 m, .int .i64 m, .int .i64 k, .int .i64 n, .int .i64 k], .slice A qs.length c] w fun e w' => e = .returned (.bool (areB p (shR n m) (shC m k) qs)) ∧ Below w.heap.size w w' :=
  areProducts_c p (shR n m) (shC m k) A c qs w hR hlen (primeB_pos (sizesB_parts hs).1) (ShOk.of_sizes (sizesB_parts hs).2.1 (sizesB_parts hs).2.2.1 (sizesB_parts hs).2.2.2)
set_option maxHeartbeats 800000 in
theorem implIsScheme_no (p n m k : Int) (A : Option Addr) (c : Nat) (qs : List (List Nat)) (w : World) (hno : sizesB p n m k = false) :
    Calls Try.prog 59 #[.agg #[.int .i64 p, .int .i64 n, .int .i64 m, .int .i64 k, .slice A qs.length c]] w fun e w' => e = .returned (.bool (schemeB p n m k qs)) ∧ Below w.heap.size w w' := by
  have Hno : Hid (schemeB p n m k qs = false) := Lib.hid (by simp [schemeB, hno])
  have Hs := Lib.hid hno
  clear hno
  go_enter Try.func59, Try.ntmps59
  go_wp2_with fail
  refine (isPrime_c p _).mono ?_
  rintro e w1 ⟨rfl, rfl⟩
  cases hp : primeB p with
  | false =>
    clear hp
    go_wp2_with fail
    go_ret
    exact ⟨by rw [Hno.out]; rfl, below1 _ _⟩
  | true =>
    have Hp := Lib.hid hp
    clear hp
    go_wp2_with fail
    refine (isSize_c n _).mono ?_
    rintro e w1 ⟨rfl, rfl⟩
    cases hn : sizeB n with
    | false =>
      clear hn
      go_wp2_with fail
      go_ret
      exact ⟨by rw [Hno.out]; rfl, below1 _ _⟩
    | true =>
      have Hn := Lib.hid hn
      clear hn
      go_wp2_with fail
      refine (isSize_c m _).mono ?_
      rintro e w1 ⟨rfl, rfl⟩
      cases hm : sizeB m with
      | false =>
        clear hm
        go_wp2_with fail
        go_ret
        exact ⟨by rw [Hno.out]; rfl, below1 _ _⟩
      | true =>
        have hk : sizeB k = false := by
          have h := Hs.out
          simp only [sizesB, Hp.out, Hn.out, hm, Bool.and_true, Bool.true_and] at h
          exact h
        have Hk := Lib.hid hk
        clear hk hm
        go_wp2_with fail
        refine (isSize_c k _).mono ?_
        rintro e w1 ⟨rfl, rfl⟩
        rw [Hk.out]
        go_wp2_with fail
        go_ret
        exact ⟨by rw [Hno.out]; rfl, below1 _ _⟩
attribute [local irreducible] wpList
set_option maxHeartbeats 4000000 in
theorem implIsScheme_yes (p n m k : Int) (A : Option Addr) (c : Nat) (qs : List (List Nat)) (w : World) (hR : Rd w A qs) (hlen : qs.length ≤ 1048576) (hs : sizesB p n m k = true) :
    Calls Try.prog 59 #[.agg #[.int .i64 p, .int .i64 n, .int .i64 m, .int .i64 k, .slice A qs.length c]] w (fun e w' => e = .returned (.bool (schemeB p n m k qs)) ∧ Below w.heap.size w w') := by
  have hB := Below.refl w.heap.size w
  have HV : Hid (schemeB p n m k qs = areB p (shR n m) (shC m k) qs) := Lib.hid (schemeB_are hs)
  have HS := Lib.hid hs
  clear hs
  go_enter Try.func59, Try.ntmps59
  go_upto_region 0 with (fail)
  refine wp_region_lit ?_
  refine ls_op rfl (fun K' hK' => ?_)
  have lz1 := hB.size
  refine wp_new (some 1) rfl (exec_box 51 _ rfl (#[.int .i64 p, .int .i64 n, .int .i64 m, .int .i64 k, .slice A qs.length c]) rfl) (fun Wz2 nnz3 => ?_)
  have bz4 := nnz3.below (Below.refl _ _) (Nat.le_refl _)
  replace hB := below_after hB bz4
  have hz5 : At Wz2 w.heap.size (.cells #[.int .i64 p, .int .i64 n, .int .i64 m, .int .i64 k, .slice A qs.length c] 51 (0, 0)) := nnz3.at_
  refine hK' _ _ ?_
  clear hK' K' nnz3 bz4
  go_frame
  refine ls_ex (some 2) (.bool false) rfl rfl (exec_assign _ rfl (.bool false) rfl) ?_
  go_frame
  refine wpList_nil ?_
  go_upto_region 1 with (fail)
  refine wp_region_lit ?_
  refine ls_ex (some 3) (.pointer (some ⟨w.heap.size, 0, none⟩)) rfl rfl (exec_fieldAddr 51 _ 0 rfl _ (by kernel_rfl)) ?_
  go_frame
  refine ls_ex (some 4) (.int .i64 p) rfl rfl (exec_load_one 2 _ rfl w.heap.size 0 rfl (.int .i64 p) _ Try.underlying2 rfl (hz5.at_ 0)) ?_
  go_frame
  refine ls_op rfl (fun K' hK' => ?_)
  have lz8 := hB.size
  have lz9 := hz5.lt
  refine wp_call1 (some 5) rfl 36 _ _ rfl (fun args w => by kernel_rfl) _ rfl _ (isPrime_c p _) (fun e Wz6 h => ?_)
  obtain ⟨rfl, rfl⟩ := h
  rw [(sizesB_parts HS.out).1]
  refine ⟨_, rfl, ?_⟩
  refine hK' _ _ ?_
  clear hK' K'
  go_frame
  refine ls_ex (some 6) (.bool false) rfl rfl (exec_not _ _ rfl true rfl) ?_
  go_frame
  refine ls_ex (some 7) (.bool false) rfl rfl (exec_move _ rfl (.bool false) rfl) ?_
  go_frame
  refine ls_ex_g (some 8) (.pointer (some ⟨w.heap.size, 1, none⟩)) rfl rfl (exec_fieldAddr 51 _ 1 rfl _ (by kernel_rfl)) ?_
  go_frame
  refine ls_ex_g (some 9) (.int .i64 n) rfl rfl (exec_load_one 2 _ rfl w.heap.size 1 rfl (.int .i64 n) _ Try.underlying2 rfl (hz5.at_ 1)) ?_
  go_frame
  refine ls_op_g rfl (fun K' hK' => ?_)
  have lz12 := hB.size
  have lz13 := hz5.lt
  refine wp_call1 (some 10) rfl 77 _ _ rfl (fun args w => by kernel_rfl) _ rfl _ (isSize_c n _) (fun e Wz10 h => ?_)
  obtain ⟨rfl, rfl⟩ := h
  rw [(sizesB_parts HS.out).2.1]
  refine ⟨_, rfl, ?_⟩
  refine hK' _ _ ?_
  clear hK' K'
  go_frame
  refine ls_ex_g (some 11) (.bool false) rfl rfl (exec_not _ _ rfl true rfl) ?_
  go_frame
  refine ls_ex (some 12) (.bool false) rfl rfl (exec_pick _ _ _ rfl false rfl (.bool false) rfl) ?_
  go_frame
  refine ls_ex (some 13) (.bool false) rfl rfl (exec_move _ rfl (.bool false) rfl) ?_
  go_frame
  refine ls_ex_g (some 14) (.pointer (some ⟨w.heap.size, 2, none⟩)) rfl rfl (exec_fieldAddr 51 _ 2 rfl _ (by kernel_rfl)) ?_
  go_frame
  refine ls_ex_g (some 15) (.int .i64 m) rfl rfl (exec_load_one 2 _ rfl w.heap.size 2 rfl (.int .i64 m) _ Try.underlying2 rfl (hz5.at_ 2)) ?_
  go_frame
  refine ls_op_g rfl (fun K' hK' => ?_)
  have lz16 := hB.size
  have lz17 := hz5.lt
  refine wp_call1 (some 16) rfl 77 _ _ rfl (fun args w => by kernel_rfl) _ rfl _ (isSize_c m _) (fun e Wz14 h => ?_)
  obtain ⟨rfl, rfl⟩ := h
  rw [(sizesB_parts HS.out).2.2.1]
  refine ⟨_, rfl, ?_⟩
  refine hK' _ _ ?_
  clear hK' K'
  go_frame
  refine ls_ex_g (some 17) (.bool false) rfl rfl (exec_not _ _ rfl true rfl) ?_
  go_frame
  refine ls_ex (some 18) (.bool false) rfl rfl (exec_pick _ _ _ rfl false rfl (.bool false) rfl) ?_
  go_frame
  refine ls_ex (some 19) (.bool false) rfl rfl (exec_move _ rfl (.bool false) rfl) ?_
  go_frame
  refine ls_ex_g (some 20) (.pointer (some ⟨w.heap.size, 3, none⟩)) rfl rfl (exec_fieldAddr 51 _ 3 rfl _ (by kernel_rfl)) ?_
  go_frame
  refine ls_ex_g (some 21) (.int .i64 k) rfl rfl (exec_load_one 2 _ rfl w.heap.size 3 rfl (.int .i64 k) _ Try.underlying2 rfl (hz5.at_ 3)) ?_
  go_frame
  refine ls_op_g rfl (fun K' hK' => ?_)
  have lz20 := hB.size
  have lz21 := hz5.lt
  refine wp_call1 (some 22) rfl 77 _ _ rfl (fun args w => by kernel_rfl) _ rfl _ (isSize_c k _) (fun e Wz18 h => ?_)
  obtain ⟨rfl, rfl⟩ := h
  rw [(sizesB_parts HS.out).2.2.2]
  refine ⟨_, rfl, ?_⟩
  refine hK' _ _ ?_
  clear hK' K'
  go_frame
  refine ls_ex_g (some 23) (.bool false) rfl rfl (exec_not _ _ rfl true rfl) ?_
  go_frame
  refine ls_ex (some 24) (.bool false) rfl rfl (exec_pick _ _ _ rfl false rfl (.bool false) rfl) ?_
  go_frame
  refine wpList_nil ?_
  go_upto_region 3 with (fail)
  refine wp_region_y (zs := []) (S := fun w' => Below w.heap.size w w' ∧ At w' w.heap.size (.cells #[.int .i64 p, .int .i64 n, .int .i64 m, .int .i64 k, .slice A qs.length c] 51 (0, 0))) (S2 := fun w' => True) (by kernel_rfl) ?_
  change wpAnyY _ _ _ _ _ _ _ _ _ _ (World.drew _)
  generalize hwdz22 : World.drew _ = wdz22
  replace hB : Below w.heap.size w wdz22 := by rw [← hwdz22]; exact hB.drew
  replace hz5 : At wdz22 w.heap.size (.cells #[.int .i64 p, .int .i64 n, .int .i64 m, .int .i64 k, .slice A qs.length c] 51 (0, 0)) := by rw [← hwdz22]; exact hz5
  clear hwdz22
  refine y_yield 0 (some 25) (.pointer (some ⟨w.heap.size, 0, none⟩)) rfl (by kernel_rfl) (by kernel_rfl) (by kernel_rfl) (fun _ _ _ h => h) rfl rfl ⟨hB, hz5⟩ (fun w' h' => exec_fieldAddr 51 _ 0 rfl _ (by kernel_rfl)) ?_
  go_frame
  refine y_yield 1 (some 26) (.int .i64 p) rfl (by kernel_rfl) (by kernel_rfl) (by kernel_rfl) (fun _ _ _ h => h) rfl rfl ⟨hB, hz5⟩ (fun w' h' => exec_load_one 2 _ rfl w.heap.size 0 rfl (.int .i64 p) _ Try.underlying2 rfl (h'.2.at_ 0)) ?_
  go_frame
  refine y_yield 2 (some 27) (.agg #[.int .i64 p, .int .i64 n, .int .i64 m, .int .i64 k, .slice A qs.length c]) rfl (by kernel_rfl) (by kernel_rfl) (by kernel_rfl) (fun _ _ _ h => h) rfl rfl ⟨hB, hz5⟩ (fun w' h' => exec_load_all 51 _ rfl w.heap.size rfl _ _ _ h'.2 Try.underlying51 rfl 5 (by kernel_rfl) rfl) ?_
  go_frame
  refine y_yield 4 (some 29) (.pointer (some ⟨w.heap.size, 4, none⟩)) rfl (by kernel_rfl) (by kernel_rfl) (by kernel_rfl) (fun _ _ _ h => h) rfl rfl ⟨hB, hz5⟩ (fun w' h' => exec_fieldAddr 51 _ 4 rfl _ (by kernel_rfl)) ?_
  go_frame
  refine y_yield 5 (some 30) (.slice A qs.length c) rfl (by kernel_rfl) (by kernel_rfl) (by kernel_rfl) (fun _ _ _ h => h) rfl rfl ⟨hB, hz5⟩ (fun w' h' => exec_load_one 27 _ rfl w.heap.size 4 rfl (.slice A qs.length c) _ Try.underlying27 rfl (h'.2.at_ 4)) ?_
  go_frame
  refine y_oper 3 (by kernel_rfl) rfl rfl (fun K' hK' => ?_)
  have lz25 := hB.size
  have lz26 := hz5.lt
  refine wp_call1 (some 28) rfl 78 _ _ rfl (fun args w => by kernel_rfl) _ rfl _ (shapesOf_c p n m k (.slice A qs.length c) _) (fun e Wz23 h => ?_)
  obtain ⟨rfl, bz24⟩ := h
  replace hB := below_after hB bz24
  replace hz5 := hz5.after bz24
  clear bz24
  refine ⟨_, rfl, ?_⟩
  refine hK' _ _ ⟨hB, hz5⟩ (fun _ => trivial) ?_
  clear hK' K'
  go_frame
  refine y_oper 6 (by kernel_rfl) rfl rfl (fun K' hK' => ?_)
  have lz29 := hB.size
  have lz30 := hz5.lt
  refine wp_call3 (some 31) rfl 39 _ _ _ _ rfl (fun args w => by kernel_rfl) _ _ _ rfl rfl rfl _ (areScheme_c p n m k A c qs _ (hR.keep hB) hlen HS.out) (fun e Wz27 h => ?_)
  obtain ⟨rfl, bz28⟩ := h
  replace hB := below_after hB bz28
  replace hz5 := hz5.after bz28
  clear bz28
  refine ⟨_, rfl, ?_⟩
  refine hK' _ _ ⟨hB, hz5⟩ (fun _ => trivial) ?_
  clear hK' K'
  go_frame
  refine y_oper 7 (by kernel_rfl) rfl rfl (fun K' hK' => ?_)
  refine wp_exec (some 2) rfl (.bool (areB p (shR n m) (shC m k) qs)) (exec_assign _ rfl (.bool (areB p (shR n m) (shC m k) qs)) rfl) ?_
  refine hK' _ _ ⟨hB, hz5⟩ (fun _ => trivial) ?_
  clear hK' K'
  go_frame
  refine y_done (by kernel_rfl) ?_ _
  go_wp2_with fail
  go_ret
  exact ⟨by rw [HV.out]; rfl, hB⟩
theorem implIsScheme_c (p n m k : Int) (A : Option Addr) (c : Nat) (qs : List (List Nat)) (w : World) (hr : Rd w A qs) (hlen : qs.length ≤ 1048576) :
    Calls Try.prog 59 #[.agg #[.int .i64 p, .int .i64 n, .int .i64 m, .int .i64 k, .slice A qs.length c]] w fun e w' => e = .returned (.bool (schemeB p n m k qs)) ∧ Below w.heap.size w w' := by
  cases hs : sizesB p n m k with
  | false => exact implIsScheme_no p n m k A c qs w hs
  | true => exact implIsScheme_yes p n m k A c qs w hr hlen hs
theorem schemeB_len {p n m k : Int} {qs : List (List Nat)} (h : schemeB p n m k qs = true) : qs.length ≤ 30 := by
  simp only [schemeB, Bool.and_eq_true, decide_eq_true_eq] at h
  exact h.1.2
theorem schemeB_sizes {p n m k : Int} {qs : List (List Nat)} (h : schemeB p n m k qs = true) : sizesB p n m k = true := by
  simp only [schemeB, Bool.and_eq_true] at h
  exact h.1.1
end Go.Proofs.Ytbhgfnblnliplaa

