/-
  impl.turnedTo, spec.l05Turned. (Made by mksl1.py.)
-/
import Derived.Test.YtolgfpcadfjliaaTen8
import Derived.Test.YtolgfpcadfjliaaTenT
import Derived.Test.YtolgfpcadfjliaaRowB
namespace Go.Proofs.Ytolgfpcadfjliaa
open Go.RowKit
set_option maxRecDepth 100000
theorem ten_parts {p : Int} {a b d : Nat} {xs : List Int} (h : tenB p a b d xs = true) : primeB p = true ∧ (1 ≤ a ∧ a ≤ 9) ∧ (1 ≤ b ∧ b ≤ 9) ∧ (1 ≤ d ∧ d ≤ 9) ∧ xs.length = a * b * d ∧ numsB p xs = true := by
  unfold tenB sideB at h
  simp only [Bool.and_eq_true, decide_eq_true_eq] at h
  obtain ⟨⟨⟨⟨⟨h1, h2⟩, h3⟩, h4⟩, h5⟩, h6⟩ := h
  refine ⟨h1, by omega, by omega, by omega, ?_, h6⟩
  rw [← Int.natCast_mul, ← Int.natCast_mul] at h5
  omega
/-- A tensor's list, read, in none of these two blocks. -/
def RdX (w : World) (x y : Nat) (A : Option Addr) (xs : List Int) : Prop := RdI w A xs ∧ ∃ b off, A = some ⟨b, off, none⟩ ∧ b ≠ x ∧ b ≠ y
theorem RdX.below {w w' : World} {x y : Nat} {A : Option Addr} {xs : List Int} (h : RdX w x y A xs) (hb : Below w.heap.size w w') : RdX w' x y A xs := ⟨h.1.keep hb, h.2⟩
theorem RdX.drew {w : World} {x y : Nat} {A : Option Addr} {xs : List Int} (h : RdX w x y A xs) : RdX w.drew x y A xs := h.below (Below.refl _ _).drew
theorem RdX.put {w w' : World} {x y g : Nat} {A : Option Addr} {xs : List Int} {o : Obj} (h : RdX w x y A xs) (hp : Put w w' g o) (hg : g = x ∨ g = y) : RdX w' x y A xs := by
  obtain ⟨h1, b, off, rfl, hx, hy⟩ := h
  refine ⟨?_, b, off, rfl, hx, hy⟩
  rcases h1 with h1 | ⟨b', off', e, hc⟩
  · exact .inl h1
  · simp only [Option.some.injEq, Addr.mk.injEq, and_true] at e
    obtain ⟨rfl, rfl⟩ := e
    refine .inr ⟨b, off, rfl, fun i v hi => ?_⟩
    have c1 := hc i v hi
    have hb := block_lt_of_cell c1
    have hA : At w b w.heap[b] := Array.getElem?_eq_getElem hb
    have hA' : At w' b w.heap[b] := hp.other hA (by rcases hg with rfl | rfl <;> assumption)
    rw [World.cell?_of_block (w := w) (a := ⟨b, off + i, none⟩) (Eq.trans hA' (Eq.symm hA))]
    exact c1
theorem RdX.of_own {w : World} {lo x y N : Nat} {v : Value} {xs : List Int} (h : OwnI w lo v xs) (hx : x < lo) (hy : y < lo) (hl : xs.length = N) (hN : 0 < N) : ∃ A c, v = .slice A N c ∧ N ≤ c ∧ RdX w x y A xs := by
  rcases h.2 with ⟨_, h0⟩ | ⟨g, cap, cur, e, hb, _, hle, _⟩
  · omega
  · obtain ⟨A, c, e2, hr⟩ := h.rd
    rw [hl] at e2
    have e3 := e2
    rw [e] at e3
    simp only [Value.slice.injEq] at e3
    rw [hl] at hle
    exact ⟨A, c, e2, by omega, hr, g, 0, e3.1.symm, by omega, by omega⟩
theorem RdX.of_rd {w : World} {x y b off : Nat} {xs : List Int} (h : RdI w (some ⟨b, off, none⟩) xs) (hx : b ≠ x) (hy : b ≠ y) : RdX w x y (some ⟨b, off, none⟩) xs := ⟨h, b, off, rfl, hx, hy⟩
/-- A tensor turned so often. -/
def trn (p : Int) : Nat → Nat × Nat × Nat × List Int → Nat × Nat × Nat × List Int
  | 0, q => q
  | k + 1, q => ((trn p k q).2.1, (trn p k q).2.2.1, (trn p k q).1, turnL p (trn p k q).1 (trn p k q).2.1 (trn p k q).2.2.1 (trn p k q).2.2.2)
theorem turnL_ten {p : Int} {a b d : Nat} {xs : List Int} (h : tenB p a b d xs = true) : tenB p b d a (turnL p a b d xs) = true := by
  have hp := prime_le5 (ten_parts h).1
  obtain ⟨h1, h2, h3, h4, h5, h6⟩ := ten_parts h
  unfold tenB sideB
  simp only [Bool.and_eq_true, decide_eq_true_eq]
  refine ⟨⟨⟨⟨⟨h1, by omega⟩, by omega⟩, by omega⟩, by rw [turnL_len]; simp⟩, ?_⟩
  unfold numsB turnL genL
  rw [List.all_eq_true]
  intro x hx
  obtain ⟨t, _, rfl⟩ := List.mem_map.1 hx
  have e1 : ∀ z : Int, 0 ≤ z % p ∧ z % p < p := fun z => ⟨Int.emod_nonneg _ (by omega), Int.emod_lt_of_pos _ (by omega)⟩
  simp only [inB, gen, Bool.and_eq_true, decide_eq_true_eq]
  exact ⟨decide_eq_true (e1 _).1, decide_eq_true (e1 _).2⟩
theorem turnedN_c (p : Int) (a b d : Nat) (A : Option Addr) (c N : Nat) (xs : List Int) (w : World) (hr : RdI w A xs) (hl : xs.length = N) (ht : tenB p a b d xs = true) :
    Calls Try.prog 54 #[.agg #[.int .i64 p, .int .i64 a, .int .i64 b, .int .i64 d, .slice A N c]] w
      fun e w' => ∃ v, e = .returned (.agg #[.int .i64 p, .int .i64 b, .int .i64 d, .int .i64 a, v]) ∧ OwnI w' w.heap.size v (turnL p a b d xs) ∧ Below w.heap.size w w' := by
  subst hl
  exact turned_c p a b d A c xs w hr ht
theorem l05TurnN_c (p : Int) (a b d : Nat) (A : Option Addr) (c N : Nat) (xs : List Int) (w : World) (hr : RdI w A xs) (hl : xs.length = N) (ht : tenB p a b d xs = true) :
    Calls Try.prog 50 #[.agg #[.int .i64 p, .int .i64 a, .int .i64 b, .int .i64 d, .slice A N c]] w
      fun e w' => ∃ v, e = .returned (.agg #[.int .i64 p, .int .i64 b, .int .i64 d, .int .i64 a, v]) ∧ OwnI w' w.heap.size v (turnL p a b d xs) ∧ Below w.heap.size w w' := by
  subst hl
  exact l05Turn_c p a b d A c xs w hr ht
attribute [local irreducible] wpList
theorem alSl_impl_Tensor {o : Oper} {a : Act} {w : World} (ho : o.op = .alloc 29) : (execOp a.eval o).run Try.prog w = .ok (.value (.pointer (some ⟨w.heap.size, 0, none⟩))) (w.alloc (.cells #[.int .i64 0, .int .i64 0, .int .i64 0, .int .i64 0, .slice none 0 0] 29 (0, 0))) := by
  unfold execOp
  rw [ho]
  kernel_rfl
set_option maxHeartbeats 4000000 in
theorem turnedTo_c (p : Int) (a0 b0 d0 S : Nat) (bB oB c0 N : Nat) (xs0 : List Int) (w : World) (hX : RdI w (some ⟨bB, oB, none⟩) xs0) (hxl : xs0.length = N) (hs : tenB p a0 b0 d0 xs0 = true) (hS : S ≤ 2) (hc0 : N ≤ c0) :
    Calls Try.prog 34 #[.agg #[.int .i64 p, .int .i64 a0, .int .i64 b0, .int .i64 d0, .slice (some ⟨bB, oB, none⟩) N c0], .int .i64 S] w (fun e w' => ∃ (A : Option Addr) (c : Nat), e = .returned (.agg #[.int .i64 p, .int .i64 (trn p S (a0, b0, d0, xs0)).1, .int .i64 (trn p S (a0, b0, d0, xs0)).2.1, .int .i64 (trn p S (a0, b0, d0, xs0)).2.2.1, .slice A N c]) ∧ N ≤ c ∧ (trn p S (a0, b0, d0, xs0)).2.2.2.length = N ∧ tenB p (trn p S (a0, b0, d0, xs0)).1 (trn p S (a0, b0, d0, xs0)).2.1 (trn p S (a0, b0, d0, xs0)).2.2.1 (trn p S (a0, b0, d0, xs0)).2.2.2 = true ∧ RdI w' A (trn p S (a0, b0, d0, xs0)).2.2.2 ∧ Below w.heap.size w w') := by
  have hB := Below.refl w.heap.size w
  have HL0 : Hid (xs0.length = N) := Lib.hid hxl
  have HT0 : Hid (tenB p a0 b0 d0 xs0 = true) := Lib.hid hs
  have hN0 : 0 < N := by
    have h9 := (ten_parts hs).2
    rw [← hxl, h9.2.2.2.1]
    exact Nat.mul_pos (Nat.mul_pos (by omega) (by omega)) (by omega)
  have hX0 : bB < w.heap.size := by
    obtain ⟨b, off, e, hc⟩ := hX.at_ (i := 0) (by rw [hxl]; exact hN0)
    have e2 := block_lt_of_cell hc
    simp only [Option.some.injEq, Addr.mk.injEq, and_true] at e
    rw [e.1]
    exact e2
  clear hxl hs
  go_enter Try.func34, Try.ntmps34
  go_upto_region 0 with (fail)
  refine wp_region_lit ?_
  refine ls_op rfl (fun K' hK' => ?_)
  have lz1 := hB.size
  refine wp_new (some 2) rfl (exec_box 29 _ rfl (#[.int .i64 p, .int .i64 a0, .int .i64 b0, .int .i64 d0, .slice (some ⟨bB, oB, none⟩) N c0]) rfl) (fun Wz2 nnz3 => ?_)
  have bz4 := nnz3.below (Below.refl _ _) (Nat.le_refl _)
  replace hB := below_after hB bz4
  have hz5 : At Wz2 w.heap.size (.cells #[.int .i64 p, .int .i64 a0, .int .i64 b0, .int .i64 d0, .slice (some ⟨bB, oB, none⟩) N c0] 29 (0, 0)) := nnz3.at_
  refine hK' _ _ ?_
  clear hK' K' nnz3 bz4
  go_frame
  refine ls_op rfl (fun K' hK' => ?_)
  have lz6 := hB.size
  have lz7 := hz5.lt
  refine wp_new (some 4) rfl (alSl_impl_Tensor rfl) (fun Wz8 nnz9 => ?_)
  have bz10 := nnz9.below (Below.refl _ _) (Nat.le_refl _)
  replace hB := below_after hB bz10
  replace hz5 := hz5.after bz10
  have hz11 : At Wz8 Wz2.heap.size (.cells #[.int .i64 0, .int .i64 0, .int .i64 0, .int .i64 0, .slice none 0 0] 29 (0, 0)) := nnz9.at_
  refine hK' _ _ ?_
  clear hK' K' nnz9 bz10
  go_frame
  refine wpList_nil ?_
  go_upto_region 1 with (fail)
  refine wp_region_lit ?_
  refine ls_ex (some 5) (.int .i64 S) rfl rfl (exec_move _ rfl (.int .i64 S) rfl) ?_
  go_frame
  refine ls_ex (some 6) (.int .i64 0) rfl rfl (exec_move _ rfl (.int .i64 0) rfl) ?_
  go_frame
  refine wpList_nil ?_
  go_wp2_with fail
  go_loopw [6] (fun s6 wr => ∃ (t a b d : Nat) (xs : List Int) (A : Option Addr) (c : Nat), t ≤ S ∧ N ≤ c ∧ s6 = .int .i64 t ∧ Hid (trn p t (a0, b0, d0, xs0) = (a, b, d, xs)) ∧ Hid (xs.length = N) ∧ Hid (tenB p a b d xs = true) ∧ Below w.heap.size w wr ∧ At wr w.heap.size (.cells #[.int .i64 p, .int .i64 a, .int .i64 b, .int .i64 d, .slice A N c] 29 (0, 0)) ∧ At wr Wz2.heap.size (.cells #[.int .i64 0, .int .i64 0, .int .i64 0, .int .i64 0, .slice none 0 0] 29 (0, 0)) ∧ RdX wr w.heap.size Wz2.heap.size A xs) (fun s6 _ => S - (intOf s6).toNat)
  case atStart => exact ⟨0, a0, b0, d0, xs0, _, _, by omega, hc0, rfl, Lib.hid rfl, HL0, HT0, hB, hz5, hz11, RdX.of_rd (hX.keep hB) (by omega) (by omega)⟩
  case round =>
    clear hB hz5 hz11
    obtain ⟨t, a, b, d, xs, A, c, hle, hNc, rfl, HR, HL, HT, hB, h2, h4, ho⟩ := hrel
    by_cases hlt : t < S
    · have HQ : Hid ((turnL p a b d xs).length = N) := Lib.hid (by rw [turnL_len, ← HL.out, (ten_parts HT.out).2.2.2.2.1]; exact Nat.mul_comm _ _ ▸ (Nat.mul_assoc _ _ _).symm)
      have HT2 : Hid (tenB p b d a (turnL p a b d xs) = true) := Lib.hid (turnL_ten HT.out)
      have HR2 : Hid (trn p (t + 1) (a0, b0, d0, xs0) = (b, d, a, turnL p a b d xs)) := Lib.hid (by rw [trn, HR.out])
      go_upto_region 2 with (fail)
      refine wp_region_lit ?_
      refine ls_ex (some 7) (.bool true) rfl rfl (exec_lss _ _ _ _ rfl t S rfl rfl true (decide_eq_true (by omega))) ?_
      go_frame
      refine wpList_nil ?_
      go_upto_region 3 with (fail)
      refine wp_region_lit ?_
      refine ls_ex (some 8) (.agg #[.int .i64 p, .int .i64 a, .int .i64 b, .int .i64 d, .slice A N c]) rfl rfl (exec_load_all 29 _ rfl w.heap.size rfl _ _ _ h2 Try.underlying29 rfl 5 (by kernel_rfl) rfl) ?_
      go_frame
      refine ls_op rfl (fun K' hK' => ?_)
      have lz14 := hB.size
      have lz15 := h2.lt
      have lz16 := h4.lt
      have lt2 := h2.lt
      have lt4 := h4.lt
      refine wp_call1 (some 9) rfl 54 _ _ rfl (fun args w => by kernel_rfl) _ rfl _ (turnedN_c p a b d A c N xs _ ho.1 HL.out HT.out) (fun e Wz12 h => ?_)
      obtain ⟨v9, rfl, ho9, bz13⟩ := h
      replace hB := below_after hB bz13
      replace h2 := h2.after bz13
      replace h4 := h4.after bz13
      replace ho := ho.below bz13
      clear ho
      have ho := RdX.of_own (x := w.heap.size) (y := Wz2.heap.size) ho9 (by omega) (by omega) HQ.out hN0
      obtain ⟨A5, c5, rfl, hc5, ho⟩ := ho
      clear bz13
      refine ⟨_, rfl, ?_⟩
      refine hK' _ _ ?_
      clear hK' K'
      go_frame
      refine ls_op rfl (fun K' hK' => ?_)
      refine wp_store_all 29 _ _ rfl rfl w.heap.size rfl #[.int .i64 p, .int .i64 b, .int .i64 d, .int .i64 a, .slice A5 N c5] rfl _ _ h2 5 (by kernel_rfl) rfl rfl (one5 _ _ _ _ _ _ _) (fun Wz17 pz18 => ?_)
      replace hB := pz18.below hB (by omega)
      replace h4 := pz18.other h4 (by omega)
      replace ho := ho.put pz18 (.inl rfl)
      replace h2 : At Wz17 w.heap.size (.cells #[.int .i64 p, .int .i64 b, .int .i64 d, .int .i64 a, .slice A5 N c5] 29 (0, 0)) := pz18.at_
      refine hK' _ _ ?_
      clear hK' K' pz18
      refine wpList_nil ?_
      go_upto_region 4 with (fail)
      refine wp_region_lit ?_
      refine ls_ex (some 10) (.int .i64 (t + 1)) rfl rfl (exec_add _ _ _ _ rfl t 1 (t + 1) rfl rfl (IntWalk.i64_in _ (by omega))) ?_
      go_frame
      refine ls_ex (some 6) (.int .i64 (t + 1)) rfl rfl (exec_move _ rfl (.int .i64 (t + 1)) rfl) ?_
      go_frame
      refine wpList_nil ?_
      go_wp2_with fail
      go_roundw
      case rel => exact ⟨t + 1, b, d, a, _, A5, c5, by omega, hc5, by first | go_num | (congr 1; omega), HR2, HQ, HT2, hB, h2, h4, ho⟩
      case measure => simp [intOf] <;> omega
    · have HE : Hid (trn p S (a0, b0, d0, xs0) = (a, b, d, xs)) := Lib.hid (by rw [← HR.out, show t = S by omega])
      go_upto_region 2 with (fail)
      refine wp_region_lit ?_
      refine ls_ex (some 7) (.bool false) rfl rfl (exec_lss _ _ _ _ rfl t S rfl rfl false (decide_eq_false (by omega))) ?_
      go_frame
      refine wpList_nil ?_
      go_upto_region 5 with (fail)
      refine wp_region_lit ?_
      refine ls_ex (some 11) (.agg #[.int .i64 p, .int .i64 a, .int .i64 b, .int .i64 d, .slice A N c]) rfl rfl (exec_load_all 29 _ rfl w.heap.size rfl _ _ _ h2 Try.underlying29 rfl 5 (by kernel_rfl) rfl) ?_
      go_frame
      refine ls_op rfl (fun K' hK' => ?_)
      refine wp_store_all 29 _ _ rfl rfl Wz2.heap.size rfl #[.int .i64 p, .int .i64 a, .int .i64 b, .int .i64 d, .slice A N c] rfl _ _ h4 5 (by kernel_rfl) rfl rfl (one5 _ _ _ _ _ _ _) (fun Wz19 pz20 => ?_)
      replace hB := pz20.below hB (by omega)
      replace h2 := pz20.other h2 (by omega)
      replace ho := ho.put pz20 (.inr rfl)
      replace h4 : At Wz19 Wz2.heap.size (.cells #[.int .i64 p, .int .i64 a, .int .i64 b, .int .i64 d, .slice A N c] 29 (0, 0)) := pz20.at_
      refine hK' _ _ ?_
      clear hK' K' pz20
      refine wpList_nil ?_
      go_wp2_with fail
      refine bodyPost_ret (results_at rfl _ _ Wz2.heap.size _ _ _ rfl h4 Try.underlying29 rfl 5 (by kernel_rfl) rfl) rfl ?_
      rw [HE.out]
      exact ⟨A, c, rfl, hNc, HL.out, HT.out, ho.1, hB⟩
set_option maxHeartbeats 4000000 in
theorem l05Turned_c (p : Int) (a0 b0 d0 S : Nat) (bB oB c0 N : Nat) (xs0 : List Int) (w : World) (hX : RdI w (some ⟨bB, oB, none⟩) xs0) (hxl : xs0.length = N) (hs : tenB p a0 b0 d0 xs0 = true) (hS : S ≤ 2) (hc0 : N ≤ c0) :
    Calls Try.prog 29 #[.agg #[.int .i64 p, .int .i64 a0, .int .i64 b0, .int .i64 d0, .slice (some ⟨bB, oB, none⟩) N c0], .int .i64 S] w (fun e w' => ∃ (A : Option Addr) (c : Nat), e = .returned (.agg #[.int .i64 p, .int .i64 (trn p S (a0, b0, d0, xs0)).1, .int .i64 (trn p S (a0, b0, d0, xs0)).2.1, .int .i64 (trn p S (a0, b0, d0, xs0)).2.2.1, .slice A N c]) ∧ N ≤ c ∧ (trn p S (a0, b0, d0, xs0)).2.2.2.length = N ∧ tenB p (trn p S (a0, b0, d0, xs0)).1 (trn p S (a0, b0, d0, xs0)).2.1 (trn p S (a0, b0, d0, xs0)).2.2.1 (trn p S (a0, b0, d0, xs0)).2.2.2 = true ∧ RdI w' A (trn p S (a0, b0, d0, xs0)).2.2.2 ∧ Below w.heap.size w w') := by
  have hB := Below.refl w.heap.size w
  have HL0 : Hid (xs0.length = N) := Lib.hid hxl
  have HT0 : Hid (tenB p a0 b0 d0 xs0 = true) := Lib.hid hs
  have hN0 : 0 < N := by
    have h9 := (ten_parts hs).2
    rw [← hxl, h9.2.2.2.1]
    exact Nat.mul_pos (Nat.mul_pos (by omega) (by omega)) (by omega)
  have hX0 : bB < w.heap.size := by
    obtain ⟨b, off, e, hc⟩ := hX.at_ (i := 0) (by rw [hxl]; exact hN0)
    have e2 := block_lt_of_cell hc
    simp only [Option.some.injEq, Addr.mk.injEq, and_true] at e
    rw [e.1]
    exact e2
  clear hxl hs
  go_enter Try.func29, Try.ntmps29
  go_upto_region 0 with (fail)
  refine wp_region_lit ?_
  refine ls_op rfl (fun K' hK' => ?_)
  have lz1 := hB.size
  refine wp_new (some 2) rfl (exec_box 29 _ rfl (#[.int .i64 p, .int .i64 a0, .int .i64 b0, .int .i64 d0, .slice (some ⟨bB, oB, none⟩) N c0]) rfl) (fun Wz2 nnz3 => ?_)
  have bz4 := nnz3.below (Below.refl _ _) (Nat.le_refl _)
  replace hB := below_after hB bz4
  have hz5 : At Wz2 w.heap.size (.cells #[.int .i64 p, .int .i64 a0, .int .i64 b0, .int .i64 d0, .slice (some ⟨bB, oB, none⟩) N c0] 29 (0, 0)) := nnz3.at_
  refine hK' _ _ ?_
  clear hK' K' nnz3 bz4
  go_frame
  refine ls_op rfl (fun K' hK' => ?_)
  have lz6 := hB.size
  have lz7 := hz5.lt
  refine wp_new (some 4) rfl (alSl_impl_Tensor rfl) (fun Wz8 nnz9 => ?_)
  have bz10 := nnz9.below (Below.refl _ _) (Nat.le_refl _)
  replace hB := below_after hB bz10
  replace hz5 := hz5.after bz10
  have hz11 : At Wz8 Wz2.heap.size (.cells #[.int .i64 0, .int .i64 0, .int .i64 0, .int .i64 0, .slice none 0 0] 29 (0, 0)) := nnz9.at_
  refine hK' _ _ ?_
  clear hK' K' nnz9 bz10
  go_frame
  refine wpList_nil ?_
  go_wp2_with fail
  go_loopw [1] (fun s1 wr => ∃ (t a b d : Nat) (xs : List Int) (A : Option Addr) (c : Nat), t ≤ S ∧ N ≤ c ∧ s1 = .int .i64 ((S : Int) - (t : Nat)) ∧ Hid (trn p t (a0, b0, d0, xs0) = (a, b, d, xs)) ∧ Hid (xs.length = N) ∧ Hid (tenB p a b d xs = true) ∧ Below w.heap.size w wr ∧ At wr w.heap.size (.cells #[.int .i64 p, .int .i64 a, .int .i64 b, .int .i64 d, .slice A N c] 29 (0, 0)) ∧ At wr Wz2.heap.size (.cells #[.int .i64 0, .int .i64 0, .int .i64 0, .int .i64 0, .slice none 0 0] 29 (0, 0)) ∧ RdX wr w.heap.size Wz2.heap.size A xs) (fun s1 _ => (intOf s1).toNat)
  case atStart => exact ⟨0, a0, b0, d0, xs0, _, _, by omega, hc0, by simp, Lib.hid rfl, HL0, HT0, hB, hz5, hz11, RdX.of_rd (hX.keep hB) (by omega) (by omega)⟩
  case round =>
    clear hB hz5 hz11
    obtain ⟨t, a, b, d, xs, A, c, hle, hNc, rfl, HR, HL, HT, hB, h2, h4, ho⟩ := hrel
    by_cases hlt : t < S
    · have HQ : Hid ((turnL p a b d xs).length = N) := Lib.hid (by rw [turnL_len, ← HL.out, (ten_parts HT.out).2.2.2.2.1]; exact Nat.mul_comm _ _ ▸ (Nat.mul_assoc _ _ _).symm)
      have HT2 : Hid (tenB p b d a (turnL p a b d xs) = true) := Lib.hid (turnL_ten HT.out)
      have HR2 : Hid (trn p (t + 1) (a0, b0, d0, xs0) = (b, d, a, turnL p a b d xs)) := Lib.hid (by rw [trn, HR.out])
      go_upto_region 1 with (fail)
      refine wp_region_lit ?_
      refine ls_ex (some 5) (.int .i64 ((S : Int) - (t : Nat))) rfl rfl (exec_move _ rfl (.int .i64 ((S : Int) - (t : Nat))) rfl) ?_
      go_frame
      refine ls_ex (some 6) (.bool true) rfl rfl (exec_gtr _ _ _ _ rfl (((S : Int) - (t : Nat))) 0 rfl rfl true (decide_eq_true (by omega))) ?_
      go_frame
      refine wpList_nil ?_
      go_upto_region 3 with (fail)
      refine wp_region_lit ?_
      refine ls_ex (some 9) (.agg #[.int .i64 p, .int .i64 a, .int .i64 b, .int .i64 d, .slice A N c]) rfl rfl (exec_load_all 29 _ rfl w.heap.size rfl _ _ _ h2 Try.underlying29 rfl 5 (by kernel_rfl) rfl) ?_
      go_frame
      refine ls_op rfl (fun K' hK' => ?_)
      have lz14 := hB.size
      have lz15 := h2.lt
      have lz16 := h4.lt
      have lt2 := h2.lt
      have lt4 := h4.lt
      refine wp_call1 (some 10) rfl 50 _ _ rfl (fun args w => by kernel_rfl) _ rfl _ (l05TurnN_c p a b d A c N xs _ ho.1 HL.out HT.out) (fun e Wz12 h => ?_)
      obtain ⟨v9, rfl, ho9, bz13⟩ := h
      replace hB := below_after hB bz13
      replace h2 := h2.after bz13
      replace h4 := h4.after bz13
      replace ho := ho.below bz13
      clear ho
      have ho := RdX.of_own (x := w.heap.size) (y := Wz2.heap.size) ho9 (by omega) (by omega) HQ.out hN0
      obtain ⟨A5, c5, rfl, hc5, ho⟩ := ho
      clear bz13
      refine ⟨_, rfl, ?_⟩
      refine hK' _ _ ?_
      clear hK' K'
      go_frame
      refine ls_op rfl (fun K' hK' => ?_)
      refine wp_store_all 29 _ _ rfl rfl w.heap.size rfl #[.int .i64 p, .int .i64 b, .int .i64 d, .int .i64 a, .slice A5 N c5] rfl _ _ h2 5 (by kernel_rfl) rfl rfl (one5 _ _ _ _ _ _ _) (fun Wz17 pz18 => ?_)
      replace hB := pz18.below hB (by omega)
      replace h4 := pz18.other h4 (by omega)
      replace ho := ho.put pz18 (.inl rfl)
      replace h2 : At Wz17 w.heap.size (.cells #[.int .i64 p, .int .i64 b, .int .i64 d, .int .i64 a, .slice A5 N c5] 29 (0, 0)) := pz18.at_
      refine hK' _ _ ?_
      clear hK' K' pz18
      refine wpList_nil ?_
      go_upto_region 2 with (fail)
      refine wp_region_lit ?_
      refine ls_ex (some 7) (.int .i64 ((S : Int) - (t : Nat))) rfl rfl (exec_move _ rfl (.int .i64 ((S : Int) - (t : Nat))) rfl) ?_
      go_frame
      refine ls_ex (some 8) (.int .i64 (((S : Int) - (t : Nat)) - 1)) rfl rfl (exec_sub _ _ _ _ rfl (((S : Int) - (t : Nat))) 1 (((S : Int) - (t : Nat)) - 1) rfl rfl (IntWalk.i64_in _ (by omega))) ?_
      go_frame
      refine ls_ex (some 1) (.int .i64 (((S : Int) - (t : Nat)) - 1)) rfl rfl (exec_assign _ rfl (.int .i64 (((S : Int) - (t : Nat)) - 1)) rfl) ?_
      go_frame
      refine wpList_nil ?_
      go_wp2_with fail
      go_roundw
      case rel => exact ⟨t + 1, b, d, a, _, A5, c5, by omega, hc5, by first | go_num | (congr 1; omega), HR2, HQ, HT2, hB, h2, h4, ho⟩
      case measure => simp [intOf] <;> omega
    · have HE : Hid (trn p S (a0, b0, d0, xs0) = (a, b, d, xs)) := Lib.hid (by rw [← HR.out, show t = S by omega])
      go_upto_region 1 with (fail)
      refine wp_region_lit ?_
      refine ls_ex (some 5) (.int .i64 ((S : Int) - (t : Nat))) rfl rfl (exec_move _ rfl (.int .i64 ((S : Int) - (t : Nat))) rfl) ?_
      go_frame
      refine ls_ex (some 6) (.bool false) rfl rfl (exec_gtr _ _ _ _ rfl (((S : Int) - (t : Nat))) 0 rfl rfl false (decide_eq_false (by omega))) ?_
      go_frame
      refine wpList_nil ?_
      go_upto_region 4 with (fail)
      refine wp_region_lit ?_
      refine ls_ex (some 11) (.agg #[.int .i64 p, .int .i64 a, .int .i64 b, .int .i64 d, .slice A N c]) rfl rfl (exec_load_all 29 _ rfl w.heap.size rfl _ _ _ h2 Try.underlying29 rfl 5 (by kernel_rfl) rfl) ?_
      go_frame
      refine ls_op rfl (fun K' hK' => ?_)
      refine wp_store_all 29 _ _ rfl rfl Wz2.heap.size rfl #[.int .i64 p, .int .i64 a, .int .i64 b, .int .i64 d, .slice A N c] rfl _ _ h4 5 (by kernel_rfl) rfl rfl (one5 _ _ _ _ _ _ _) (fun Wz19 pz20 => ?_)
      replace hB := pz20.below hB (by omega)
      replace h2 := pz20.other h2 (by omega)
      replace ho := ho.put pz20 (.inr rfl)
      replace h4 : At Wz19 Wz2.heap.size (.cells #[.int .i64 p, .int .i64 a, .int .i64 b, .int .i64 d, .slice A N c] 29 (0, 0)) := pz20.at_
      refine hK' _ _ ?_
      clear hK' K' pz20
      refine wpList_nil ?_
      go_wp2_with fail
      refine bodyPost_ret (results_at rfl _ _ Wz2.heap.size _ _ _ rfl h4 Try.underlying29 rfl 5 (by kernel_rfl) rfl) rfl ?_
      rw [HE.out]
      exact ⟨A, c, rfl, hNc, HL.out, HT.out, ho.1, hB⟩
end Go.Proofs.Ytolgfpcadfjliaa
