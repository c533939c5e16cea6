/-
  spec.l02Number. (Made by mknum2.py.)
-/
import Derived.Test.YtelicajipilhjaaNum1
import Derived.Test.YtelicajipilhjaaLK1
import Derived.Test.YtelicajipilhjaaHeldG
namespace Go.Proofs.Ytelicajipilhjaa
open Go.RowKit
set_option maxRecDepth 100000
set_option maxHeartbeats 6400000 in
theorem l02Number_c : ∀ (s n m k : Nat), n + m + k ≤ s → (1 ≤ n ∧ n ≤ 3) → (1 ≤ m ∧ m ≤ 3) → (1 ≤ k ∧ k ≤ 3) → ∀ w, Calls Try.prog 39 #[.agg #[.int .i64 n, .int .i64 m, .int .i64 k]] w fun e w' => e = .returned (.int .i64 (jn n m k : Nat)) ∧ Below w.heap.size w w'
  | 0, n, m, k, h, hn, _, _ => by omega
  | s + 1, n, m, k, hs, hn, hm, hk => by
    intro w
    have ih := fun n' m' k' h1 h2 h3 h4 => l02Number_c s n' m' k' h1 h2 h3 h4
    have HE : Hid (∀ {o : Oper} {a : Act} {w : World} (x y : Operand) (t' : TypeId) (n m k n' m' k' : Int), o.op = .binOp .eql 52 x y t' → a.eval x = .agg #[.int .i64 n, .int .i64 m, .int .i64 k] → a.eval y = .agg #[.int .i64 n', .int .i64 m', .int .i64 k'] → ∀ b, (n == n' && (m == m' && k == k')) = b → (execOp a.eval o).run Try.prog w = .ok (.value (.bool b)) w) := Lib.hid (fun x y t' n m k n' m' k' ho hx hy b hb => exec_eql_three Try.underlying52 (by kernel_rfl) x y t' ho n m k n' m' k' hx hy b hb)
    cases h1 : (n == 1 && (m == 1 && k == 1)) with
    | true =>
      have E1 : Hid (((n : Int) == 1 && ((m : Int) == 1 && (k : Int) == 1)) = true) := Lib.hid (by have := beq3 n m k 1; rw [h1] at this; exact this)
      have HJ : Hid (jn n m k = 1) := Lib.hid (by simp only [Bool.and_eq_true, beq_iff_eq] at h1; rw [h1.1, h1.2.1, h1.2.2]; rfl)
      clear h1 ih
      go_enter Try.func39, Try.ntmps39
      go_wp2_with (refine wpList_of_exec rfl (HE.out _ _ _ n m k 1 1 1 rfl rfl rfl true E1.out) ?_)
      go_ret
      exact ⟨by rw [HJ.out]; rfl, below1 _ _⟩
    | false =>
      have E1 : Hid (((n : Int) == 1 && ((m : Int) == 1 && (k : Int) == 1)) = false) := Lib.hid (by have := beq3 n m k 1; rw [h1] at this; exact this)
      cases h2 : (n == 2 && (m == 2 && k == 2)) with
      | true =>
        have E2 : Hid (((n : Int) == 2 && ((m : Int) == 2 && (k : Int) == 2)) = true) := Lib.hid (by have := beq3 n m k 2; rw [h2] at this; exact this)
        have HJ : Hid (jn n m k = 7) := Lib.hid (by simp only [Bool.and_eq_true, beq_iff_eq] at h2; rw [h2.1, h2.2.1, h2.2.2]; rfl)
        clear h1 h2 ih
        go_enter Try.func39, Try.ntmps39
        go_wp2_with (first | (refine wpList_of_exec rfl (HE.out _ _ _ n m k 1 1 1 rfl rfl rfl false E1.out) ?_) | (refine wpList_of_exec rfl (HE.out _ _ _ n m k 2 2 2 rfl rfl rfl true E2.out) ?_))
        go_ret
        exact ⟨by rw [HJ.out]; rfl, below1 _ _⟩
      | false =>
        have E2 : Hid (((n : Int) == 2 && ((m : Int) == 2 && (k : Int) == 2)) = false) := Lib.hid (by have := beq3 n m k 2; rw [h2] at this; exact this)
        have HJ := Lib.hid (jn_bs hn hm hk h1 h2).1
        clear h1 h2
        have hB := below1 w (.cells #[.int .i64 n, .int .i64 m, .int .i64 k] 52 (0, 0))
        have h0 : At (w.alloc (.cells #[.int .i64 n, .int .i64 m, .int .i64 k] 52 (0, 0))) w.heap.size (.cells #[.int .i64 n, .int .i64 m, .int .i64 k] 52 (0, 0)) := al1_0 _ _
        go_enter Try.func39, Try.ntmps39
        go_wp2_with (first | (refine wpList_of_exec rfl (HE.out _ _ _ n m k 1 1 1 rfl rfl rfl false E1.out) ?_) | (refine wpList_of_exec rfl (HE.out _ _ _ n m k 2 2 2 rfl rfl rfl false E2.out) ?_))
        go_loopw [3, 4] (fun bv i wr => Below w.heap.size w wr ∧ At wr w.heap.size (.cells #[.int .i64 n, .int .i64 m, .int .i64 k] 52 (0, 0)) ∧ ((i = .int .i64 0 ∧ bv = .int .i64 100) ∨ (i = .int .i64 1 ∧ bv = .int .i64 (bs1 n m k : Nat)) ∨ (i = .int .i64 2 ∧ bv = .int .i64 (bs2 n m k : Nat)) ∨ (i = .int .i64 3 ∧ bv = .int .i64 (bs3 n m k : Nat)))) (fun _ i _ => 3 - (intOf i).toNat)
        case atStart => exact ⟨hB, h0, .inl ⟨rfl, rfl⟩⟩
        case round =>
          clear hB h0
          obtain ⟨hB, h0, ⟨rfl, rfl⟩ | ⟨rfl, rfl⟩ | ⟨rfl, rfl⟩ | ⟨rfl, rfl⟩⟩ := hrel
          all_goals obtain ⟨wa, rfl⟩ : ∃ wa : World, wa = wr := ⟨_, rfl⟩
          · go_wp2_with fail
            go_loopw [3, 5] (fun bv i wr => ∃ a : Nat, 1 ≤ a ∧ a ≤ n ∧ i = .int .i64 a ∧ bv = .int .i64 (up (pt0 n m k) (100) (a - 1) : Nat) ∧ Below w.heap.size w wr ∧ At wr w.heap.size (.cells #[.int .i64 n, .int .i64 m, .int .i64 k] 52 (0, 0))) (fun _ i _ => n - (intOf i).toNat)
            case atStart => exact ⟨1, by omega, by omega, rfl, rfl, hB, h0⟩
            case round =>
              clear hB h0
              obtain ⟨a, ha1, ha, rfl, rfl, hB, h0⟩ := hrel
              have ck : wr.cell? ⟨w.heap.size, 0, none⟩ = some (.int .i64 n) := h0.at_ 0
              by_cases hlt : a < n
              · have e0 : IntKind.i64.wrap ((a : Int) + 1) = (a : Int) + 1 := IntWalk.i64_in _ (by omega)
                obtain ⟨r, hr⟩ : ∃ r, r = n - a := ⟨_, rfl⟩
                have HR : Hid (IntKind.i64.wrap ((n : Int) - (a : Int)) = (r : Int)) := Lib.hid (by rw [IntWalk.i64_in _ (by omega)]; omega)
                have HA := Lib.hid (ih a m k (by omega) (by omega) (by omega) (by omega))
                have HB2 := Lib.hid (ih r m k (by omega) (by omega) (by omega) (by omega))
                have hx := jn_le a m k
                have hy := jn_le r m k
                have HU : Hid (up (pt0 n m k) (100) (a + 1 - 1) = min (up (pt0 n m k) (100) (a - 1)) (jn a m k + jn r m k)) := Lib.hid (by
                  obtain ⟨a', rfl⟩ : ∃ a', a = a' + 1 := ⟨a - 1, by omega⟩
                  rw [hr]
                  rfl)
                clear hr
                have hbl : up (pt0 n m k) (100) (a - 1) ≤ 100 := Nat.le_trans (up_le _ _ _) (Nat.le_refl _)
                generalize jn a m k = x at *
                generalize jn r m k = y at *
                obtain ⟨z, hz⟩ : ∃ z, z = x + y := ⟨_, rfl⟩
                have HZ : Hid (IntKind.i64.wrap ((x : Int) + (y : Int)) = (z : Int)) := Lib.hid (by rw [IntWalk.i64_in _ (by omega)]; omega)
                rw [← hz] at HU
                clear hx hy hz
                generalize up (pt0 n m k) (100) (a - 1) = bb at *
                go_wp2_with fail
                refine wp_region_held (S := fun w' => At w' w.heap.size (.cells #[.int .i64 n, .int .i64 m, .int .i64 k] 52 (0, 0))) (by kernel_rfl) ?_
                change wpAnyH _ _ _ _ _ _ _ _ (World.drew _)
                generalize hwdc0 : World.drew _ = wdc0
                replace hB : Below w.heap.size w wdc0 := by rw [← hwdc0]; exact hB.drew
                replace h0 : At wdc0 w.heap.size (.cells #[.int .i64 n, .int .i64 m, .int .i64 k] 52 (0, 0)) := by rw [← hwdc0]; exact h0
                clear hwdc0
                refine held_yield 0 (some 25) (.agg #[.int .i64 n, .int .i64 m, .int .i64 k]) rfl (by kernel_rfl) (by kernel_rfl) (by kernel_rfl) (fun _ _ _ h => h) rfl rfl h0 (fun w' h' => exec_load_all 52 _ rfl w.heap.size rfl _ _ _ h' Try.underlying52 rfl 3 (by kernel_rfl) rfl) ?_
                go_frame
                refine held_yield 1 (some 26) (.int .i64 0) rfl (by kernel_rfl) (by kernel_rfl) (by kernel_rfl) (fun _ _ _ h => h) rfl rfl h0 (fun w' h' => exec_move _ rfl (.int .i64 0) rfl) ?_
                go_frame
                refine held_yield 2 (some 27) (.int .i64 a) rfl (by kernel_rfl) (by kernel_rfl) (by kernel_rfl) (fun _ _ _ h => h) rfl rfl h0 (fun w' h' => exec_move _ rfl (.int .i64 a) rfl) ?_
                go_frame
                refine held_yield 5 (some 30) (.agg #[.int .i64 n, .int .i64 m, .int .i64 k]) rfl (by kernel_rfl) (by kernel_rfl) (by kernel_rfl) (fun _ _ _ h => h) rfl rfl h0 (fun w' h' => exec_load_all 52 _ rfl w.heap.size rfl _ _ _ h' Try.underlying52 rfl 3 (by kernel_rfl) rfl) ?_
                go_frame
                refine held_yield 6 (some 31) (.int .i64 0) rfl (by kernel_rfl) (by kernel_rfl) (by kernel_rfl) (fun _ _ _ h => h) rfl rfl h0 (fun w' h' => exec_move _ rfl (.int .i64 0) rfl) ?_
                go_frame
                refine held_yield 7 (some 32) (.int .i64 0) rfl (by kernel_rfl) (by kernel_rfl) (by kernel_rfl) (fun _ _ _ h => h) rfl rfl h0 (fun w' h' => exec_move _ rfl (.int .i64 0) rfl) ?_
                go_frame
                refine held_yield 8 (some 33) (.pointer (some ⟨w.heap.size, 0, none⟩)) rfl (by kernel_rfl) (by kernel_rfl) (by kernel_rfl) (fun _ _ _ h => h) rfl rfl h0 (fun w' h' => exec_index_arr _ 2 _ _ rfl w.heap.size 0 3 0 1 rfl rfl Try.underlying52 (by kernel_rfl) (by omega)) ?_
                go_frame
                refine held_yield 9 (some 34) (.int .i64 n) rfl (by kernel_rfl) (by kernel_rfl) (by kernel_rfl) (fun _ _ _ h => h) rfl rfl h0 (fun w' h' => exec_load_one 2 _ rfl w.heap.size 0 rfl _ _ Try.underlying2 rfl (h'.at_ 0)) ?_
                go_frame
                refine held_yield 10 (some 35) (.int .i64 a) rfl (by kernel_rfl) (by kernel_rfl) (by kernel_rfl) (fun _ _ _ h => h) rfl rfl h0 (fun w' h' => exec_move _ rfl (.int .i64 a) rfl) ?_
                go_frame
                refine held_yield 11 (some 36) (.int .i64 r) rfl (by kernel_rfl) (by kernel_rfl) (by kernel_rfl) (fun _ _ _ h => h) rfl rfl h0 (fun w' h' => exec_sub _ _ _ _ rfl (n : Int) (a : Int) (r : Int) rfl rfl HR.out) ?_
                go_frame
                refine held_oper 3 (by kernel_rfl) rfl rfl (fun K' hK' => ?_)
                refine wp_call3 (some 28) rfl 57 _ _ _ _ rfl (fun args w => by kernel_rfl) _ _ _ rfl rfl rfl _ (l02Sizes_0 n m k a _) (fun e wnc01 h => ?_)
                obtain ⟨rfl, bc02⟩ := h
                replace hB := below_after hB bc02
                replace h0 := h0.after bc02
                clear bc02
                refine ⟨_, rfl, hK' _ _ h0 ?_⟩
                clear hK' K'
                go_frame
                refine held_oper 4 (by kernel_rfl) rfl rfl (fun K' hK' => ?_)
                refine wp_call1 (some 29) rfl 39 _ _ rfl (fun args w => by kernel_rfl) _ rfl _ (HA.out _) (fun e wnc03 h => ?_)
                obtain ⟨rfl, bc04⟩ := h
                replace hB := below_after hB bc04
                replace h0 := h0.after bc04
                clear bc04
                refine ⟨_, rfl, hK' _ _ h0 ?_⟩
                clear hK' K'
                go_frame
                refine held_oper 12 (by kernel_rfl) rfl rfl (fun K' hK' => ?_)
                refine wp_call3 (some 37) rfl 57 _ _ _ _ rfl (fun args w => by kernel_rfl) _ _ _ rfl rfl rfl _ (l02Sizes_0 n m k r _) (fun e wnc05 h => ?_)
                obtain ⟨rfl, bc06⟩ := h
                replace hB := below_after hB bc06
                replace h0 := h0.after bc06
                clear bc06
                refine ⟨_, rfl, hK' _ _ h0 ?_⟩
                clear hK' K'
                go_frame
                refine held_oper 13 (by kernel_rfl) rfl rfl (fun K' hK' => ?_)
                refine wp_call1 (some 38) rfl 39 _ _ rfl (fun args w => by kernel_rfl) _ rfl _ (HB2.out _) (fun e wnc07 h => ?_)
                obtain ⟨rfl, bc08⟩ := h
                replace hB := below_after hB bc08
                replace h0 := h0.after bc08
                clear bc08
                refine ⟨_, rfl, hK' _ _ h0 ?_⟩
                clear hK' K'
                go_frame
                refine held_yield 14 (some 39) (.int .i64 z) rfl (by kernel_rfl) (by kernel_rfl) (by kernel_rfl) (fun _ _ _ h => h) rfl rfl h0 (fun w' h' => exec_add _ _ _ _ rfl (x : Int) (y : Int) (z : Int) rfl rfl HZ.out) ?_
                go_frame
                refine held_yield 15 (some 6) (.int .i64 z) rfl (by kernel_rfl) (by kernel_rfl) (by kernel_rfl) (fun _ _ _ h => h) rfl rfl h0 (fun w' h' => exec_assign _ rfl (.int .i64 z) rfl) ?_
                go_frame
                refine wpAnyH_done (by kernel_rfl) ?_ _
                go_wp2_with fail
                go_roundw
                case rel => exact ⟨a + 1, by omega, by omega, by go_num, by rw [HU.out]; simp; split <;> omega, hB, h0⟩
                case measure => simp [intOf]; omega
              · obtain rfl : a = n := by omega
                go_wp2_with fail
                go_roundw
                case rel => exact ⟨hB, h0, .inr (.inl ⟨rfl, rfl⟩)⟩
                case measure => simp [intOf]
          · go_wp2_with fail
            go_loopw [3, 5] (fun bv i wr => ∃ a : Nat, 1 ≤ a ∧ a ≤ m ∧ i = .int .i64 a ∧ bv = .int .i64 (up (pt1 n m k) (bs1 n m k) (a - 1) : Nat) ∧ Below w.heap.size w wr ∧ At wr w.heap.size (.cells #[.int .i64 n, .int .i64 m, .int .i64 k] 52 (0, 0))) (fun _ i _ => m - (intOf i).toNat)
            case atStart => exact ⟨1, by omega, by omega, rfl, rfl, hB, h0⟩
            case round =>
              clear hB h0
              obtain ⟨a, ha1, ha, rfl, rfl, hB, h0⟩ := hrel
              have ck : wr.cell? ⟨w.heap.size, 1, none⟩ = some (.int .i64 m) := h0.at_ 1
              by_cases hlt : a < m
              · have e0 : IntKind.i64.wrap ((a : Int) + 1) = (a : Int) + 1 := IntWalk.i64_in _ (by omega)
                obtain ⟨r, hr⟩ : ∃ r, r = m - a := ⟨_, rfl⟩
                have HR : Hid (IntKind.i64.wrap ((m : Int) - (a : Int)) = (r : Int)) := Lib.hid (by rw [IntWalk.i64_in _ (by omega)]; omega)
                have HA := Lib.hid (ih n a k (by omega) (by omega) (by omega) (by omega))
                have HB2 := Lib.hid (ih n r k (by omega) (by omega) (by omega) (by omega))
                have hx := jn_le n a k
                have hy := jn_le n r k
                have HU : Hid (up (pt1 n m k) (bs1 n m k) (a + 1 - 1) = min (up (pt1 n m k) (bs1 n m k) (a - 1)) (jn n a k + jn n r k)) := Lib.hid (by
                  obtain ⟨a', rfl⟩ : ∃ a', a = a' + 1 := ⟨a - 1, by omega⟩
                  rw [hr]
                  rfl)
                clear hr
                have hbl : up (pt1 n m k) (bs1 n m k) (a - 1) ≤ 100 := Nat.le_trans (up_le _ _ _) (up_le _ _ _)
                generalize jn n a k = x at *
                generalize jn n r k = y at *
                obtain ⟨z, hz⟩ : ∃ z, z = x + y := ⟨_, rfl⟩
                have HZ : Hid (IntKind.i64.wrap ((x : Int) + (y : Int)) = (z : Int)) := Lib.hid (by rw [IntWalk.i64_in _ (by omega)]; omega)
                rw [← hz] at HU
                clear hx hy hz
                generalize up (pt1 n m k) (bs1 n m k) (a - 1) = bb at *
                go_wp2_with fail
                refine wp_region_held (S := fun w' => At w' w.heap.size (.cells #[.int .i64 n, .int .i64 m, .int .i64 k] 52 (0, 0))) (by kernel_rfl) ?_
                change wpAnyH _ _ _ _ _ _ _ _ (World.drew _)
                generalize hwdc1 : World.drew _ = wdc1
                replace hB : Below w.heap.size w wdc1 := by rw [← hwdc1]; exact hB.drew
                replace h0 : At wdc1 w.heap.size (.cells #[.int .i64 n, .int .i64 m, .int .i64 k] 52 (0, 0)) := by rw [← hwdc1]; exact h0
                clear hwdc1
                refine held_yield 0 (some 25) (.agg #[.int .i64 n, .int .i64 m, .int .i64 k]) rfl (by kernel_rfl) (by kernel_rfl) (by kernel_rfl) (fun _ _ _ h => h) rfl rfl h0 (fun w' h' => exec_load_all 52 _ rfl w.heap.size rfl _ _ _ h' Try.underlying52 rfl 3 (by kernel_rfl) rfl) ?_
                go_frame
                refine held_yield 1 (some 26) (.int .i64 1) rfl (by kernel_rfl) (by kernel_rfl) (by kernel_rfl) (fun _ _ _ h => h) rfl rfl h0 (fun w' h' => exec_move _ rfl (.int .i64 1) rfl) ?_
                go_frame
                refine held_yield 2 (some 27) (.int .i64 a) rfl (by kernel_rfl) (by kernel_rfl) (by kernel_rfl) (fun _ _ _ h => h) rfl rfl h0 (fun w' h' => exec_move _ rfl (.int .i64 a) rfl) ?_
                go_frame
                refine held_yield 5 (some 30) (.agg #[.int .i64 n, .int .i64 m, .int .i64 k]) rfl (by kernel_rfl) (by kernel_rfl) (by kernel_rfl) (fun _ _ _ h => h) rfl rfl h0 (fun w' h' => exec_load_all 52 _ rfl w.heap.size rfl _ _ _ h' Try.underlying52 rfl 3 (by kernel_rfl) rfl) ?_
                go_frame
                refine held_yield 6 (some 31) (.int .i64 1) rfl (by kernel_rfl) (by kernel_rfl) (by kernel_rfl) (fun _ _ _ h => h) rfl rfl h0 (fun w' h' => exec_move _ rfl (.int .i64 1) rfl) ?_
                go_frame
                refine held_yield 7 (some 32) (.int .i64 1) rfl (by kernel_rfl) (by kernel_rfl) (by kernel_rfl) (fun _ _ _ h => h) rfl rfl h0 (fun w' h' => exec_move _ rfl (.int .i64 1) rfl) ?_
                go_frame
                refine held_yield 8 (some 33) (.pointer (some ⟨w.heap.size, 1, none⟩)) rfl (by kernel_rfl) (by kernel_rfl) (by kernel_rfl) (fun _ _ _ h => h) rfl rfl h0 (fun w' h' => exec_index_arr _ 2 _ _ rfl w.heap.size 0 3 1 1 rfl rfl Try.underlying52 (by kernel_rfl) (by omega)) ?_
                go_frame
                refine held_yield 9 (some 34) (.int .i64 m) rfl (by kernel_rfl) (by kernel_rfl) (by kernel_rfl) (fun _ _ _ h => h) rfl rfl h0 (fun w' h' => exec_load_one 2 _ rfl w.heap.size 1 rfl _ _ Try.underlying2 rfl (h'.at_ 1)) ?_
                go_frame
                refine held_yield 10 (some 35) (.int .i64 a) rfl (by kernel_rfl) (by kernel_rfl) (by kernel_rfl) (fun _ _ _ h => h) rfl rfl h0 (fun w' h' => exec_move _ rfl (.int .i64 a) rfl) ?_
                go_frame
                refine held_yield 11 (some 36) (.int .i64 r) rfl (by kernel_rfl) (by kernel_rfl) (by kernel_rfl) (fun _ _ _ h => h) rfl rfl h0 (fun w' h' => exec_sub _ _ _ _ rfl (m : Int) (a : Int) (r : Int) rfl rfl HR.out) ?_
                go_frame
                refine held_oper 3 (by kernel_rfl) rfl rfl (fun K' hK' => ?_)
                refine wp_call3 (some 28) rfl 57 _ _ _ _ rfl (fun args w => by kernel_rfl) _ _ _ rfl rfl rfl _ (l02Sizes_1 n m k a _) (fun e wnc11 h => ?_)
                obtain ⟨rfl, bc12⟩ := h
                replace hB := below_after hB bc12
                replace h0 := h0.after bc12
                clear bc12
                refine ⟨_, rfl, hK' _ _ h0 ?_⟩
                clear hK' K'
                go_frame
                refine held_oper 4 (by kernel_rfl) rfl rfl (fun K' hK' => ?_)
                refine wp_call1 (some 29) rfl 39 _ _ rfl (fun args w => by kernel_rfl) _ rfl _ (HA.out _) (fun e wnc13 h => ?_)
                obtain ⟨rfl, bc14⟩ := h
                replace hB := below_after hB bc14
                replace h0 := h0.after bc14
                clear bc14
                refine ⟨_, rfl, hK' _ _ h0 ?_⟩
                clear hK' K'
                go_frame
                refine held_oper 12 (by kernel_rfl) rfl rfl (fun K' hK' => ?_)
                refine wp_call3 (some 37) rfl 57 _ _ _ _ rfl (fun args w => by kernel_rfl) _ _ _ rfl rfl rfl _ (l02Sizes_1 n m k r _) (fun e wnc15 h => ?_)
                obtain ⟨rfl, bc16⟩ := h
                replace hB := below_after hB bc16
                replace h0 := h0.after bc16
                clear bc16
                refine ⟨_, rfl, hK' _ _ h0 ?_⟩
                clear hK' K'
                go_frame
                refine held_oper 13 (by kernel_rfl) rfl rfl (fun K' hK' => ?_)
                refine wp_call1 (some 38) rfl 39 _ _ rfl (fun args w => by kernel_rfl) _ rfl _ (HB2.out _) (fun e wnc17 h => ?_)
                obtain ⟨rfl, bc18⟩ := h
                replace hB := below_after hB bc18
                replace h0 := h0.after bc18
                clear bc18
                refine ⟨_, rfl, hK' _ _ h0 ?_⟩
                clear hK' K'
                go_frame
                refine held_yield 14 (some 39) (.int .i64 z) rfl (by kernel_rfl) (by kernel_rfl) (by kernel_rfl) (fun _ _ _ h => h) rfl rfl h0 (fun w' h' => exec_add _ _ _ _ rfl (x : Int) (y : Int) (z : Int) rfl rfl HZ.out) ?_
                go_frame
                refine held_yield 15 (some 6) (.int .i64 z) rfl (by kernel_rfl) (by kernel_rfl) (by kernel_rfl) (fun _ _ _ h => h) rfl rfl h0 (fun w' h' => exec_assign _ rfl (.int .i64 z) rfl) ?_
                go_frame
                refine wpAnyH_done (by kernel_rfl) ?_ _
                go_wp2_with fail
                go_roundw
                case rel => exact ⟨a + 1, by omega, by omega, by go_num, by rw [HU.out]; simp; split <;> omega, hB, h0⟩
                case measure => simp [intOf]; omega
              · obtain rfl : a = m := by omega
                go_wp2_with fail
                go_roundw
                case rel => exact ⟨hB, h0, .inr (.inr (.inl ⟨rfl, rfl⟩))⟩
                case measure => simp [intOf]
          · go_wp2_with fail
            go_loopw [3, 5] (fun bv i wr => ∃ a : Nat, 1 ≤ a ∧ a ≤ k ∧ i = .int .i64 a ∧ bv = .int .i64 (up (pt2 n m k) (bs2 n m k) (a - 1) : Nat) ∧ Below w.heap.size w wr ∧ At wr w.heap.size (.cells #[.int .i64 n, .int .i64 m, .int .i64 k] 52 (0, 0))) (fun _ i _ => k - (intOf i).toNat)
            case atStart => exact ⟨1, by omega, by omega, rfl, rfl, hB, h0⟩
            case round =>
              clear hB h0
              obtain ⟨a, ha1, ha, rfl, rfl, hB, h0⟩ := hrel
              have ck : wr.cell? ⟨w.heap.size, 2, none⟩ = some (.int .i64 k) := h0.at_ 2
              by_cases hlt : a < k
              · have e0 : IntKind.i64.wrap ((a : Int) + 1) = (a : Int) + 1 := IntWalk.i64_in _ (by omega)
                obtain ⟨r, hr⟩ : ∃ r, r = k - a := ⟨_, rfl⟩
                have HR : Hid (IntKind.i64.wrap ((k : Int) - (a : Int)) = (r : Int)) := Lib.hid (by rw [IntWalk.i64_in _ (by omega)]; omega)
                have HA := Lib.hid (ih n m a (by omega) (by omega) (by omega) (by omega))
                have HB2 := Lib.hid (ih n m r (by omega) (by omega) (by omega) (by omega))
                have hx := jn_le n m a
                have hy := jn_le n m r
                have HU : Hid (up (pt2 n m k) (bs2 n m k) (a + 1 - 1) = min (up (pt2 n m k) (bs2 n m k) (a - 1)) (jn n m a + jn n m r)) := Lib.hid (by
                  obtain ⟨a', rfl⟩ : ∃ a', a = a' + 1 := ⟨a - 1, by omega⟩
                  rw [hr]
                  rfl)
                clear hr
                have hbl : up (pt2 n m k) (bs2 n m k) (a - 1) ≤ 100 := Nat.le_trans (up_le _ _ _) (Nat.le_trans (up_le _ _ _) (up_le _ _ _))
                generalize jn n m a = x at *
                generalize jn n m r = y at *
                obtain ⟨z, hz⟩ : ∃ z, z = x + y := ⟨_, rfl⟩
                have HZ : Hid (IntKind.i64.wrap ((x : Int) + (y : Int)) = (z : Int)) := Lib.hid (by rw [IntWalk.i64_in _ (by omega)]; omega)
                rw [← hz] at HU
                clear hx hy hz
                generalize up (pt2 n m k) (bs2 n m k) (a - 1) = bb at *
                go_wp2_with fail
                refine wp_region_held (S := fun w' => At w' w.heap.size (.cells #[.int .i64 n, .int .i64 m, .int .i64 k] 52 (0, 0))) (by kernel_rfl) ?_
                change wpAnyH _ _ _ _ _ _ _ _ (World.drew _)
                generalize hwdc2 : World.drew _ = wdc2
                replace hB : Below w.heap.size w wdc2 := by rw [← hwdc2]; exact hB.drew
                replace h0 : At wdc2 w.heap.size (.cells #[.int .i64 n, .int .i64 m, .int .i64 k] 52 (0, 0)) := by rw [← hwdc2]; exact h0
                clear hwdc2
                refine held_yield 0 (some 25) (.agg #[.int .i64 n, .int .i64 m, .int .i64 k]) rfl (by kernel_rfl) (by kernel_rfl) (by kernel_rfl) (fun _ _ _ h => h) rfl rfl h0 (fun w' h' => exec_load_all 52 _ rfl w.heap.size rfl _ _ _ h' Try.underlying52 rfl 3 (by kernel_rfl) rfl) ?_
                go_frame
                refine held_yield 1 (some 26) (.int .i64 2) rfl (by kernel_rfl) (by kernel_rfl) (by kernel_rfl) (fun _ _ _ h => h) rfl rfl h0 (fun w' h' => exec_move _ rfl (.int .i64 2) rfl) ?_
                go_frame
                refine held_yield 2 (some 27) (.int .i64 a) rfl (by kernel_rfl) (by kernel_rfl) (by kernel_rfl) (fun _ _ _ h => h) rfl rfl h0 (fun w' h' => exec_move _ rfl (.int .i64 a) rfl) ?_
                go_frame
                refine held_yield 5 (some 30) (.agg #[.int .i64 n, .int .i64 m, .int .i64 k]) rfl (by kernel_rfl) (by kernel_rfl) (by kernel_rfl) (fun _ _ _ h => h) rfl rfl h0 (fun w' h' => exec_load_all 52 _ rfl w.heap.size rfl _ _ _ h' Try.underlying52 rfl 3 (by kernel_rfl) rfl) ?_
                go_frame
                refine held_yield 6 (some 31) (.int .i64 2) rfl (by kernel_rfl) (by kernel_rfl) (by kernel_rfl) (fun _ _ _ h => h) rfl rfl h0 (fun w' h' => exec_move _ rfl (.int .i64 2) rfl) ?_
                go_frame
                refine held_yield 7 (some 32) (.int .i64 2) rfl (by kernel_rfl) (by kernel_rfl) (by kernel_rfl) (fun _ _ _ h => h) rfl rfl h0 (fun w' h' => exec_move _ rfl (.int .i64 2) rfl) ?_
                go_frame
                refine held_yield 8 (some 33) (.pointer (some ⟨w.heap.size, 2, none⟩)) rfl (by kernel_rfl) (by kernel_rfl) (by kernel_rfl) (fun _ _ _ h => h) rfl rfl h0 (fun w' h' => exec_index_arr _ 2 _ _ rfl w.heap.size 0 3 2 1 rfl rfl Try.underlying52 (by kernel_rfl) (by omega)) ?_
                go_frame
                refine held_yield 9 (some 34) (.int .i64 k) rfl (by kernel_rfl) (by kernel_rfl) (by kernel_rfl) (fun _ _ _ h => h) rfl rfl h0 (fun w' h' => exec_load_one 2 _ rfl w.heap.size 2 rfl _ _ Try.underlying2 rfl (h'.at_ 2)) ?_
                go_frame
                refine held_yield 10 (some 35) (.int .i64 a) rfl (by kernel_rfl) (by kernel_rfl) (by kernel_rfl) (fun _ _ _ h => h) rfl rfl h0 (fun w' h' => exec_move _ rfl (.int .i64 a) rfl) ?_
                go_frame
                refine held_yield 11 (some 36) (.int .i64 r) rfl (by kernel_rfl) (by kernel_rfl) (by kernel_rfl) (fun _ _ _ h => h) rfl rfl h0 (fun w' h' => exec_sub _ _ _ _ rfl (k : Int) (a : Int) (r : Int) rfl rfl HR.out) ?_
                go_frame
                refine held_oper 3 (by kernel_rfl) rfl rfl (fun K' hK' => ?_)
                refine wp_call3 (some 28) rfl 57 _ _ _ _ rfl (fun args w => by kernel_rfl) _ _ _ rfl rfl rfl _ (l02Sizes_2 n m k a _) (fun e wnc21 h => ?_)
                obtain ⟨rfl, bc22⟩ := h
                replace hB := below_after hB bc22
                replace h0 := h0.after bc22
                clear bc22
                refine ⟨_, rfl, hK' _ _ h0 ?_⟩
                clear hK' K'
                go_frame
                refine held_oper 4 (by kernel_rfl) rfl rfl (fun K' hK' => ?_)
                refine wp_call1 (some 29) rfl 39 _ _ rfl (fun args w => by kernel_rfl) _ rfl _ (HA.out _) (fun e wnc23 h => ?_)
                obtain ⟨rfl, bc24⟩ := h
                replace hB := below_after hB bc24
                replace h0 := h0.after bc24
                clear bc24
                refine ⟨_, rfl, hK' _ _ h0 ?_⟩
                clear hK' K'
                go_frame
                refine held_oper 12 (by kernel_rfl) rfl rfl (fun K' hK' => ?_)
                refine wp_call3 (some 37) rfl 57 _ _ _ _ rfl (fun args w => by kernel_rfl) _ _ _ rfl rfl rfl _ (l02Sizes_2 n m k r _) (fun e wnc25 h => ?_)
                obtain ⟨rfl, bc26⟩ := h
                replace hB := below_after hB bc26
                replace h0 := h0.after bc26
                clear bc26
                refine ⟨_, rfl, hK' _ _ h0 ?_⟩
                clear hK' K'
                go_frame
                refine held_oper 13 (by kernel_rfl) rfl rfl (fun K' hK' => ?_)
                refine wp_call1 (some 38) rfl 39 _ _ rfl (fun args w => by kernel_rfl) _ rfl _ (HB2.out _) (fun e wnc27 h => ?_)
                obtain ⟨rfl, bc28⟩ := h
                replace hB := below_after hB bc28
                replace h0 := h0.after bc28
                clear bc28
                refine ⟨_, rfl, hK' _ _ h0 ?_⟩
                clear hK' K'
                go_frame
                refine held_yield 14 (some 39) (.int .i64 z) rfl (by kernel_rfl) (by kernel_rfl) (by kernel_rfl) (fun _ _ _ h => h) rfl rfl h0 (fun w' h' => exec_add _ _ _ _ rfl (x : Int) (y : Int) (z : Int) rfl rfl HZ.out) ?_
                go_frame
                refine held_yield 15 (some 6) (.int .i64 z) rfl (by kernel_rfl) (by kernel_rfl) (by kernel_rfl) (fun _ _ _ h => h) rfl rfl h0 (fun w' h' => exec_assign _ rfl (.int .i64 z) rfl) ?_
                go_frame
                refine wpAnyH_done (by kernel_rfl) ?_ _
                go_wp2_with fail
                go_roundw
                case rel => exact ⟨a + 1, by omega, by omega, by go_num, by rw [HU.out]; simp; split <;> omega, hB, h0⟩
                case measure => simp [intOf]; omega
              · obtain rfl : a = k := by omega
                go_wp2_with fail
                go_roundw
                case rel => exact ⟨hB, h0, .inr (.inr (.inr ⟨rfl, rfl⟩))⟩
                case measure => simp [intOf]
          · go_wp2_with fail
            go_ret
            exact ⟨by rw [HJ.out]; rfl, hB⟩
end Go.Proofs.Ytelicajipilhjaa
