/-
  impl.leastDivision, joinNumber. (Made by mknum3.py.)
-/
import Derived.Test.YtelicajipilhjaaNum1
import Derived.Test.YtelicajipilhjaaLK1
import Derived.Test.YtelicajipilhjaaHeldG
import Derived.Test.YtelicajipilhjaaHeldZ
namespace Go.Proofs.Ytelicajipilhjaa
open Go.RowKit
set_option maxRecDepth 100000
theorem hp0 (n m k a : Nat) : pt0 n m k a ≤ 100 := by have := jn_le a m k; have := jn_le (n - a) m k; unfold pt0; omega
theorem hp1 (n m k a : Nat) : pt1 n m k a ≤ 100 := by have := jn_le n a k; have := jn_le n (m - a) k; unfold pt1; omega
theorem hp2 (n m k a : Nat) : pt2 n m k a ≤ 100 := by have := jn_le n m a; have := jn_le n m (k - a); unfold pt2; omega
set_option maxHeartbeats 20000000 in
theorem leastDivision_of (n m k : Nat) (hn : 1 ≤ n ∧ n ≤ 3) (hm : 1 ≤ m ∧ m ≤ 3) (hk : 1 ≤ k ∧ k ≤ 3) (HJ : Hid (cs3 n m k = jn n m k))
    (ih : ∀ n' m' k' : Nat, n' + m' + k' < n + m + k → (1 ≤ n' ∧ n' ≤ 3) → (1 ≤ m' ∧ m' ≤ 3) → (1 ≤ k' ∧ k' ≤ 3) → ∀ w, Calls Try.prog 41 #[.agg #[.int .i64 n', .int .i64 m', .int .i64 k']] w fun e w' => e = .returned (.int .i64 (jn n' m' k' : Nat)) ∧ Below w.heap.size w w') (w : World) :
    Calls Try.prog 59 #[.agg #[.int .i64 n, .int .i64 m, .int .i64 k]] w fun e w' => ∃ f0 f1 f2 s0 s1 s2 ov : Int, e = .returned (.agg #[.int .i64 f0, .int .i64 f1, .int .i64 f2, .int .i64 s0, .int .i64 s1, .int .i64 s2, .int .i64 ov, .int .i64 (jn n m k : Nat)]) ∧ Below w.heap.size w w' := by
  have hB := below3 w (.cells #[.int .i64 n, .int .i64 m, .int .i64 k] 53 (0, 0)) (.cells #[.int .i64 0, .int .i64 0, .int .i64 0, .int .i64 0, .int .i64 0, .int .i64 0, .int .i64 0, .int .i64 0] 83 (0, 0)) (.cells #[.int .i64 0, .int .i64 0, .int .i64 0, .int .i64 0, .int .i64 0, .int .i64 0, .int .i64 0, .int .i64 0] 83 (0, 0))
  have h0 : At (((w.alloc (.cells #[.int .i64 n, .int .i64 m, .int .i64 k] 53 (0, 0))).alloc (.cells #[.int .i64 0, .int .i64 0, .int .i64 0, .int .i64 0, .int .i64 0, .int .i64 0, .int .i64 0, .int .i64 0] 83 (0, 0))).alloc (.cells #[.int .i64 0, .int .i64 0, .int .i64 0, .int .i64 0, .int .i64 0, .int .i64 0, .int .i64 0, .int .i64 0] 83 (0, 0))) w.heap.size (.cells #[.int .i64 n, .int .i64 m, .int .i64 k] 53 (0, 0)) := al3_0 _ _ _ _
  have h1 : At (((w.alloc (.cells #[.int .i64 n, .int .i64 m, .int .i64 k] 53 (0, 0))).alloc (.cells #[.int .i64 0, .int .i64 0, .int .i64 0, .int .i64 0, .int .i64 0, .int .i64 0, .int .i64 0, .int .i64 0] 83 (0, 0))).alloc (.cells #[.int .i64 0, .int .i64 0, .int .i64 0, .int .i64 0, .int .i64 0, .int .i64 0, .int .i64 0, .int .i64 0] 83 (0, 0))) (w.heap.size + 1) (.cells #[.int .i64 0, .int .i64 0, .int .i64 0, .int .i64 0, .int .i64 0, .int .i64 0, .int .i64 0, .int .i64 0] 83 (0, 0)) := al3_1 _ _ _ _
  have h2 : At (((w.alloc (.cells #[.int .i64 n, .int .i64 m, .int .i64 k] 53 (0, 0))).alloc (.cells #[.int .i64 0, .int .i64 0, .int .i64 0, .int .i64 0, .int .i64 0, .int .i64 0, .int .i64 0, .int .i64 0] 83 (0, 0))).alloc (.cells #[.int .i64 0, .int .i64 0, .int .i64 0, .int .i64 0, .int .i64 0, .int .i64 0, .int .i64 0, .int .i64 0] 83 (0, 0))) (w.heap.size + 1 + 1) (.cells #[.int .i64 0, .int .i64 0, .int .i64 0, .int .i64 0, .int .i64 0, .int .i64 0, .int .i64 0, .int .i64 (0 : Nat)] 83 (0, 0)) := al3_2 _ _ _ _
  go_enter Try.func59, Try.ntmps59
  go_wp2_with fail
  go_loopw [9] (fun i wr => Below w.heap.size w wr ∧ At wr w.heap.size (.cells #[.int .i64 n, .int .i64 m, .int .i64 k] 53 (0, 0)) ∧ At wr (w.heap.size + 1) (.cells #[.int .i64 0, .int .i64 0, .int .i64 0, .int .i64 0, .int .i64 0, .int .i64 0, .int .i64 0, .int .i64 0] 83 (0, 0)) ∧ ((i = .int .i64 0 ∧ ∃ f0 f1 f2 s0 s1 s2 ov : Int, At wr (w.heap.size + 1 + 1) (.cells #[.int .i64 f0, .int .i64 f1, .int .i64 f2, .int .i64 s0, .int .i64 s1, .int .i64 s2, .int .i64 ov, .int .i64 (0 : Nat)] 83 (0, 0))) ∨ (i = .int .i64 1 ∧ ∃ f0 f1 f2 s0 s1 s2 ov : Int, At wr (w.heap.size + 1 + 1) (.cells #[.int .i64 f0, .int .i64 f1, .int .i64 f2, .int .i64 s0, .int .i64 s1, .int .i64 s2, .int .i64 ov, .int .i64 (cs1 n m k : Nat)] 83 (0, 0))) ∨ (i = .int .i64 2 ∧ ∃ f0 f1 f2 s0 s1 s2 ov : Int, At wr (w.heap.size + 1 + 1) (.cells #[.int .i64 f0, .int .i64 f1, .int .i64 f2, .int .i64 s0, .int .i64 s1, .int .i64 s2, .int .i64 ov, .int .i64 (cs2 n m k : Nat)] 83 (0, 0))) ∨ (i = .int .i64 3 ∧ ∃ f0 f1 f2 s0 s1 s2 ov : Int, At wr (w.heap.size + 1 + 1) (.cells #[.int .i64 f0, .int .i64 f1, .int .i64 f2, .int .i64 s0, .int .i64 s1, .int .i64 s2, .int .i64 ov, .int .i64 (cs3 n m k : Nat)] 83 (0, 0))))) (fun i _ => 3 - (intOf i).toNat)
  case atStart => exact ⟨hB, h0, h1, .inl ⟨rfl, _, _, _, _, _, _, _, h2⟩⟩
  case round =>
    clear hB h0 h1 h2
    obtain ⟨hB, h0, h1, ⟨rfl, f0, f1, f2, s0, s1, s2, ov, h2⟩ | ⟨rfl, f0, f1, f2, s0, s1, s2, ov, h2⟩ | ⟨rfl, f0, f1, f2, s0, s1, s2, ov, h2⟩ | ⟨rfl, f0, f1, f2, s0, s1, s2, ov, h2⟩⟩ := hrel
    all_goals obtain ⟨wa, rfl⟩ : ∃ wa : World, wa = wr := ⟨_, rfl⟩
    · have HX : Hid (∀ {o : Oper} {a : Act} {w : World} (x i : Operand), o.op = .index 53 x i → a.eval x = .agg #[.int .i64 n, .int .i64 m, .int .i64 k] → a.eval i = .int .i64 0 → (execOp a.eval o).run Try.prog w = .ok (.value (.int .i64 n)) w) := Lib.hid (fun x i ho hx hi => exec_index_v 53 2 x i ho 3 0 _ _ hx hi Try.underlying53 _ Try.underlying2 rfl (by kernel_rfl) (by omega) rfl)
      go_wp2_with (refine wpList_of_exec rfl (HX.out _ _ rfl rfl rfl) ?_)
      clear HX
      go_loopw [6] (fun i wr => ∃ a : Nat, 1 ≤ a ∧ a ≤ n ∧ i = .int .i64 a ∧ Below w.heap.size w wr ∧ At wr w.heap.size (.cells #[.int .i64 n, .int .i64 m, .int .i64 k] 53 (0, 0)) ∧ At wr (w.heap.size + 1) (.cells #[.int .i64 0, .int .i64 0, .int .i64 0, .int .i64 0, .int .i64 0, .int .i64 0, .int .i64 0, .int .i64 0] 83 (0, 0)) ∧ ∃ f0 f1 f2 s0 s1 s2 ov : Int, At wr (w.heap.size + 1 + 1) (.cells #[.int .i64 f0, .int .i64 f1, .int .i64 f2, .int .i64 s0, .int .i64 s1, .int .i64 s2, .int .i64 ov, .int .i64 (up2 (pt0 n m k) (0) (a - 1) : Nat)] 83 (0, 0))) (fun i _ => n - (intOf i).toNat)
      case atStart => exact ⟨1, by omega, by omega, rfl, hB, h0, h1, _, _, _, _, _, _, _, h2⟩
      case round =>
        clear hB h0 h1 h2
        obtain ⟨a, ha1, ha, rfl, hB, h0, h1, f0, f1, f2, s0, s1, s2, ov, h2⟩ := hrel
        by_cases hlt : a < n
        · have e0 : IntKind.i64.wrap ((a : Int) + 1) = (a : Int) + 1 := IntWalk.i64_in _ (by omega)
          obtain ⟨r, hr⟩ : ∃ r, r = n - a := ⟨_, rfl⟩
          have hrr : IntKind.i64.wrap ((n : Int) - (a : Int)) = (r : Int) := by rw [IntWalk.i64_in _ (by omega)]; omega
          have HA := Lib.hid (ih a m k (by omega) (by omega) (by omega) (by omega))
          have HB2 := Lib.hid (ih r m k (by omega) (by omega) (by omega) (by omega))
          have hx := jn_le a m k
          have hy := jn_le r m k
          have hbl : up2 (pt0 n m k) (0) (a - 1) ≤ 100 := up2_le _ _ _ (Nat.zero_le _) (hp0 n m k)
          have HU : Hid (up2 (pt0 n m k) (0) (a + 1 - 1) = if up2 (pt0 n m k) (0) (a - 1) = 0 ∨ jn a m k + jn r m k < up2 (pt0 n m k) (0) (a - 1) then jn a m k + jn r m k else up2 (pt0 n m k) (0) (a - 1)) := Lib.hid (by
            obtain ⟨a', rfl⟩ : ∃ a', a = a' + 1 := ⟨a - 1, by omega⟩
            rw [hr]
            rfl)
          clear hr
          generalize jn a m k = x at *
          generalize jn r m k = y at *
          obtain ⟨z, hz⟩ : ∃ z, z = x + y := ⟨_, rfl⟩
          have HZ : Hid (IntKind.i64.wrap ((x : Int) + (y : Int)) = (z : Int)) := Lib.hid (by rw [IntWalk.i64_in _ (by omega)]; omega)
          rw [← hz] at HU
          clear hx hy hz
          generalize up2 (pt0 n m k) (0) (a - 1) = bb at *
          have bd := below1 wr (.cells #[.int .i64 a, .int .i64 m, .int .i64 k, .int .i64 r, .int .i64 m, .int .i64 k, .int .i64 0, .int .i64 0] 83 (0, 0))
          have l0 := h0.lt
          have l1 := h1.lt
          have l2 := h2.lt
          have lB := hB.size
          go_wp2_with (first | (refine wpList_load_all rfl 53 _ rfl w.heap.size rfl _ _ _ h0 Try.underlying53 rfl 3 (by kernel_rfl) rfl ?_) | (refine wpList_of_exec rfl (exec_build_div _ _ _ rfl n m k n m k 0 rfl rfl rfl) ?_))
          have hd : At (wr.alloc (.cells #[.int .i64 a, .int .i64 m, .int .i64 k, .int .i64 r, .int .i64 m, .int .i64 k, .int .i64 0, .int .i64 0] 83 (0, 0))) wr.heap.size (.cells #[.int .i64 a, .int .i64 m, .int .i64 k, .int .i64 r, .int .i64 m, .int .i64 k, .int .i64 0, .int .i64 0] 83 (0, 0)) := al1_0 _ _
          replace h0 := h0.after bd
          replace h1 := h1.after bd
          replace h2 := h2.after bd
          replace hB := below_after hB bd
          clear bd
          refine wp_region_z (z := 8) (S := fun w' => At w' wr.heap.size (.cells #[.int .i64 a, .int .i64 m, .int .i64 k, .int .i64 r, .int .i64 m, .int .i64 k, .int .i64 0, .int .i64 0] 83 (0, 0))) (by kernel_rfl) ?_
          change wpAnyZ _ _ _ _ _ _ _ _ _ (World.drew _)
          generalize hwdc0 : World.drew _ = wdc0
          replace hB : Below w.heap.size w wdc0 := by rw [← hwdc0]; exact hB.drew
          replace h0 : At wdc0 w.heap.size (.cells #[.int .i64 n, .int .i64 m, .int .i64 k] 53 (0, 0)) := by rw [← hwdc0]; exact h0
          replace h1 : At wdc0 (w.heap.size + 1) (.cells #[.int .i64 0, .int .i64 0, .int .i64 0, .int .i64 0, .int .i64 0, .int .i64 0, .int .i64 0, .int .i64 0] 83 (0, 0)) := by rw [← hwdc0]; exact h1
          replace h2 : At wdc0 (w.heap.size + 1 + 1) (.cells #[.int .i64 f0, .int .i64 f1, .int .i64 f2, .int .i64 s0, .int .i64 s1, .int .i64 s2, .int .i64 ov, .int .i64 (bb : Nat)] 83 (0, 0)) := by rw [← hwdc0]; exact h2
          replace hd : At wdc0 wr.heap.size (.cells #[.int .i64 a, .int .i64 m, .int .i64 k, .int .i64 r, .int .i64 m, .int .i64 k, .int .i64 0, .int .i64 0] 83 (0, 0)) := by rw [← hwdc0]; exact hd
          clear hwdc0
          refine z_yield 0 (some 32) (.pointer (some ⟨wr.heap.size, 0, none⟩)) rfl (by kernel_rfl) (by kernel_rfl) (by kernel_rfl) (by kernel_rfl) (fun _ _ _ h => h) rfl rfl hd (fun w' h' => exec_fieldAddr 83 _ 0 rfl _ (by kernel_rfl)) ?_
          go_frame
          refine z_yield 1 (some 33) (.agg #[.int .i64 a, .int .i64 m, .int .i64 k]) rfl (by kernel_rfl) (by kernel_rfl) (by kernel_rfl) (by kernel_rfl) (fun _ _ _ h => h) rfl rfl hd (fun w' h' => exec_load_lit 53 _ rfl wr.heap.size 0 rfl _ _ _ 3 h' Try.underlying53 rfl (by kernel_rfl) (by simp) _ rfl) ?_
          go_frame
          refine z_yield 3 (some 35) (.pointer (some ⟨wr.heap.size, 3, none⟩)) rfl (by kernel_rfl) (by kernel_rfl) (by kernel_rfl) (by kernel_rfl) (fun _ _ _ h => h) rfl rfl hd (fun w' h' => exec_fieldAddr 83 _ 1 rfl _ (by kernel_rfl)) ?_
          go_frame
          refine z_yield 4 (some 36) (.agg #[.int .i64 r, .int .i64 m, .int .i64 k]) rfl (by kernel_rfl) (by kernel_rfl) (by kernel_rfl) (by kernel_rfl) (fun _ _ _ h => h) rfl rfl hd (fun w' h' => exec_load_lit 53 _ rfl wr.heap.size 3 rfl _ _ _ 3 h' Try.underlying53 rfl (by kernel_rfl) (by simp) _ rfl) ?_
          go_frame
          refine z_oper 2 (by kernel_rfl) rfl rfl (fun K' hK' => ?_)
          refine wp_call1 (some 34) rfl 41 _ _ rfl (fun args w => by kernel_rfl) _ rfl _ (HA.out _) (fun e wnc01 h => ?_)
          obtain ⟨rfl, bc02⟩ := h
          replace hB := below_after hB bc02
          replace h0 := h0.after bc02
          replace h1 := h1.after bc02
          replace h2 := h2.after bc02
          replace hd := hd.after bc02
          clear bc02
          refine ⟨_, rfl, hK' _ _ (fun _ => hd) ?_⟩
          clear hK' K'
          go_frame
          refine z_oper 5 (by kernel_rfl) rfl rfl (fun K' hK' => ?_)
          refine wp_call1 (some 37) rfl 41 _ _ rfl (fun args w => by kernel_rfl) _ rfl _ (HB2.out _) (fun e wnc03 h => ?_)
          obtain ⟨rfl, bc04⟩ := h
          replace hB := below_after hB bc04
          replace h0 := h0.after bc04
          replace h1 := h1.after bc04
          replace h2 := h2.after bc04
          replace hd := hd.after bc04
          clear bc04
          refine ⟨_, rfl, hK' _ _ (fun _ => hd) ?_⟩
          clear hK' K'
          go_frame
          refine z_yield 6 (some 38) (.int .i64 z) rfl (by kernel_rfl) (by kernel_rfl) (by kernel_rfl) (by kernel_rfl) (fun _ _ _ h => h) rfl rfl hd (fun w' h' => exec_add _ _ _ _ rfl (x : Int) (y : Int) (z : Int) rfl rfl HZ.out) ?_
          go_frame
          refine z_yield 7 (some 39) (.pointer (some ⟨wr.heap.size, 7, none⟩)) rfl (by kernel_rfl) (by kernel_rfl) (by kernel_rfl) (by kernel_rfl) (fun _ _ _ h => h) rfl rfl hd (fun w' h' => exec_fieldAddr 83 _ 3 rfl _ (by kernel_rfl)) ?_
          go_frame
          refine z_oper 8 (by kernel_rfl) rfl rfl (fun K' hK' => ?_)
          refine wp_store_one 2 _ _ rfl rfl wr.heap.size 7 rfl (.int .i64 z) rfl rfl rfl _ _ hd (by kernel_rfl) (by simp) (fun wsc05 pc06 => ?_)
          replace hB := pc06.below hB (by omega)
          replace h0 := pc06.other h0 (by omega)
          replace h1 := pc06.other h1 (by omega)
          replace h2 := pc06.other h2 (by omega)
          replace hd : At wsc05 wr.heap.size (.cells #[.int .i64 a, .int .i64 m, .int .i64 k, .int .i64 r, .int .i64 m, .int .i64 k, .int .i64 0, .int .i64 z] 83 (0, 0)) := pc06.at_
          clear pc06
          refine hK' _ _ (fun h => absurd rfl h) ?_
          clear hK' K'
          refine z_done (by kernel_rfl) ?_ _
          have c7 : World.cell? _ ⟨w.heap.size + 1 + 1, 7, none⟩ = some (.int .i64 (bb : Nat)) := h2.at_ 7
          have d7 : World.cell? _ ⟨wr.heap.size, 7, none⟩ = some (.int .i64 (z : Nat)) := hd.at_ 7
          by_cases z0 : bb = 0
          · subst z0
            have HW : Hid (up2 (pt0 n m k) (0) (a + 1 - 1) = z) := Lib.hid (by rw [HU.out, if_pos (.inl rfl)])
            go_wp2_with (first | (refine wpList_load_all rfl 83 _ rfl wr.heap.size rfl _ _ _ hd Try.underlying83 rfl 8 (by kernel_rfl) rfl ?_) | (refine wpList_store_all rfl 83 _ _ rfl rfl (w.heap.size + 1 + 1) rfl _ rfl _ _ h2 8 (by kernel_rfl) rfl rfl (by intro x hx; simp at hx; rcases hx with rfl | rfl | rfl | rfl | rfl | rfl | rfl | rfl <;> rfl) ?_; intro W9 p9; replace hB := p9.below hB (by omega); replace h0 := p9.other h0 (by omega); replace h1 := p9.other h1 (by omega); replace h2 := p9.at_))
            go_roundw
            case rel => exact ⟨a + 1, by omega, by omega, by go_num, hB, h0, h1, _, _, _, _, _, _, _, by rw [HW.out]; exact h2⟩
            case measure => simp [intOf]; omega
          · have zb : ((bb : Int) == 0) = false := by rw [beq_eq_false_iff_ne]; omega
            by_cases zl : z < bb
            · have HW : Hid (up2 (pt0 n m k) (0) (a + 1 - 1) = z) := Lib.hid (by rw [HU.out, if_pos (.inr zl)])
              have dl : decide ((z : Int) < (bb : Int)) = true := by simp; omega
              go_wp2_with (first | (refine wpList_load_all rfl 83 _ rfl wr.heap.size rfl _ _ _ hd Try.underlying83 rfl 8 (by kernel_rfl) rfl ?_) | (refine wpList_store_all rfl 83 _ _ rfl rfl (w.heap.size + 1 + 1) rfl _ rfl _ _ h2 8 (by kernel_rfl) rfl rfl (by intro x hx; simp at hx; rcases hx with rfl | rfl | rfl | rfl | rfl | rfl | rfl | rfl <;> rfl) ?_; intro W9 p9; replace hB := p9.below hB (by omega); replace h0 := p9.other h0 (by omega); replace h1 := p9.other h1 (by omega); replace h2 := p9.at_))
              go_roundw
              case rel => exact ⟨a + 1, by omega, by omega, by go_num, hB, h0, h1, _, _, _, _, _, _, _, by rw [HW.out]; exact h2⟩
              case measure => simp [intOf]; omega
            · have HW : Hid (up2 (pt0 n m k) (0) (a + 1 - 1) = bb) := Lib.hid (by rw [HU.out, if_neg (by omega)])
              have dl : decide ((z : Int) < (bb : Int)) = false := by simp; omega
              go_wp2_with fail
              go_roundw
              case rel => exact ⟨a + 1, by omega, by omega, by go_num, hB, h0, h1, _, _, _, _, _, _, _, by rw [HW.out]; exact h2⟩
              case measure => simp [intOf]; omega
        · obtain rfl : a = n := by omega
          go_wp2_with fail
          go_roundw
          case rel => exact ⟨hB, h0, h1, .inr (.inl ⟨rfl, _, _, _, _, _, _, _, h2⟩)⟩
          case measure => simp [intOf]
    · have HX : Hid (∀ {o : Oper} {a : Act} {w : World} (x i : Operand), o.op = .index 53 x i → a.eval x = .agg #[.int .i64 n, .int .i64 m, .int .i64 k] → a.eval i = .int .i64 1 → (execOp a.eval o).run Try.prog w = .ok (.value (.int .i64 m)) w) := Lib.hid (fun x i ho hx hi => exec_index_v 53 2 x i ho 3 1 _ _ hx hi Try.underlying53 _ Try.underlying2 rfl (by kernel_rfl) (by omega) rfl)
      go_wp2_with (refine wpList_of_exec rfl (HX.out _ _ rfl rfl rfl) ?_)
      clear HX
      go_loopw [6] (fun i wr => ∃ a : Nat, 1 ≤ a ∧ a ≤ m ∧ i = .int .i64 a ∧ Below w.heap.size w wr ∧ At wr w.heap.size (.cells #[.int .i64 n, .int .i64 m, .int .i64 k] 53 (0, 0)) ∧ At wr (w.heap.size + 1) (.cells #[.int .i64 0, .int .i64 0, .int .i64 0, .int .i64 0, .int .i64 0, .int .i64 0, .int .i64 0, .int .i64 0] 83 (0, 0)) ∧ ∃ f0 f1 f2 s0 s1 s2 ov : Int, At wr (w.heap.size + 1 + 1) (.cells #[.int .i64 f0, .int .i64 f1, .int .i64 f2, .int .i64 s0, .int .i64 s1, .int .i64 s2, .int .i64 ov, .int .i64 (up2 (pt1 n m k) (cs1 n m k) (a - 1) : Nat)] 83 (0, 0))) (fun i _ => m - (intOf i).toNat)
      case atStart => exact ⟨1, by omega, by omega, rfl, hB, h0, h1, _, _, _, _, _, _, _, h2⟩
      case round =>
        clear hB h0 h1 h2
        obtain ⟨a, ha1, ha, rfl, hB, h0, h1, f0, f1, f2, s0, s1, s2, ov, h2⟩ := hrel
        by_cases hlt : a < m
        · have e0 : IntKind.i64.wrap ((a : Int) + 1) = (a : Int) + 1 := IntWalk.i64_in _ (by omega)
          obtain ⟨r, hr⟩ : ∃ r, r = m - a := ⟨_, rfl⟩
          have hrr : IntKind.i64.wrap ((m : Int) - (a : Int)) = (r : Int) := by rw [IntWalk.i64_in _ (by omega)]; omega
          have HA := Lib.hid (ih n a k (by omega) (by omega) (by omega) (by omega))
          have HB2 := Lib.hid (ih n r k (by omega) (by omega) (by omega) (by omega))
          have hx := jn_le n a k
          have hy := jn_le n r k
          have hbl : up2 (pt1 n m k) (cs1 n m k) (a - 1) ≤ 100 := up2_le _ _ _ (up2_le _ _ _ (Nat.zero_le _) (hp0 n m k)) (hp1 n m k)
          have HU : Hid (up2 (pt1 n m k) (cs1 n m k) (a + 1 - 1) = if up2 (pt1 n m k) (cs1 n m k) (a - 1) = 0 ∨ jn n a k + jn n r k < up2 (pt1 n m k) (cs1 n m k) (a - 1) then jn n a k + jn n r k else up2 (pt1 n m k) (cs1 n m k) (a - 1)) := Lib.hid (by
            obtain ⟨a', rfl⟩ : ∃ a', a = a' + 1 := ⟨a - 1, by omega⟩
            rw [hr]
            rfl)
          clear hr
          generalize jn n a k = x at *
          generalize jn n r k = y at *
          obtain ⟨z, hz⟩ : ∃ z, z = x + y := ⟨_, rfl⟩
          have HZ : Hid (IntKind.i64.wrap ((x : Int) + (y : Int)) = (z : Int)) := Lib.hid (by rw [IntWalk.i64_in _ (by omega)]; omega)
          rw [← hz] at HU
          clear hx hy hz
          generalize up2 (pt1 n m k) (cs1 n m k) (a - 1) = bb at *
          have bd := below1 wr (.cells #[.int .i64 n, .int .i64 a, .int .i64 k, .int .i64 n, .int .i64 r, .int .i64 k, .int .i64 1, .int .i64 0] 83 (0, 0))
          have l0 := h0.lt
          have l1 := h1.lt
          have l2 := h2.lt
          have lB := hB.size
          go_wp2_with (first | (refine wpList_load_all rfl 53 _ rfl w.heap.size rfl _ _ _ h0 Try.underlying53 rfl 3 (by kernel_rfl) rfl ?_) | (refine wpList_of_exec rfl (exec_build_div _ _ _ rfl n m k n m k 1 rfl rfl rfl) ?_))
          have hd : At (wr.alloc (.cells #[.int .i64 n, .int .i64 a, .int .i64 k, .int .i64 n, .int .i64 r, .int .i64 k, .int .i64 1, .int .i64 0] 83 (0, 0))) wr.heap.size (.cells #[.int .i64 n, .int .i64 a, .int .i64 k, .int .i64 n, .int .i64 r, .int .i64 k, .int .i64 1, .int .i64 0] 83 (0, 0)) := al1_0 _ _
          replace h0 := h0.after bd
          replace h1 := h1.after bd
          replace h2 := h2.after bd
          replace hB := below_after hB bd
          clear bd
          refine wp_region_z (z := 8) (S := fun w' => At w' wr.heap.size (.cells #[.int .i64 n, .int .i64 a, .int .i64 k, .int .i64 n, .int .i64 r, .int .i64 k, .int .i64 1, .int .i64 0] 83 (0, 0))) (by kernel_rfl) ?_
          change wpAnyZ _ _ _ _ _ _ _ _ _ (World.drew _)
          generalize hwdc1 : World.drew _ = wdc1
          replace hB : Below w.heap.size w wdc1 := by rw [← hwdc1]; exact hB.drew
          replace h0 : At wdc1 w.heap.size (.cells #[.int .i64 n, .int .i64 m, .int .i64 k] 53 (0, 0)) := by rw [← hwdc1]; exact h0
          replace h1 : At wdc1 (w.heap.size + 1) (.cells #[.int .i64 0, .int .i64 0, .int .i64 0, .int .i64 0, .int .i64 0, .int .i64 0, .int .i64 0, .int .i64 0] 83 (0, 0)) := by rw [← hwdc1]; exact h1
          replace h2 : At wdc1 (w.heap.size + 1 + 1) (.cells #[.int .i64 f0, .int .i64 f1, .int .i64 f2, .int .i64 s0, .int .i64 s1, .int .i64 s2, .int .i64 ov, .int .i64 (bb : Nat)] 83 (0, 0)) := by rw [← hwdc1]; exact h2
          replace hd : At wdc1 wr.heap.size (.cells #[.int .i64 n, .int .i64 a, .int .i64 k, .int .i64 n, .int .i64 r, .int .i64 k, .int .i64 1, .int .i64 0] 83 (0, 0)) := by rw [← hwdc1]; exact hd
          clear hwdc1
          refine z_yield 0 (some 32) (.pointer (some ⟨wr.heap.size, 0, none⟩)) rfl (by kernel_rfl) (by kernel_rfl) (by kernel_rfl) (by kernel_rfl) (fun _ _ _ h => h) rfl rfl hd (fun w' h' => exec_fieldAddr 83 _ 0 rfl _ (by kernel_rfl)) ?_
          go_frame
          refine z_yield 1 (some 33) (.agg #[.int .i64 n, .int .i64 a, .int .i64 k]) rfl (by kernel_rfl) (by kernel_rfl) (by kernel_rfl) (by kernel_rfl) (fun _ _ _ h => h) rfl rfl hd (fun w' h' => exec_load_lit 53 _ rfl wr.heap.size 0 rfl _ _ _ 3 h' Try.underlying53 rfl (by kernel_rfl) (by simp) _ rfl) ?_
          go_frame
          refine z_yield 3 (some 35) (.pointer (some ⟨wr.heap.size, 3, none⟩)) rfl (by kernel_rfl) (by kernel_rfl) (by kernel_rfl) (by kernel_rfl) (fun _ _ _ h => h) rfl rfl hd (fun w' h' => exec_fieldAddr 83 _ 1 rfl _ (by kernel_rfl)) ?_
          go_frame
          refine z_yield 4 (some 36) (.agg #[.int .i64 n, .int .i64 r, .int .i64 k]) rfl (by kernel_rfl) (by kernel_rfl) (by kernel_rfl) (by kernel_rfl) (fun _ _ _ h => h) rfl rfl hd (fun w' h' => exec_load_lit 53 _ rfl wr.heap.size 3 rfl _ _ _ 3 h' Try.underlying53 rfl (by kernel_rfl) (by simp) _ rfl) ?_
          go_frame
          refine z_oper 2 (by kernel_rfl) rfl rfl (fun K' hK' => ?_)
          refine wp_call1 (some 34) rfl 41 _ _ rfl (fun args w => by kernel_rfl) _ rfl _ (HA.out _) (fun e wnc11 h => ?_)
          obtain ⟨rfl, bc12⟩ := h
          replace hB := below_after hB bc12
          replace h0 := h0.after bc12
          replace h1 := h1.after bc12
          replace h2 := h2.after bc12
          replace hd := hd.after bc12
          clear bc12
          refine ⟨_, rfl, hK' _ _ (fun _ => hd) ?_⟩
          clear hK' K'
          go_frame
          refine z_oper 5 (by kernel_rfl) rfl rfl (fun K' hK' => ?_)
          refine wp_call1 (some 37) rfl 41 _ _ rfl (fun args w => by kernel_rfl) _ rfl _ (HB2.out _) (fun e wnc13 h => ?_)
          obtain ⟨rfl, bc14⟩ := h
          replace hB := below_after hB bc14
          replace h0 := h0.after bc14
          replace h1 := h1.after bc14
          replace h2 := h2.after bc14
          replace hd := hd.after bc14
          clear bc14
          refine ⟨_, rfl, hK' _ _ (fun _ => hd) ?_⟩
          clear hK' K'
          go_frame
          refine z_yield 6 (some 38) (.int .i64 z) rfl (by kernel_rfl) (by kernel_rfl) (by kernel_rfl) (by kernel_rfl) (fun _ _ _ h => h) rfl rfl hd (fun w' h' => exec_add _ _ _ _ rfl (x : Int) (y : Int) (z : Int) rfl rfl HZ.out) ?_
          go_frame
          refine z_yield 7 (some 39) (.pointer (some ⟨wr.heap.size, 7, none⟩)) rfl (by kernel_rfl) (by kernel_rfl) (by kernel_rfl) (by kernel_rfl) (fun _ _ _ h => h) rfl rfl hd (fun w' h' => exec_fieldAddr 83 _ 3 rfl _ (by kernel_rfl)) ?_
          go_frame
          refine z_oper 8 (by kernel_rfl) rfl rfl (fun K' hK' => ?_)
          refine wp_store_one 2 _ _ rfl rfl wr.heap.size 7 rfl (.int .i64 z) rfl rfl rfl _ _ hd (by kernel_rfl) (by simp) (fun wsc15 pc16 => ?_)
          replace hB := pc16.below hB (by omega)
          replace h0 := pc16.other h0 (by omega)
          replace h1 := pc16.other h1 (by omega)
          replace h2 := pc16.other h2 (by omega)
          replace hd : At wsc15 wr.heap.size (.cells #[.int .i64 n, .int .i64 a, .int .i64 k, .int .i64 n, .int .i64 r, .int .i64 k, .int .i64 1, .int .i64 z] 83 (0, 0)) := pc16.at_
          clear pc16
          refine hK' _ _ (fun h => absurd rfl h) ?_
          clear hK' K'
          refine z_done (by kernel_rfl) ?_ _
          have c7 : World.cell? _ ⟨w.heap.size + 1 + 1, 7, none⟩ = some (.int .i64 (bb : Nat)) := h2.at_ 7
          have d7 : World.cell? _ ⟨wr.heap.size, 7, none⟩ = some (.int .i64 (z : Nat)) := hd.at_ 7
          by_cases z0 : bb = 0
          · subst z0
            have HW : Hid (up2 (pt1 n m k) (cs1 n m k) (a + 1 - 1) = z) := Lib.hid (by rw [HU.out, if_pos (.inl rfl)])
            go_wp2_with (first | (refine wpList_load_all rfl 83 _ rfl wr.heap.size rfl _ _ _ hd Try.underlying83 rfl 8 (by kernel_rfl) rfl ?_) | (refine wpList_store_all rfl 83 _ _ rfl rfl (w.heap.size + 1 + 1) rfl _ rfl _ _ h2 8 (by kernel_rfl) rfl rfl (by intro x hx; simp at hx; rcases hx with rfl | rfl | rfl | rfl | rfl | rfl | rfl | rfl <;> rfl) ?_; intro W9 p9; replace hB := p9.below hB (by omega); replace h0 := p9.other h0 (by omega); replace h1 := p9.other h1 (by omega); replace h2 := p9.at_))
            go_roundw
            case rel => exact ⟨a + 1, by omega, by omega, by go_num, hB, h0, h1, _, _, _, _, _, _, _, by rw [HW.out]; exact h2⟩
            case measure => simp [intOf]; omega
          · have zb : ((bb : Int) == 0) = false := by rw [beq_eq_false_iff_ne]; omega
            by_cases zl : z < bb
            · have HW : Hid (up2 (pt1 n m k) (cs1 n m k) (a + 1 - 1) = z) := Lib.hid (by rw [HU.out, if_pos (.inr zl)])
              have dl : decide ((z : Int) < (bb : Int)) = true := by simp; omega
              go_wp2_with (first | (refine wpList_load_all rfl 83 _ rfl wr.heap.size rfl _ _ _ hd Try.underlying83 rfl 8 (by kernel_rfl) rfl ?_) | (refine wpList_store_all rfl 83 _ _ rfl rfl (w.heap.size + 1 + 1) rfl _ rfl _ _ h2 8 (by kernel_rfl) rfl rfl (by intro x hx; simp at hx; rcases hx with rfl | rfl | rfl | rfl | rfl | rfl | rfl | rfl <;> rfl) ?_; intro W9 p9; replace hB := p9.below hB (by omega); replace h0 := p9.other h0 (by omega); replace h1 := p9.other h1 (by omega); replace h2 := p9.at_))
              go_roundw
              case rel => exact ⟨a + 1, by omega, by omega, by go_num, hB, h0, h1, _, _, _, _, _, _, _, by rw [HW.out]; exact h2⟩
              case measure => simp [intOf]; omega
            · have HW : Hid (up2 (pt1 n m k) (cs1 n m k) (a + 1 - 1) = bb) := Lib.hid (by rw [HU.out, if_neg (by omega)])
              have dl : decide ((z : Int) < (bb : Int)) = false := by simp; omega
              go_wp2_with fail
              go_roundw
              case rel => exact ⟨a + 1, by omega, by omega, by go_num, hB, h0, h1, _, _, _, _, _, _, _, by rw [HW.out]; exact h2⟩
              case measure => simp [intOf]; omega
        · obtain rfl : a = m := by omega
          go_wp2_with fail
          go_roundw
          case rel => exact ⟨hB, h0, h1, .inr (.inr (.inl ⟨rfl, _, _, _, _, _, _, _, h2⟩))⟩
          case measure => simp [intOf]
    · have HX : Hid (∀ {o : Oper} {a : Act} {w : World} (x i : Operand), o.op = .index 53 x i → a.eval x = .agg #[.int .i64 n, .int .i64 m, .int .i64 k] → a.eval i = .int .i64 2 → (execOp a.eval o).run Try.prog w = .ok (.value (.int .i64 k)) w) := Lib.hid (fun x i ho hx hi => exec_index_v 53 2 x i ho 3 2 _ _ hx hi Try.underlying53 _ Try.underlying2 rfl (by kernel_rfl) (by omega) rfl)
      go_wp2_with (refine wpList_of_exec rfl (HX.out _ _ rfl rfl rfl) ?_)
      clear HX
      go_loopw [6] (fun i wr => ∃ a : Nat, 1 ≤ a ∧ a ≤ k ∧ i = .int .i64 a ∧ Below w.heap.size w wr ∧ At wr w.heap.size (.cells #[.int .i64 n, .int .i64 m, .int .i64 k] 53 (0, 0)) ∧ At wr (w.heap.size + 1) (.cells #[.int .i64 0, .int .i64 0, .int .i64 0, .int .i64 0, .int .i64 0, .int .i64 0, .int .i64 0, .int .i64 0] 83 (0, 0)) ∧ ∃ f0 f1 f2 s0 s1 s2 ov : Int, At wr (w.heap.size + 1 + 1) (.cells #[.int .i64 f0, .int .i64 f1, .int .i64 f2, .int .i64 s0, .int .i64 s1, .int .i64 s2, .int .i64 ov, .int .i64 (up2 (pt2 n m k) (cs2 n m k) (a - 1) : Nat)] 83 (0, 0))) (fun i _ => k - (intOf i).toNat)
      case atStart => exact ⟨1, by omega, by omega, rfl, hB, h0, h1, _, _, _, _, _, _, _, h2⟩
      case round =>
        clear hB h0 h1 h2
        obtain ⟨a, ha1, ha, rfl, hB, h0, h1, f0, f1, f2, s0, s1, s2, ov, h2⟩ := hrel
        by_cases hlt : a < k
        · have e0 : IntKind.i64.wrap ((a : Int) + 1) = (a : Int) + 1 := IntWalk.i64_in _ (by omega)
          obtain ⟨r, hr⟩ : ∃ r, r = k - a := ⟨_, rfl⟩
          have hrr : IntKind.i64.wrap ((k : Int) - (a : Int)) = (r : Int) := by rw [IntWalk.i64_in _ (by omega)]; omega
          have HA := Lib.hid (ih n m a (by omega) (by omega) (by omega) (by omega))
          have HB2 := Lib.hid (ih n m r (by omega) (by omega) (by omega) (by omega))
          have hx := jn_le n m a
          have hy := jn_le n m r
          have hbl : up2 (pt2 n m k) (cs2 n m k) (a - 1) ≤ 100 := up2_le _ _ _ (up2_le _ _ _ (up2_le _ _ _ (Nat.zero_le _) (hp0 n m k)) (hp1 n m k)) (hp2 n m k)
          have HU : Hid (up2 (pt2 n m k) (cs2 n m k) (a + 1 - 1) = if up2 (pt2 n m k) (cs2 n m k) (a - 1) = 0 ∨ jn n m a + jn n m r < up2 (pt2 n m k) (cs2 n m k) (a - 1) then jn n m a + jn n m r else up2 (pt2 n m k) (cs2 n m k) (a - 1)) := Lib.hid (by
            obtain ⟨a', rfl⟩ : ∃ a', a = a' + 1 := ⟨a - 1, by omega⟩
            rw [hr]
            rfl)
          clear hr
          generalize jn n m a = x at *
          generalize jn n m r = y at *
          obtain ⟨z, hz⟩ : ∃ z, z = x + y := ⟨_, rfl⟩
          have HZ : Hid (IntKind.i64.wrap ((x : Int) + (y : Int)) = (z : Int)) := Lib.hid (by rw [IntWalk.i64_in _ (by omega)]; omega)
          rw [← hz] at HU
          clear hx hy hz
          generalize up2 (pt2 n m k) (cs2 n m k) (a - 1) = bb at *
          have bd := below1 wr (.cells #[.int .i64 n, .int .i64 m, .int .i64 a, .int .i64 n, .int .i64 m, .int .i64 r, .int .i64 2, .int .i64 0] 83 (0, 0))
          have l0 := h0.lt
          have l1 := h1.lt
          have l2 := h2.lt
          have lB := hB.size
          go_wp2_with (first | (refine wpList_load_all rfl 53 _ rfl w.heap.size rfl _ _ _ h0 Try.underlying53 rfl 3 (by kernel_rfl) rfl ?_) | (refine wpList_of_exec rfl (exec_build_div _ _ _ rfl n m k n m k 2 rfl rfl rfl) ?_))
          have hd : At (wr.alloc (.cells #[.int .i64 n, .int .i64 m, .int .i64 a, .int .i64 n, .int .i64 m, .int .i64 r, .int .i64 2, .int .i64 0] 83 (0, 0))) wr.heap.size (.cells #[.int .i64 n, .int .i64 m, .int .i64 a, .int .i64 n, .int .i64 m, .int .i64 r, .int .i64 2, .int .i64 0] 83 (0, 0)) := al1_0 _ _
          replace h0 := h0.after bd
          replace h1 := h1.after bd
          replace h2 := h2.after bd
          replace hB := below_after hB bd
          clear bd
          refine wp_region_z (z := 8) (S := fun w' => At w' wr.heap.size (.cells #[.int .i64 n, .int .i64 m, .int .i64 a, .int .i64 n, .int .i64 m, .int .i64 r, .int .i64 2, .int .i64 0] 83 (0, 0))) (by kernel_rfl) ?_
          change wpAnyZ _ _ _ _ _ _ _ _ _ (World.drew _)
          generalize hwdc2 : World.drew _ = wdc2
          replace hB : Below w.heap.size w wdc2 := by rw [← hwdc2]; exact hB.drew
          replace h0 : At wdc2 w.heap.size (.cells #[.int .i64 n, .int .i64 m, .int .i64 k] 53 (0, 0)) := by rw [← hwdc2]; exact h0
          replace h1 : At wdc2 (w.heap.size + 1) (.cells #[.int .i64 0, .int .i64 0, .int .i64 0, .int .i64 0, .int .i64 0, .int .i64 0, .int .i64 0, .int .i64 0] 83 (0, 0)) := by rw [← hwdc2]; exact h1
          replace h2 : At wdc2 (w.heap.size + 1 + 1) (.cells #[.int .i64 f0, .int .i64 f1, .int .i64 f2, .int .i64 s0, .int .i64 s1, .int .i64 s2, .int .i64 ov, .int .i64 (bb : Nat)] 83 (0, 0)) := by rw [← hwdc2]; exact h2
          replace hd : At wdc2 wr.heap.size (.cells #[.int .i64 n, .int .i64 m, .int .i64 a, .int .i64 n, .int .i64 m, .int .i64 r, .int .i64 2, .int .i64 0] 83 (0, 0)) := by rw [← hwdc2]; exact hd
          clear hwdc2
          refine z_yield 0 (some 32) (.pointer (some ⟨wr.heap.size, 0, none⟩)) rfl (by kernel_rfl) (by kernel_rfl) (by kernel_rfl) (by kernel_rfl) (fun _ _ _ h => h) rfl rfl hd (fun w' h' => exec_fieldAddr 83 _ 0 rfl _ (by kernel_rfl)) ?_
          go_frame
          refine z_yield 1 (some 33) (.agg #[.int .i64 n, .int .i64 m, .int .i64 a]) rfl (by kernel_rfl) (by kernel_rfl) (by kernel_rfl) (by kernel_rfl) (fun _ _ _ h => h) rfl rfl hd (fun w' h' => exec_load_lit 53 _ rfl wr.heap.size 0 rfl _ _ _ 3 h' Try.underlying53 rfl (by kernel_rfl) (by simp) _ rfl) ?_
          go_frame
          refine z_yield 3 (some 35) (.pointer (some ⟨wr.heap.size, 3, none⟩)) rfl (by kernel_rfl) (by kernel_rfl) (by kernel_rfl) (by kernel_rfl) (fun _ _ _ h => h) rfl rfl hd (fun w' h' => exec_fieldAddr 83 _ 1 rfl _ (by kernel_rfl)) ?_
          go_frame
          refine z_yield 4 (some 36) (.agg #[.int .i64 n, .int .i64 m, .int .i64 r]) rfl (by kernel_rfl) (by kernel_rfl) (by kernel_rfl) (by kernel_rfl) (fun _ _ _ h => h) rfl rfl hd (fun w' h' => exec_load_lit 53 _ rfl wr.heap.size 3 rfl _ _ _ 3 h' Try.underlying53 rfl (by kernel_rfl) (by simp) _ rfl) ?_
          go_frame
          refine z_oper 2 (by kernel_rfl) rfl rfl (fun K' hK' => ?_)
          refine wp_call1 (some 34) rfl 41 _ _ rfl (fun args w => by kernel_rfl) _ rfl _ (HA.out _) (fun e wnc21 h => ?_)
          obtain ⟨rfl, bc22⟩ := h
          replace hB := below_after hB bc22
          replace h0 := h0.after bc22
          replace h1 := h1.after bc22
          replace h2 := h2.after bc22
          replace hd := hd.after bc22
          clear bc22
          refine ⟨_, rfl, hK' _ _ (fun _ => hd) ?_⟩
          clear hK' K'
          go_frame
          refine z_oper 5 (by kernel_rfl) rfl rfl (fun K' hK' => ?_)
          refine wp_call1 (some 37) rfl 41 _ _ rfl (fun args w => by kernel_rfl) _ rfl _ (HB2.out _) (fun e wnc23 h => ?_)
          obtain ⟨rfl, bc24⟩ := h
          replace hB := below_after hB bc24
          replace h0 := h0.after bc24
          replace h1 := h1.after bc24
          replace h2 := h2.after bc24
          replace hd := hd.after bc24
          clear bc24
          refine ⟨_, rfl, hK' _ _ (fun _ => hd) ?_⟩
          clear hK' K'
          go_frame
          refine z_yield 6 (some 38) (.int .i64 z) rfl (by kernel_rfl) (by kernel_rfl) (by kernel_rfl) (by kernel_rfl) (fun _ _ _ h => h) rfl rfl hd (fun w' h' => exec_add _ _ _ _ rfl (x : Int) (y : Int) (z : Int) rfl rfl HZ.out) ?_
          go_frame
          refine z_yield 7 (some 39) (.pointer (some ⟨wr.heap.size, 7, none⟩)) rfl (by kernel_rfl) (by kernel_rfl) (by kernel_rfl) (by kernel_rfl) (fun _ _ _ h => h) rfl rfl hd (fun w' h' => exec_fieldAddr 83 _ 3 rfl _ (by kernel_rfl)) ?_
          go_frame
          refine z_oper 8 (by kernel_rfl) rfl rfl (fun K' hK' => ?_)
          refine wp_store_one 2 _ _ rfl rfl wr.heap.size 7 rfl (.int .i64 z) rfl rfl rfl _ _ hd (by kernel_rfl) (by simp) (fun wsc25 pc26 => ?_)
          replace hB := pc26.below hB (by omega)
          replace h0 := pc26.other h0 (by omega)
          replace h1 := pc26.other h1 (by omega)
          replace h2 := pc26.other h2 (by omega)
          replace hd : At wsc25 wr.heap.size (.cells #[.int .i64 n, .int .i64 m, .int .i64 a, .int .i64 n, .int .i64 m, .int .i64 r, .int .i64 2, .int .i64 z] 83 (0, 0)) := pc26.at_
          clear pc26
          refine hK' _ _ (fun h => absurd rfl h) ?_
          clear hK' K'
          refine z_done (by kernel_rfl) ?_ _
          have c7 : World.cell? _ ⟨w.heap.size + 1 + 1, 7, none⟩ = some (.int .i64 (bb : Nat)) := h2.at_ 7
          have d7 : World.cell? _ ⟨wr.heap.size, 7, none⟩ = some (.int .i64 (z : Nat)) := hd.at_ 7
          by_cases z0 : bb = 0
          · subst z0
            have HW : Hid (up2 (pt2 n m k) (cs2 n m k) (a + 1 - 1) = z) := Lib.hid (by rw [HU.out, if_pos (.inl rfl)])
            go_wp2_with (first | (refine wpList_load_all rfl 83 _ rfl wr.heap.size rfl _ _ _ hd Try.underlying83 rfl 8 (by kernel_rfl) rfl ?_) | (refine wpList_store_all rfl 83 _ _ rfl rfl (w.heap.size + 1 + 1) rfl _ rfl _ _ h2 8 (by kernel_rfl) rfl rfl (by intro x hx; simp at hx; rcases hx with rfl | rfl | rfl | rfl | rfl | rfl | rfl | rfl <;> rfl) ?_; intro W9 p9; replace hB := p9.below hB (by omega); replace h0 := p9.other h0 (by omega); replace h1 := p9.other h1 (by omega); replace h2 := p9.at_))
            go_roundw
            case rel => exact ⟨a + 1, by omega, by omega, by go_num, hB, h0, h1, _, _, _, _, _, _, _, by rw [HW.out]; exact h2⟩
            case measure => simp [intOf]; omega
          · have zb : ((bb : Int) == 0) = false := by rw [beq_eq_false_iff_ne]; omega
            by_cases zl : z < bb
            · have HW : Hid (up2 (pt2 n m k) (cs2 n m k) (a + 1 - 1) = z) := Lib.hid (by rw [HU.out, if_pos (.inr zl)])
              have dl : decide ((z : Int) < (bb : Int)) = true := by simp; omega
              go_wp2_with (first | (refine wpList_load_all rfl 83 _ rfl wr.heap.size rfl _ _ _ hd Try.underlying83 rfl 8 (by kernel_rfl) rfl ?_) | (refine wpList_store_all rfl 83 _ _ rfl rfl (w.heap.size + 1 + 1) rfl _ rfl _ _ h2 8 (by kernel_rfl) rfl rfl (by intro x hx; simp at hx; rcases hx with rfl | rfl | rfl | rfl | rfl | rfl | rfl | rfl <;> rfl) ?_; intro W9 p9; replace hB := p9.below hB (by omega); replace h0 := p9.other h0 (by omega); replace h1 := p9.other h1 (by omega); replace h2 := p9.at_))
              go_roundw
              case rel => exact ⟨a + 1, by omega, by omega, by go_num, hB, h0, h1, _, _, _, _, _, _, _, by rw [HW.out]; exact h2⟩
              case measure => simp [intOf]; omega
            · have HW : Hid (up2 (pt2 n m k) (cs2 n m k) (a + 1 - 1) = bb) := Lib.hid (by rw [HU.out, if_neg (by omega)])
              have dl : decide ((z : Int) < (bb : Int)) = false := by simp; omega
              go_wp2_with fail
              go_roundw
              case rel => exact ⟨a + 1, by omega, by omega, by go_num, hB, h0, h1, _, _, _, _, _, _, _, by rw [HW.out]; exact h2⟩
              case measure => simp [intOf]; omega
        · obtain rfl : a = k := by omega
          go_wp2_with fail
          go_roundw
          case rel => exact ⟨hB, h0, h1, .inr (.inr (.inr ⟨rfl, _, _, _, _, _, _, _, h2⟩))⟩
          case measure => simp [intOf]
    · rw [HJ.out] at h2
      go_wp2_with (first | (refine wpList_load_all rfl 83 _ rfl (w.heap.size + 1 + 1) rfl _ _ _ h2 Try.underlying83 rfl 8 (by kernel_rfl) rfl ?_) | (refine wpList_store_all rfl 83 _ _ rfl rfl (w.heap.size + 1) rfl _ rfl _ _ h1 8 (by kernel_rfl) rfl rfl (by intro x hx; simp at hx; rcases hx with rfl | rfl | rfl | rfl | rfl | rfl | rfl | rfl <;> rfl) ?_; intro W9 p9))
      refine bodyPost_ret (results_at rfl _ _ (w.heap.size + 1) _ _ _ rfl p9.at_ Try.underlying83 rfl 8 (by kernel_rfl) rfl) rfl ?_
      exact ⟨_, _, _, _, _, _, _, rfl, p9.below hB (by omega)⟩
end Go.Proofs.Ytelicajipilhjaa
