/-
  impl.StandardScheme.
-/
import Derived.Test.YtcmpeoijedddjaaStd3
import Derived.Test.YtcmpeoijedddjaaHeld
namespace Go.Proofs.Ytcmpeoijedddjaa
open Go.RowKit
set_option maxRecDepth 100000
theorem call_unit (args : Array Value) (w : World) : (callFunc 75 args).run Try.prog w = .ok (.enter 75 args) w := by kernel_rfl
theorem schemeB_nil (p n m k : Int) : schemeB p n m k [] = sizesB p n m k := by simp [schemeB]
def StdRelI (w : World) (p : Int) (N M K : Nat) (qs : List (List Nat)) (wr : World) : Prop :=
  ∃ v, KB w w.heap.size (w.heap.size + 1) p N M K qs v wr ∧ At wr w.heap.size (.cells #[.int .i64 0, .int .i64 0, .int .i64 0, .int .i64 0, .slice none 0 0] 40 (0, 0))
set_option maxHeartbeats 1600000 in
theorem implStandard_yes (p : Int) (N M K : Nat) (w : World) (hs : sizesB p N M K = true) :
    Calls Try.prog 53 #[.int .i64 p, .int .i64 N, .int .i64 M, .int .i64 K] w (ResS w p N M K (stdA M K N) 0) := by
  have hb := sizes_bounds hs
  have hN : N ≤ 3 := by omega
  have hM : M ≤ 3 := by omega
  have hK : K ≤ 3 := by omega
  have HI : Hid (∀ w, Calls Try.prog 46 #[.agg #[.int .i64 p, .int .i64 N, .int .i64 M, .int .i64 K, .slice none 0 0]] w fun e w' => e = .returned (.bool true) ∧ Below w.heap.size w w') := Lib.hid (fun w => by
    have := implIsScheme_c p N M K none 0 [] w (Rd.none_ _ _) (by simp)
    rw [schemeB_nil, hs] at this
    exact this)
  clear hs hb
  go_enter Try.func53, Try.ntmps53
  go_wp2_with fail
  refine (HI.out _).mono ?_
  rintro e w1 ⟨rfl, b1⟩
  have hR : StdRelI w p N M K [] w1 := ⟨_, ⟨below_after (below2 _ _ _) b1, Own.nil _ _, At.after (al2_1 _ _ _) b1, Nat.le_refl _, by omega⟩, At.after (al2_0 _ _ _) b1⟩
  clear b1
  go_wp2_with fail
  go_loopw [24] (fun i wr => ∃ a : Nat, a ≤ N ∧ i = .int .i64 a ∧ StdRelI w p N M K (stdA M K a) wr) (fun i _ => N - (intOf i).toNat)
  case atStart => exact ⟨0, by omega, rfl, hR⟩
  case round =>
    clear hR
    obtain ⟨a, ha, rfl, hR⟩ := hrel
    by_cases hlt : a < N
    · have e0 : IntKind.i64.wrap ((a : Int) + 1) = (a : Int) + 1 := IntWalk.i64_in _ (by omega)
      have HSA : Hid (stdA M K (a + 1) = stdA M K a ++ stdB M K a M) := Lib.hid rfl
      have lA := stdA_le hM hK (show a < 3 by omega)
      generalize stdA M K a = sA at *
      have HR := Lib.hid hR
      clear hR
      go_wp2_with fail
      go_loopw [28] (fun i wr => ∃ b : Nat, b ≤ M ∧ i = .int .i64 b ∧ StdRelI w p N M K (sA ++ stdB M K a b) wr) (fun i _ => M - (intOf i).toNat)
      case atStart => exact ⟨0, by omega, rfl, by rw [stdB, List.append_nil]; exact HR.out⟩
      case round =>
        clear HR
        obtain ⟨b, hb, rfl, hR⟩ := hrel
        by_cases hlt2 : b < M
        · have f0 : IntKind.i64.wrap ((b : Int) + 1) = (b : Int) + 1 := IntWalk.i64_in _ (by omega)
          have HSB : Hid (stdB M K a (b + 1) = stdB M K a b ++ stdC M K a b K) := Lib.hid rfl
          have lB := stdB_le (M := M) a hK (show b < 3 by omega)
          generalize stdB M K a b = sB at *
          have HR := Lib.hid hR
          clear hR
          go_wp2_with fail
          go_loopw [32] (fun i wr => ∃ c : Nat, c ≤ K ∧ i = .int .i64 c ∧ StdRelI w p N M K (sA ++ sB ++ stdC M K a b c) wr) (fun i _ => K - (intOf i).toNat)
          case atStart => exact ⟨0, by omega, rfl, by rw [stdC, List.append_nil]; exact HR.out⟩
          case round =>
            clear HR
            obtain ⟨c, hc, rfl, hR⟩ := hrel
            by_cases hlt3 : c < K
            · have g0 : IntKind.i64.wrap ((c : Int) + 1) = (c : Int) + 1 := IntWalk.i64_in _ (by omega)
              have HSC : Hid (stdC M K a b (c + 1) = stdC M K a b c ++ [unitL (a * M + b) ++ unitL (b * K + c) ++ unitL (a * K + c)]) := Lib.hid rfl
              have m1 := mul9 (a := a) hM (by omega) hlt2
              have m2 := mul9 (a := b) hK (by omega) hlt3
              have m3 := mul9 (a := a) hK (by omega) hlt3
              have lC : (stdC M K a b c).length ≤ 2 := by rw [stdC_len]; omega
              generalize stdC M K a b c = sC at *
              go_wp2_with fail
              obtain ⟨v, hB, hR⟩ := hR
              have E1 : Hid (IntKind.i64.wrap ((a : Int) * (M : Int)) = ((a * M : Nat) : Int)) := Lib.hid (by rw [Int.natCast_mul]; exact IntWalk.i64_in _ (by rw [← Int.natCast_mul]; omega))
              have E2 : Hid (IntKind.i64.wrap ((b : Int) * (K : Int)) = ((b * K : Nat) : Int)) := Lib.hid (by rw [Int.natCast_mul]; exact IntWalk.i64_in _ (by rw [← Int.natCast_mul]; omega))
              have E3 : Hid (IntKind.i64.wrap ((a : Int) * (K : Int)) = ((a * K : Nat) : Int)) := Lib.hid (by rw [Int.natCast_mul]; exact IntWalk.i64_in _ (by rw [← Int.natCast_mul]; omega))
              have F1 : Hid (IntKind.i64.wrap (((a * M : Nat) : Int) + (b : Int)) = ((a * M + b : Nat) : Int)) := Lib.hid (by rw [← Int.natCast_add]; exact IntWalk.i64_in _ (by omega))
              have F2 : Hid (IntKind.i64.wrap (((b * K : Nat) : Int) + (c : Int)) = ((b * K + c : Nat) : Int)) := Lib.hid (by rw [← Int.natCast_add]; exact IntWalk.i64_in _ (by omega))
              have F3 : Hid (IntKind.i64.wrap (((a * K : Nat) : Int) + (c : Int)) = ((a * K + c : Nat) : Int)) := Lib.hid (by rw [← Int.natCast_add]; exact IntWalk.i64_in _ (by omega))
              refine wp_region_any (by kernel_rfl) ?_
              change wpAny _ _ _ _ _ _ _ wr.drew
              replace hB := hB.drew
              replace hR : At wr.drew w.heap.size _ := hR
              refine any_yield 0 (some 35) (.pointer (some ⟨w.heap.size + 1, 4, none⟩)) rfl (by kernel_rfl) (by kernel_rfl) (by kernel_rfl) (fun _ _ _ h => h) rfl rfl (fun w' => exec_fieldAddr 40 _ 4 rfl _ (by kernel_rfl)) ?_
              go_frame
              refine any_yield 2 (some 37) (.int .i64 (a : Int)) rfl (by kernel_rfl) (by kernel_rfl) (by kernel_rfl) (fun _ _ _ h => h) rfl rfl (fun w' => exec_move _ rfl (.int .i64 (a : Int)) rfl) ?_
              go_frame
              refine any_yield 3 (some 38) (.int .i64 (M : Int)) rfl (by kernel_rfl) (by kernel_rfl) (by kernel_rfl) (fun _ _ _ h => h) rfl rfl (fun w' => exec_move _ rfl (.int .i64 (M : Int)) rfl) ?_
              go_frame
              refine any_yield 4 (some 39) (.int .i64 ((a * M : Nat) : Int)) rfl (by kernel_rfl) (by kernel_rfl) (by kernel_rfl) (fun _ _ _ h => h) rfl rfl (fun w' => exec_mul _ _ _ _ rfl (a : Int) (M : Int) _ rfl rfl E1.out) ?_
              go_frame
              refine any_yield 5 (some 40) (.int .i64 (b : Int)) rfl (by kernel_rfl) (by kernel_rfl) (by kernel_rfl) (fun _ _ _ h => h) rfl rfl (fun w' => exec_move _ rfl (.int .i64 (b : Int)) rfl) ?_
              go_frame
              refine any_yield 6 (some 41) (.int .i64 ((a * M + b : Nat) : Int)) rfl (by kernel_rfl) (by kernel_rfl) (by kernel_rfl) (fun _ _ _ h => h) rfl rfl (fun w' => exec_add _ _ _ _ rfl ((a * M : Nat) : Int) (b : Int) _ rfl rfl F1.out) ?_
              go_frame
              refine any_yield 8 (some 43) (.int .i64 (b : Int)) rfl (by kernel_rfl) (by kernel_rfl) (by kernel_rfl) (fun _ _ _ h => h) rfl rfl (fun w' => exec_move _ rfl (.int .i64 (b : Int)) rfl) ?_
              go_frame
              refine any_yield 9 (some 44) (.int .i64 (K : Int)) rfl (by kernel_rfl) (by kernel_rfl) (by kernel_rfl) (fun _ _ _ h => h) rfl rfl (fun w' => exec_move _ rfl (.int .i64 (K : Int)) rfl) ?_
              go_frame
              refine any_yield 10 (some 45) (.int .i64 ((b * K : Nat) : Int)) rfl (by kernel_rfl) (by kernel_rfl) (by kernel_rfl) (fun _ _ _ h => h) rfl rfl (fun w' => exec_mul _ _ _ _ rfl (b : Int) (K : Int) _ rfl rfl E2.out) ?_
              go_frame
              refine any_yield 11 (some 46) (.int .i64 (c : Int)) rfl (by kernel_rfl) (by kernel_rfl) (by kernel_rfl) (fun _ _ _ h => h) rfl rfl (fun w' => exec_move _ rfl (.int .i64 (c : Int)) rfl) ?_
              go_frame
              refine any_yield 12 (some 47) (.int .i64 ((b * K + c : Nat) : Int)) rfl (by kernel_rfl) (by kernel_rfl) (by kernel_rfl) (fun _ _ _ h => h) rfl rfl (fun w' => exec_add _ _ _ _ rfl ((b * K : Nat) : Int) (c : Int) _ rfl rfl F2.out) ?_
              go_frame
              refine any_yield 14 (some 49) (.int .i64 (a : Int)) rfl (by kernel_rfl) (by kernel_rfl) (by kernel_rfl) (fun _ _ _ h => h) rfl rfl (fun w' => exec_move _ rfl (.int .i64 (a : Int)) rfl) ?_
              go_frame
              refine any_yield 15 (some 50) (.int .i64 (K : Int)) rfl (by kernel_rfl) (by kernel_rfl) (by kernel_rfl) (fun _ _ _ h => h) rfl rfl (fun w' => exec_move _ rfl (.int .i64 (K : Int)) rfl) ?_
              go_frame
              refine any_yield 16 (some 51) (.int .i64 ((a * K : Nat) : Int)) rfl (by kernel_rfl) (by kernel_rfl) (by kernel_rfl) (fun _ _ _ h => h) rfl rfl (fun w' => exec_mul _ _ _ _ rfl (a : Int) (K : Int) _ rfl rfl E3.out) ?_
              go_frame
              refine any_yield 17 (some 52) (.int .i64 (c : Int)) rfl (by kernel_rfl) (by kernel_rfl) (by kernel_rfl) (fun _ _ _ h => h) rfl rfl (fun w' => exec_move _ rfl (.int .i64 (c : Int)) rfl) ?_
              go_frame
              refine any_yield 18 (some 53) (.int .i64 ((a * K + c : Nat) : Int)) rfl (by kernel_rfl) (by kernel_rfl) (by kernel_rfl) (fun _ _ _ h => h) rfl rfl (fun w' => exec_add _ _ _ _ rfl ((a * K : Nat) : Int) (c : Int) _ rfl rfl F3.out) ?_
              go_frame
              generalize wr.drew = W at *
              refine any_two 1 7 (by kernel_rfl) rfl rfl rfl rfl (fun K' hK' => ?_) (fun K' hK' => ?_)
              · refine wp_exec (some 36) rfl v (exec_load_one 38 _ rfl (w.heap.size + 1) 4 rfl v _ Try.underlying38 rfl hB.c4) (hK' _ _ ?_)
                clear hK' K'
                go_frame
                refine any_oper 7 (by kernel_rfl) rfl rfl (fun K' hK' => ?_)
                refine wp_call1 (some 42) rfl 75 _ _ rfl call_unit (.int .i64 ((a * M + b : Nat) : Int)) rfl _ (unitForm_c (a * M + b) m1 _) (fun e w2 h => ?_)
                obtain ⟨rfl, b2⟩ := h
                refine ⟨_, rfl, hK' _ _ ?_⟩
                replace hB := hB.after b2
                replace hR := hR.after b2
                clear hK' K' b2
                go_frame
                refine any_oper 13 (by kernel_rfl) rfl rfl (fun K' hK' => ?_)
                refine wp_call1 (some 48) rfl 75 _ _ rfl call_unit (.int .i64 ((b * K + c : Nat) : Int)) rfl _ (unitForm_c (b * K + c) m2 _) (fun e w2 h => ?_)
                obtain ⟨rfl, b2⟩ := h
                refine ⟨_, rfl, hK' _ _ ?_⟩
                replace hB := hB.after b2
                replace hR := hR.after b2
                clear hK' K' b2
                go_frame
                refine any_oper 19 (by kernel_rfl) rfl rfl (fun K' hK' => ?_)
                refine wp_call1 (some 54) rfl 75 _ _ rfl call_unit (.int .i64 ((a * K + c : Nat) : Int)) rfl _ (unitForm_c (a * K + c) m3 _) (fun e w2 h => ?_)
                obtain ⟨rfl, b2⟩ := h
                refine ⟨_, rfl, hK' _ _ ?_⟩
                replace hB := hB.after b2
                replace hR := hR.after b2
                clear hK' K' b2
                go_frame
                refine any_oper 20 (by kernel_rfl) rfl rfl (fun K' hK' => ?_)
                refine wp_exec (some 55) rfl (.agg (u8s (unitL (a * M + b) ++ unitL (b * K + c) ++ unitL (a * K + c)))) (exec_prod _ _ _ rfl _ _ _ rfl rfl rfl (unitL_len _) (unitL_len _) (unitL_len _)) (hK' _ _ ?_)
                clear hK' K'
                go_frame
                refine any_oper 21 (by kernel_rfl) rfl rfl (fun K' hK' => ?_)
                refine wp_slice1 (some 56) rfl 38 82 _ rfl (unitL (a * M + b) ++ unitL (b * K + c) ++ unitL (a * K + c)) rfl Try.underlying38 infoProd (unit3_bytes _ _ _).len (fun W7 n7 => hK' _ _ ?_)
                have x7 := cells_of_new n7
                replace hB := hB.new n7
                replace hR := n7.old hR
                clear hK' K' n7
                go_frame
                have hQb := unit3_bytes (a * M + b) (b * K + c) (a * K + c)
                generalize unitL (a * M + b) ++ unitL (b * K + c) ++ unitL (a * K + c) = qq at *
                obtain ⟨i0, hi, hz0, hz1, hz2⟩ := info_parts infoProd
                refine any_oper 22 (by kernel_rfl) rfl rfl (fun K' hK' => ?_)
                refine wp_append' (some 57) rfl _ _ 38 rfl w.heap.size 82 i0 (.agg (u8s (List.replicate 27 0))) 27 27 Try.underlying38 hi hz0 hz1 hz2 rfl (by decide) v _ _ rfl hB.own ⟨_, 0, none⟩ 1 1 (u8s qq).toList rfl (by simp [u8s_size, hQb.len]) x7 (u8s_one qq) (by unfold maxLen; simp; omega) (by simp; omega) hB.below.size ?_
                intro v1 W8 own8 gr8 nil8
                refine hK' _ _ ?_
                have hoff := hB.own.off hR (by decide)
                have G := hB.grow gr8 own8
                have hv1 := G.2.1.shp.cells
                replace hR := hR.grown gr8 hoff
                clear hK' K' own8 gr8 nil8 hoff
                go_frame
                refine any_exec 23 (some 58) (.pointer (some ⟨w.heap.size + 1, 4, none⟩)) (by kernel_rfl) rfl rfl rfl (exec_fieldAddr 40 _ 4 rfl _ (by kernel_rfl)) ?_
                go_frame
                refine any_oper 24 (by kernel_rfl) rfl rfl (fun K' hK' => ?_)
                refine wp_store_one 38 _ _ rfl rfl (w.heap.size + 1) 4 rfl v1 rfl hv1.1 hv1.2 _ _ G.2.2 (by kernel_rfl) (by simp) (fun W9 p9 => hK' _ _ ?_)
                replace hR := p9.other hR (by omega)
                refine wpAny_done (by kernel_rfl) ?_ _
                go_wp2_with fail
                exact ⟨⟨c + 1, by omega, by go_num, by rw [HSC.out, ← List.append_assoc]; exact ⟨v1, KB.put G (Nat.le_refl _) (by omega) (by exact p9), hR⟩⟩, by simp [intOf]; omega⟩
              · refine wp_call1 (some 42) rfl 75 _ _ rfl call_unit (.int .i64 ((a * M + b : Nat) : Int)) rfl _ (unitForm_c (a * M + b) m1 _) (fun e w2 h => ?_)
                obtain ⟨rfl, b2⟩ := h
                refine ⟨_, rfl, hK' _ _ ?_⟩
                replace hB := hB.after b2
                replace hR := hR.after b2
                clear hK' K' b2
                go_frame
                refine any_two 1 13 (by kernel_rfl) rfl rfl rfl rfl (fun K' hK' => ?_) (fun K' hK' => ?_)
                · refine wp_exec (some 36) rfl v (exec_load_one 38 _ rfl (w.heap.size + 1) 4 rfl v _ Try.underlying38 rfl hB.c4) (hK' _ _ ?_)
                  clear hK' K'
                  go_frame
                  refine any_oper 13 (by kernel_rfl) rfl rfl (fun K' hK' => ?_)
                  refine wp_call1 (some 48) rfl 75 _ _ rfl call_unit (.int .i64 ((b * K + c : Nat) : Int)) rfl _ (unitForm_c (b * K + c) m2 _) (fun e w2 h => ?_)
                  obtain ⟨rfl, b2⟩ := h
                  refine ⟨_, rfl, hK' _ _ ?_⟩
                  replace hB := hB.after b2
                  replace hR := hR.after b2
                  clear hK' K' b2
                  go_frame
                  refine any_oper 19 (by kernel_rfl) rfl rfl (fun K' hK' => ?_)
                  refine wp_call1 (some 54) rfl 75 _ _ rfl call_unit (.int .i64 ((a * K + c : Nat) : Int)) rfl _ (unitForm_c (a * K + c) m3 _) (fun e w2 h => ?_)
                  obtain ⟨rfl, b2⟩ := h
                  refine ⟨_, rfl, hK' _ _ ?_⟩
                  replace hB := hB.after b2
                  replace hR := hR.after b2
                  clear hK' K' b2
                  go_frame
                  refine any_oper 20 (by kernel_rfl) rfl rfl (fun K' hK' => ?_)
                  refine wp_exec (some 55) rfl (.agg (u8s (unitL (a * M + b) ++ unitL (b * K + c) ++ unitL (a * K + c)))) (exec_prod _ _ _ rfl _ _ _ rfl rfl rfl (unitL_len _) (unitL_len _) (unitL_len _)) (hK' _ _ ?_)
                  clear hK' K'
                  go_frame
                  refine any_oper 21 (by kernel_rfl) rfl rfl (fun K' hK' => ?_)
                  refine wp_slice1 (some 56) rfl 38 82 _ rfl (unitL (a * M + b) ++ unitL (b * K + c) ++ unitL (a * K + c)) rfl Try.underlying38 infoProd (unit3_bytes _ _ _).len (fun W7 n7 => hK' _ _ ?_)
                  have x7 := cells_of_new n7
                  replace hB := hB.new n7
                  replace hR := n7.old hR
                  clear hK' K' n7
                  go_frame
                  have hQb := unit3_bytes (a * M + b) (b * K + c) (a * K + c)
                  generalize unitL (a * M + b) ++ unitL (b * K + c) ++ unitL (a * K + c) = qq at *
                  obtain ⟨i0, hi, hz0, hz1, hz2⟩ := info_parts infoProd
                  refine any_oper 22 (by kernel_rfl) rfl rfl (fun K' hK' => ?_)
                  refine wp_append' (some 57) rfl _ _ 38 rfl w.heap.size 82 i0 (.agg (u8s (List.replicate 27 0))) 27 27 Try.underlying38 hi hz0 hz1 hz2 rfl (by decide) v _ _ rfl hB.own ⟨_, 0, none⟩ 1 1 (u8s qq).toList rfl (by simp [u8s_size, hQb.len]) x7 (u8s_one qq) (by unfold maxLen; simp; omega) (by simp; omega) hB.below.size ?_
                  intro v1 W8 own8 gr8 nil8
                  refine hK' _ _ ?_
                  have hoff := hB.own.off hR (by decide)
                  have G := hB.grow gr8 own8
                  have hv1 := G.2.1.shp.cells
                  replace hR := hR.grown gr8 hoff
                  clear hK' K' own8 gr8 nil8 hoff
                  go_frame
                  refine any_exec 23 (some 58) (.pointer (some ⟨w.heap.size + 1, 4, none⟩)) (by kernel_rfl) rfl rfl rfl (exec_fieldAddr 40 _ 4 rfl _ (by kernel_rfl)) ?_
                  go_frame
                  refine any_oper 24 (by kernel_rfl) rfl rfl (fun K' hK' => ?_)
                  refine wp_store_one 38 _ _ rfl rfl (w.heap.size + 1) 4 rfl v1 rfl hv1.1 hv1.2 _ _ G.2.2 (by kernel_rfl) (by simp) (fun W9 p9 => hK' _ _ ?_)
                  replace hR := p9.other hR (by omega)
                  refine wpAny_done (by kernel_rfl) ?_ _
                  go_wp2_with fail
                  exact ⟨⟨c + 1, by omega, by go_num, by rw [HSC.out, ← List.append_assoc]; exact ⟨v1, KB.put G (Nat.le_refl _) (by omega) (by exact p9), hR⟩⟩, by simp [intOf]; omega⟩
                · refine wp_call1 (some 48) rfl 75 _ _ rfl call_unit (.int .i64 ((b * K + c : Nat) : Int)) rfl _ (unitForm_c (b * K + c) m2 _) (fun e w2 h => ?_)
                  obtain ⟨rfl, b2⟩ := h
                  refine ⟨_, rfl, hK' _ _ ?_⟩
                  replace hB := hB.after b2
                  replace hR := hR.after b2
                  clear hK' K' b2
                  go_frame
                  refine any_two 1 19 (by kernel_rfl) rfl rfl rfl rfl (fun K' hK' => ?_) (fun K' hK' => ?_)
                  · refine wp_exec (some 36) rfl v (exec_load_one 38 _ rfl (w.heap.size + 1) 4 rfl v _ Try.underlying38 rfl hB.c4) (hK' _ _ ?_)
                    clear hK' K'
                    go_frame
                    refine any_oper 19 (by kernel_rfl) rfl rfl (fun K' hK' => ?_)
                    refine wp_call1 (some 54) rfl 75 _ _ rfl call_unit (.int .i64 ((a * K + c : Nat) : Int)) rfl _ (unitForm_c (a * K + c) m3 _) (fun e w2 h => ?_)
                    obtain ⟨rfl, b2⟩ := h
                    refine ⟨_, rfl, hK' _ _ ?_⟩
                    replace hB := hB.after b2
                    replace hR := hR.after b2
                    clear hK' K' b2
                    go_frame
                    refine any_oper 20 (by kernel_rfl) rfl rfl (fun K' hK' => ?_)
                    refine wp_exec (some 55) rfl (.agg (u8s (unitL (a * M + b) ++ unitL (b * K + c) ++ unitL (a * K + c)))) (exec_prod _ _ _ rfl _ _ _ rfl rfl rfl (unitL_len _) (unitL_len _) (unitL_len _)) (hK' _ _ ?_)
                    clear hK' K'
                    go_frame
                    refine any_oper 21 (by kernel_rfl) rfl rfl (fun K' hK' => ?_)
                    refine wp_slice1 (some 56) rfl 38 82 _ rfl (unitL (a * M + b) ++ unitL (b * K + c) ++ unitL (a * K + c)) rfl Try.underlying38 infoProd (unit3_bytes _ _ _).len (fun W7 n7 => hK' _ _ ?_)
                    have x7 := cells_of_new n7
                    replace hB := hB.new n7
                    replace hR := n7.old hR
                    clear hK' K' n7
                    go_frame
                    have hQb := unit3_bytes (a * M + b) (b * K + c) (a * K + c)
                    generalize unitL (a * M + b) ++ unitL (b * K + c) ++ unitL (a * K + c) = qq at *
                    obtain ⟨i0, hi, hz0, hz1, hz2⟩ := info_parts infoProd
                    refine any_oper 22 (by kernel_rfl) rfl rfl (fun K' hK' => ?_)
                    refine wp_append' (some 57) rfl _ _ 38 rfl w.heap.size 82 i0 (.agg (u8s (List.replicate 27 0))) 27 27 Try.underlying38 hi hz0 hz1 hz2 rfl (by decide) v _ _ rfl hB.own ⟨_, 0, none⟩ 1 1 (u8s qq).toList rfl (by simp [u8s_size, hQb.len]) x7 (u8s_one qq) (by unfold maxLen; simp; omega) (by simp; omega) hB.below.size ?_
                    intro v1 W8 own8 gr8 nil8
                    refine hK' _ _ ?_
                    have hoff := hB.own.off hR (by decide)
                    have G := hB.grow gr8 own8
                    have hv1 := G.2.1.shp.cells
                    replace hR := hR.grown gr8 hoff
                    clear hK' K' own8 gr8 nil8 hoff
                    go_frame
                    refine any_exec 23 (some 58) (.pointer (some ⟨w.heap.size + 1, 4, none⟩)) (by kernel_rfl) rfl rfl rfl (exec_fieldAddr 40 _ 4 rfl _ (by kernel_rfl)) ?_
                    go_frame
                    refine any_oper 24 (by kernel_rfl) rfl rfl (fun K' hK' => ?_)
                    refine wp_store_one 38 _ _ rfl rfl (w.heap.size + 1) 4 rfl v1 rfl hv1.1 hv1.2 _ _ G.2.2 (by kernel_rfl) (by simp) (fun W9 p9 => hK' _ _ ?_)
                    replace hR := p9.other hR (by omega)
                    refine wpAny_done (by kernel_rfl) ?_ _
                    go_wp2_with fail
                    exact ⟨⟨c + 1, by omega, by go_num, by rw [HSC.out, ← List.append_assoc]; exact ⟨v1, KB.put G (Nat.le_refl _) (by omega) (by exact p9), hR⟩⟩, by simp [intOf]; omega⟩
                  · refine wp_call1 (some 54) rfl 75 _ _ rfl call_unit (.int .i64 ((a * K + c : Nat) : Int)) rfl _ (unitForm_c (a * K + c) m3 _) (fun e w2 h => ?_)
                    obtain ⟨rfl, b2⟩ := h
                    refine ⟨_, rfl, hK' _ _ ?_⟩
                    replace hB := hB.after b2
                    replace hR := hR.after b2
                    clear hK' K' b2
                    go_frame
                    refine any_two 1 20 (by kernel_rfl) rfl rfl rfl rfl (fun K' hK' => ?_) (fun K' hK' => ?_)
                    · refine wp_exec (some 36) rfl v (exec_load_one 38 _ rfl (w.heap.size + 1) 4 rfl v _ Try.underlying38 rfl hB.c4) (hK' _ _ ?_)
                      clear hK' K'
                      go_frame
                      refine any_oper 20 (by kernel_rfl) rfl rfl (fun K' hK' => ?_)
                      refine wp_exec (some 55) rfl (.agg (u8s (unitL (a * M + b) ++ unitL (b * K + c) ++ unitL (a * K + c)))) (exec_prod _ _ _ rfl _ _ _ rfl rfl rfl (unitL_len _) (unitL_len _) (unitL_len _)) (hK' _ _ ?_)
                      clear hK' K'
                      go_frame
                      refine any_oper 21 (by kernel_rfl) rfl rfl (fun K' hK' => ?_)
                      refine wp_slice1 (some 56) rfl 38 82 _ rfl (unitL (a * M + b) ++ unitL (b * K + c) ++ unitL (a * K + c)) rfl Try.underlying38 infoProd (unit3_bytes _ _ _).len (fun W7 n7 => hK' _ _ ?_)
                      have x7 := cells_of_new n7
                      replace hB := hB.new n7
                      replace hR := n7.old hR
                      clear hK' K' n7
                      go_frame
                      have hQb := unit3_bytes (a * M + b) (b * K + c) (a * K + c)
                      generalize unitL (a * M + b) ++ unitL (b * K + c) ++ unitL (a * K + c) = qq at *
                      obtain ⟨i0, hi, hz0, hz1, hz2⟩ := info_parts infoProd
                      refine any_oper 22 (by kernel_rfl) rfl rfl (fun K' hK' => ?_)
                      refine wp_append' (some 57) rfl _ _ 38 rfl w.heap.size 82 i0 (.agg (u8s (List.replicate 27 0))) 27 27 Try.underlying38 hi hz0 hz1 hz2 rfl (by decide) v _ _ rfl hB.own ⟨_, 0, none⟩ 1 1 (u8s qq).toList rfl (by simp [u8s_size, hQb.len]) x7 (u8s_one qq) (by unfold maxLen; simp; omega) (by simp; omega) hB.below.size ?_
                      intro v1 W8 own8 gr8 nil8
                      refine hK' _ _ ?_
                      have hoff := hB.own.off hR (by decide)
                      have G := hB.grow gr8 own8
                      have hv1 := G.2.1.shp.cells
                      replace hR := hR.grown gr8 hoff
                      clear hK' K' own8 gr8 nil8 hoff
                      go_frame
                      refine any_exec 23 (some 58) (.pointer (some ⟨w.heap.size + 1, 4, none⟩)) (by kernel_rfl) rfl rfl rfl (exec_fieldAddr 40 _ 4 rfl _ (by kernel_rfl)) ?_
                      go_frame
                      refine any_oper 24 (by kernel_rfl) rfl rfl (fun K' hK' => ?_)
                      refine wp_store_one 38 _ _ rfl rfl (w.heap.size + 1) 4 rfl v1 rfl hv1.1 hv1.2 _ _ G.2.2 (by kernel_rfl) (by simp) (fun W9 p9 => hK' _ _ ?_)
                      replace hR := p9.other hR (by omega)
                      refine wpAny_done (by kernel_rfl) ?_ _
                      go_wp2_with fail
                      exact ⟨⟨c + 1, by omega, by go_num, by rw [HSC.out, ← List.append_assoc]; exact ⟨v1, KB.put G (Nat.le_refl _) (by omega) (by exact p9), hR⟩⟩, by simp [intOf]; omega⟩
                    · refine wp_exec (some 55) rfl (.agg (u8s (unitL (a * M + b) ++ unitL (b * K + c) ++ unitL (a * K + c)))) (exec_prod _ _ _ rfl _ _ _ rfl rfl rfl (unitL_len _) (unitL_len _) (unitL_len _)) (hK' _ _ ?_)
                      clear hK' K'
                      go_frame
                      refine any_two 1 21 (by kernel_rfl) rfl rfl rfl rfl (fun K' hK' => ?_) (fun K' hK' => ?_)
                      · refine wp_exec (some 36) rfl v (exec_load_one 38 _ rfl (w.heap.size + 1) 4 rfl v _ Try.underlying38 rfl hB.c4) (hK' _ _ ?_)
                        clear hK' K'
                        go_frame
                        refine any_oper 21 (by kernel_rfl) rfl rfl (fun K' hK' => ?_)
                        refine wp_slice1 (some 56) rfl 38 82 _ rfl (unitL (a * M + b) ++ unitL (b * K + c) ++ unitL (a * K + c)) rfl Try.underlying38 infoProd (unit3_bytes _ _ _).len (fun W7 n7 => hK' _ _ ?_)
                        have x7 := cells_of_new n7
                        replace hB := hB.new n7
                        replace hR := n7.old hR
                        clear hK' K' n7
                        go_frame
                        have hQb := unit3_bytes (a * M + b) (b * K + c) (a * K + c)
                        generalize unitL (a * M + b) ++ unitL (b * K + c) ++ unitL (a * K + c) = qq at *
                        obtain ⟨i0, hi, hz0, hz1, hz2⟩ := info_parts infoProd
                        refine any_oper 22 (by kernel_rfl) rfl rfl (fun K' hK' => ?_)
                        refine wp_append' (some 57) rfl _ _ 38 rfl w.heap.size 82 i0 (.agg (u8s (List.replicate 27 0))) 27 27 Try.underlying38 hi hz0 hz1 hz2 rfl (by decide) v _ _ rfl hB.own ⟨_, 0, none⟩ 1 1 (u8s qq).toList rfl (by simp [u8s_size, hQb.len]) x7 (u8s_one qq) (by unfold maxLen; simp; omega) (by simp; omega) hB.below.size ?_
                        intro v1 W8 own8 gr8 nil8
                        refine hK' _ _ ?_
                        have hoff := hB.own.off hR (by decide)
                        have G := hB.grow gr8 own8
                        have hv1 := G.2.1.shp.cells
                        replace hR := hR.grown gr8 hoff
                        clear hK' K' own8 gr8 nil8 hoff
                        go_frame
                        refine any_exec 23 (some 58) (.pointer (some ⟨w.heap.size + 1, 4, none⟩)) (by kernel_rfl) rfl rfl rfl (exec_fieldAddr 40 _ 4 rfl _ (by kernel_rfl)) ?_
                        go_frame
                        refine any_oper 24 (by kernel_rfl) rfl rfl (fun K' hK' => ?_)
                        refine wp_store_one 38 _ _ rfl rfl (w.heap.size + 1) 4 rfl v1 rfl hv1.1 hv1.2 _ _ G.2.2 (by kernel_rfl) (by simp) (fun W9 p9 => hK' _ _ ?_)
                        replace hR := p9.other hR (by omega)
                        refine wpAny_done (by kernel_rfl) ?_ _
                        go_wp2_with fail
                        exact ⟨⟨c + 1, by omega, by go_num, by rw [HSC.out, ← List.append_assoc]; exact ⟨v1, KB.put G (Nat.le_refl _) (by omega) (by exact p9), hR⟩⟩, by simp [intOf]; omega⟩
                      · refine wp_slice1 (some 56) rfl 38 82 _ rfl (unitL (a * M + b) ++ unitL (b * K + c) ++ unitL (a * K + c)) rfl Try.underlying38 infoProd (unit3_bytes _ _ _).len (fun W7 n7 => hK' _ _ ?_)
                        have x7 := cells_of_new n7
                        replace hB := hB.new n7
                        replace hR := n7.old hR
                        clear hK' K' n7
                        go_frame
                        refine any_oper 1 (by kernel_rfl) rfl rfl (fun K' hK' => ?_)
                        refine wp_exec (some 36) rfl v (exec_load_one 38 _ rfl (w.heap.size + 1) 4 rfl v _ Try.underlying38 rfl hB.c4) (hK' _ _ ?_)
                        clear hK' K'
                        go_frame
                        have hQb := unit3_bytes (a * M + b) (b * K + c) (a * K + c)
                        generalize unitL (a * M + b) ++ unitL (b * K + c) ++ unitL (a * K + c) = qq at *
                        obtain ⟨i0, hi, hz0, hz1, hz2⟩ := info_parts infoProd
                        refine any_oper 22 (by kernel_rfl) rfl rfl (fun K' hK' => ?_)
                        refine wp_append' (some 57) rfl _ _ 38 rfl w.heap.size 82 i0 (.agg (u8s (List.replicate 27 0))) 27 27 Try.underlying38 hi hz0 hz1 hz2 rfl (by decide) v _ _ rfl hB.own ⟨_, 0, none⟩ 1 1 (u8s qq).toList rfl (by simp [u8s_size, hQb.len]) x7 (u8s_one qq) (by unfold maxLen; simp; omega) (by simp; omega) hB.below.size ?_
                        intro v1 W8 own8 gr8 nil8
                        refine hK' _ _ ?_
                        have hoff := hB.own.off hR (by decide)
                        have G := hB.grow gr8 own8
                        have hv1 := G.2.1.shp.cells
                        replace hR := hR.grown gr8 hoff
                        clear hK' K' own8 gr8 nil8 hoff
                        go_frame
                        refine any_exec 23 (some 58) (.pointer (some ⟨w.heap.size + 1, 4, none⟩)) (by kernel_rfl) rfl rfl rfl (exec_fieldAddr 40 _ 4 rfl _ (by kernel_rfl)) ?_
                        go_frame
                        refine any_oper 24 (by kernel_rfl) rfl rfl (fun K' hK' => ?_)
                        refine wp_store_one 38 _ _ rfl rfl (w.heap.size + 1) 4 rfl v1 rfl hv1.1 hv1.2 _ _ G.2.2 (by kernel_rfl) (by simp) (fun W9 p9 => hK' _ _ ?_)
                        replace hR := p9.other hR (by omega)
                        refine wpAny_done (by kernel_rfl) ?_ _
                        go_wp2_with fail
                        exact ⟨⟨c + 1, by omega, by go_num, by rw [HSC.out, ← List.append_assoc]; exact ⟨v1, KB.put G (Nat.le_refl _) (by omega) (by exact p9), hR⟩⟩, by simp [intOf]; omega⟩
            · obtain rfl : c = K := by omega
              go_wp2_with fail
              exact ⟨⟨b + 1, by omega, by go_num, by rw [HSB.out, ← List.append_assoc]; exact hR⟩, by simp [intOf]; omega⟩
        · obtain rfl : b = M := by omega
          go_wp2_with fail
          exact ⟨⟨a + 1, by omega, by go_num, by rw [HSA.out]; exact hR⟩, by simp [intOf]; omega⟩
    · obtain rfl : a = N := by omega
      obtain ⟨v, hK, hR⟩ := hR
      have hv := hK.own.shp.cells
      have hoff := hK.own.off hR (by decide)
      go_wp2_with (first | (refine wpList_load_all rfl 40 _ rfl (w.heap.size + 1) rfl _ _ _ hK.box Try.underlying40 rfl 5 (by kernel_rfl) rfl ?_) | (refine wpList_store_all rfl 40 _ _ rfl rfl w.heap.size rfl _ rfl _ _ hR 5 (by kernel_rfl) rfl rfl (by intro x hx; simp at hx; rcases hx with rfl | rfl | rfl | rfl | rfl <;> first | rfl | exact hv.2) ?_; intro W2 p2))
      refine bodyPost_ret (results_at2 rfl _ _ w.heap.size _ _ _ rfl _ rfl p2.at_ Try.underlying40 rfl 5 (by kernel_rfl) rfl) rfl ?_
      have hK2 := hK.other p2 (by omega) hoff (Nat.le_refl _)
      exact ⟨v, rfl, hK2.own, hK2.below⟩
set_option maxHeartbeats 800000 in
theorem implStandard_c (p n m k : Int) (w : World) :
    Calls Try.prog 53 #[.int .i64 p, .int .i64 n, .int .i64 m, .int .i64 k] w (ResS w (stdZ p n m k p) (stdZ p n m k n) (stdZ p n m k m) (stdZ p n m k k) (stdQs p n m k) (stdCode p n m k)) := by
  cases hs : sizesB p n m k with
  | false =>
    have Hz : Hid (∀ x, stdZ p n m k x = 0) := Lib.hid (fun x => by simp [stdZ, hs])
    have Hq : Hid (stdQs p n m k = [] ∧ stdCode p n m k = 2) := Lib.hid (by simp [stdQs, stdCode, hs])
    have HI : Hid (∀ w, Calls Try.prog 46 #[.agg #[.int .i64 p, .int .i64 n, .int .i64 m, .int .i64 k, .slice none 0 0]] w fun e w' => e = .returned (.bool false) ∧ Below w.heap.size w w') := Lib.hid (fun w => by
      have := implIsScheme_c p n m k none 0 [] w (Rd.none_ _ _) (by simp)
      rw [schemeB_nil, hs] at this
      exact this)
    clear hs
    go_enter Try.func53, Try.ntmps53
    go_wp2_with fail
    refine (HI.out _).mono ?_
    rintro e w1 ⟨rfl, b1⟩
    have h0 := At.after (al2_0 _ _ _) b1
    have hB := below_after (below2 _ _ _) b1
    clear b1
    go_wp2_with (refine wpList_store_all rfl 40 _ _ rfl rfl w.heap.size rfl _ rfl _ _ h0 5 (by kernel_rfl) rfl rfl (by simp [Value.oneCell']) ?_; intro W2 p2)
    refine bodyPost_ret (results_at2 rfl _ _ w.heap.size _ _ _ rfl _ rfl p2.at_ Try.underlying40 rfl 5 (by kernel_rfl) rfl) rfl ?_
    exact ⟨.slice none 0 0, by rw [Hz.out, Hz.out, Hz.out, Hz.out, Hq.out.2]; rfl, by rw [Hq.out.1]; exact Own.nil _ _, p2.below hB (Nat.le_refl _)⟩
  | true =>
    have hz : ∀ x, stdZ p n m k x = x := fun x => by simp [stdZ, hs]
    have hq : stdQs p n m k = stdA m.toNat k.toNat n.toNat := by simp [stdQs, hs]
    have hc : stdCode p n m k = 0 := by simp [stdCode, hs]
    have hb := sizes_bounds hs
    rw [hz, hz, hz, hz, hq, hc]
    obtain ⟨N, rfl⟩ := Int.eq_ofNat_of_zero_le (show 0 ≤ n by omega)
    obtain ⟨M, rfl⟩ := Int.eq_ofNat_of_zero_le (show 0 ≤ m by omega)
    obtain ⟨K, rfl⟩ := Int.eq_ofNat_of_zero_le (show 0 ≤ k by omega)
    exact implStandard_yes p N M K w hs
end Go.Proofs.Ytcmpeoijedddjaa
