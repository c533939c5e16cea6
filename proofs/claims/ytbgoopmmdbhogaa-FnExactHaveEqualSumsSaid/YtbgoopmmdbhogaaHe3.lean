/-
  spec.HaveEqualSums. (Made by mkhe3.py.)
-/
import Derived.Test.YtbgoopmmdbhogaaHe2
import Derived.Test.YtbgoopmmdbhogaaLeft1
namespace Go.Proofs.Ytbgoopmmdbhogaa
open Go.RowKit
set_option maxRecDepth 100000
def eqAt (p : Int) (xq yq : List (List Nat)) (a b c : Nat) : Bool := ((sumN xq a b c : Nat) : Int) % p == ((sumN yq a b c : Nat) : Int) % p
def heC (p : Int) (xq yq : List (List Nat)) (a b N : Nat) : Bool := (List.range N).all fun c => eqAt p xq yq a b c
def heB (p : Int) (xq yq : List (List Nat)) (N3 a N : Nat) : Bool := (List.range N).all fun b => heC p xq yq a b N3
def heA (p : Int) (xq yq : List (List Nat)) (N2 N3 N : Nat) : Bool := (List.range N).all fun a => heB p xq yq N3 a N2
section
variable (p : Int) (xq yq : List (List Nat))
theorem heC_succ (a b c : Nat) : heC p xq yq a b (c + 1) = (heC p xq yq a b c && eqAt p xq yq a b c) := by simp [heC, List.range_succ, List.all_append]
theorem heB_succ (N3 a b : Nat) : heB p xq yq N3 a (b + 1) = (heB p xq yq N3 a b && heC p xq yq a b N3) := by simp [heB, List.range_succ, List.all_append]
theorem heA_succ (N2 N3 a : Nat) : heA p xq yq N2 N3 (a + 1) = (heA p xq yq N2 N3 a && heB p xq yq N3 a N2) := by simp [heA, List.range_succ, List.all_append]
theorem heB_false {N1 N2 N3 a b : Nat} (ha : a < N1) (hb : b < N2) (h : heC p xq yq a b N3 = false) : heA p xq yq N2 N3 N1 = false := by
  unfold heA
  rw [List.all_eq_false]
  refine ⟨a, List.mem_range.2 ha, ?_⟩
  unfold heB
  rw [Bool.not_eq_true, List.all_eq_false]
  exact ⟨b, List.mem_range.2 hb, by simp [h]⟩
theorem heA_false {N1 N2 N3 a b c : Nat} (ha : a < N1) (hb : b < N2) (hc : c < N3) (h : eqAt p xq yq a b c = false) : heA p xq yq N2 N3 N1 = false := by
  refine heB_false p xq yq ha hb ?_
  unfold heC
  rw [List.all_eq_false]
  exact ⟨c, List.mem_range.2 hc, by simp [h]⟩
end
def hesB (xp xn xm xk : Int) (xq : List (List Nat)) (yp yn ym yk : Int) (yq : List (List Nat)) : Bool :=
  if likeCode xp xn xm xk xq yp yn ym yk yq = 0 then heA xp xq yq (xm * xk).toNat (xn * xk).toNat (xn * xm).toNat else false
theorem likeCode_zero {xp xn xm xk : Int} {xq : List (List Nat)} {yp yn ym yk : Int} {yq : List (List Nat)} (h : likeCode xp xn xm xk xq yp yn ym yk yq = 0) :
    schemeB xp xn xm xk xq = true ∧ schemeB yp yn ym yk yq = true ∧ xp = yp ∧ xn = yn ∧ xm = ym ∧ xk = yk := by
  unfold likeCode at h
  split at h
  · rename_i hs
    simp only [Bool.and_eq_true] at hs
    split at h
    · rename_i he
      exact ⟨hs.1, hs.2, he⟩
    · simp at h
  · simp at h
theorem len9 (n m : Int) (hn : sizeB n = true) (hm : sizeB m = true) : ∃ N : Nat, (N : Int) = n * m ∧ N ≤ 9 := by
  simp only [sizeB, Bool.and_eq_true, decide_eq_true_eq] at hn hm
  have h := mul_bounds hn.1 hn.2 hm.1 hm.2
  exact ⟨(n * m).toNat, by omega, by omega⟩
theorem hes_sizes {xp xn xm xk : Int} {xq yq : List (List Nat)} (h : likeCode xp xn xm xk xq xp xn xm xk yq = 0) {N1 N2 N3 : Nat} (e1 : (N1 : Int) = xn * xm) (e2 : (N2 : Int) = xm * xk) (e3 : (N3 : Int) = xn * xk) : hesB xp xn xm xk xq xp xn xm xk yq = heA xp xq yq N2 N3 N1 := by
  unfold hesB
  rw [if_pos h, ← e1, ← e2, ← e3]
  rfl
set_option maxHeartbeats 20000000 in
theorem specHaveEqualSums_c (xp xn xm xk : Int) (xA : Option Addr) (xc : Nat) (xq : List (List Nat)) (yp yn ym yk : Int) (yA : Option Addr) (yc : Nat) (yq : List (List Nat)) (w : World) (hrx : Rd w xA xq) (hlx : xq.length ≤ 1048576) (hry : Rd w yA yq) (hly : yq.length ≤ 1048576) :
    Calls Try.prog 19 #[.agg #[.int .i64 xp, .int .i64 xn, .int .i64 xm, .int .i64 xk, .slice xA xq.length xc], .agg #[.int .i64 yp, .int .i64 yn, .int .i64 ym, .int .i64 yk, .slice yA yq.length yc]] w fun e w' => e = .returned (.tuple #[.bool (hesB xp xn xm xk xq yp yn ym yk yq), .int .i64 (likeCode xp xn xm xk xq yp yn ym yk yq)]) ∧ Below w.heap.size w w' := by
  have HL := Lib.hid (fun w hx hy => l03Like_c xp xn xm xk xA xc xq yp yn ym yk yA yc yq w hx hlx hy hly)
  by_cases hcd : likeCode xp xn xm xk xq yp yn ym yk yq = 0
  · obtain ⟨hsx, hsy, rfl, rfl, rfl, rfl⟩ := likeCode_zero hcd
    have Hp := Lib.hid (sizesB_parts (schemeB_sizes hsx))
    have Hpp := Lib.hid (primeB_pos (sizesB_parts (schemeB_sizes hsx)).1)
    have HX30 := Lib.hid (schemeB_len hsx)
    have HY30 := Lib.hid (schemeB_len hsy)
    obtain ⟨N1, e1, l1⟩ := len9 xn xm Hp.out.2.1 Hp.out.2.2.1
    obtain ⟨N2, e2, l2⟩ := len9 xm xk Hp.out.2.2.1 Hp.out.2.2.2
    obtain ⟨N3, e3, l3⟩ := len9 xn xk Hp.out.2.1 Hp.out.2.2.2
    have HR : Hid (hesB xp xn xm xk xq xp xn xm xk yq = heA xp xq yq N2 N3 N1) := Lib.hid (hes_sizes hcd e1 e2 e3)
    have H0 := Lib.hid hcd
    have E1 := Lib.hid e1
    have E2 := Lib.hid e2
    have E3 := Lib.hid e3
    clear hsx hsy hcd e1 e2 e3
    go_enter Try.func19, Try.ntmps19
    go_wp2_with (first | (refine wpList_abs2 ?_; intro W hsz hB h0 h1) | (refine wpList_load_all rfl 28 _ rfl w.heap.size rfl _ _ _ h0 Try.underlying28 rfl 5 (by kernel_rfl) rfl ?_) | (refine wpList_load_all rfl 28 _ rfl (w.heap.size + 1) rfl _ _ _ h1 Try.underlying28 rfl 5 (by kernel_rfl) rfl ?_))
    refine (HL.out _ (hrx.keep hB) (hry.keep hB)).mono ?_
    rintro e w1 ⟨rfl, b1⟩

    rw [H0.out]
    replace h0 := h0.after b1
    replace h1 := h1.after b1
    replace hB := below_after hB b1
    clear b1 hsz
    go_wp2_with (first | (refine wpList_load_all rfl 28 _ rfl w.heap.size rfl _ _ _ h0 Try.underlying28 rfl 5 (by kernel_rfl) rfl ?_) | (refine wpList_load_all rfl 28 _ rfl (w.heap.size + 1) rfl _ _ _ h1 Try.underlying28 rfl 5 (by kernel_rfl) rfl ?_))
    refine (l01Lengths_c xp xn xm xk _ _ Hp.out.2.1 Hp.out.2.2.1 Hp.out.2.2.2).mono ?_
    rintro e u1 ⟨rfl, b1⟩
    replace h0 := h0.after b1
    replace h1 := h1.after b1
    replace hB := below_after hB b1
    clear b1
    rw [← E1.out, ← E2.out, ← E3.out]
    go_wp2_with fail
    go_loopw [10] (fun i wr => ∃ a : Nat, a ≤ N1 ∧ i = .int .i64 a ∧ heA xp xq yq N2 N3 a = true ∧ Below w.heap.size w wr ∧ At wr w.heap.size (.cells #[.int .i64 xp, .int .i64 xn, .int .i64 xm, .int .i64 xk, .slice xA xq.length xc] 28 (0, 0)) ∧ At wr (w.heap.size + 1) (.cells #[.int .i64 xp, .int .i64 xn, .int .i64 xm, .int .i64 xk, .slice yA yq.length yc] 28 (0, 0))) (fun i _ => N1 - (intOf i).toNat)
    case atStart => exact ⟨0, by omega, rfl, rfl, hB, h0, h1⟩
    case round =>
      clear hB h0 h1
      obtain ⟨a, ha, rfl, hA, hB, h0, h1⟩ := hrel
      by_cases hlt : a < N1
      · have e0 : IntKind.i64.wrap ((a : Int) + 1) = (a : Int) + 1 := IntWalk.i64_in _ (by omega)
        have HA := Lib.hid hA
        clear hA
        go_wp2_with fail
        go_loopw [11] (fun i wr => ∃ b : Nat, b ≤ N2 ∧ i = .int .i64 b ∧ heB xp xq yq N3 a b = true ∧ Below w.heap.size w wr ∧ At wr w.heap.size (.cells #[.int .i64 xp, .int .i64 xn, .int .i64 xm, .int .i64 xk, .slice xA xq.length xc] 28 (0, 0)) ∧ At wr (w.heap.size + 1) (.cells #[.int .i64 xp, .int .i64 xn, .int .i64 xm, .int .i64 xk, .slice yA yq.length yc] 28 (0, 0))) (fun i _ => N2 - (intOf i).toNat)
        case atStart => exact ⟨0, by omega, rfl, rfl, hB, h0, h1⟩
        case round =>
          clear hB h0 h1
          obtain ⟨b, hb, rfl, hA, hB, h0, h1⟩ := hrel
          by_cases hlt2 : b < N2
          · have f0 : IntKind.i64.wrap ((b : Int) + 1) = (b : Int) + 1 := IntWalk.i64_in _ (by omega)
            have HB := Lib.hid hA
            clear hA
            go_wp2_with fail
            go_loopw [12] (fun i wr => ∃ c : Nat, c ≤ N3 ∧ i = .int .i64 c ∧ heC xp xq yq a b c = true ∧ Below w.heap.size w wr ∧ At wr w.heap.size (.cells #[.int .i64 xp, .int .i64 xn, .int .i64 xm, .int .i64 xk, .slice xA xq.length xc] 28 (0, 0)) ∧ At wr (w.heap.size + 1) (.cells #[.int .i64 xp, .int .i64 xn, .int .i64 xm, .int .i64 xk, .slice yA yq.length yc] 28 (0, 0))) (fun i _ => N3 - (intOf i).toNat)
            case atStart => exact ⟨0, by omega, rfl, rfl, hB, h0, h1⟩
            case round =>
              clear hB h0 h1
              obtain ⟨c, hc, rfl, hA, hB, h0, h1⟩ := hrel
              by_cases hlt3 : c < N3
              · have g0 : IntKind.i64.wrap ((c : Int) + 1) = (c : Int) + 1 := IntWalk.i64_in _ (by omega)
                have HC := Lib.hid hA
                clear hA
                have HSx := Lib.hid (fun w hr => l01Sum_c xp xn xm xk xA xc xq a b c w Hpp.out hr HX30.out (by omega) (by omega) (by omega))
                have HSy := Lib.hid (fun w hr => l01Sum_c xp xn xm xk yA yc yq a b c w Hpp.out hr HY30.out (by omega) (by omega) (by omega))
                have HE : Hid (eqAt xp xq yq a b c = (((sumN xq a b c : Nat) : Int) % xp == ((sumN yq a b c : Nat) : Int) % xp)) := Lib.hid rfl
                generalize ((sumN xq a b c : Nat) : Int) % xp = sx at *
                generalize ((sumN yq a b c : Nat) : Int) % xp = sy at *
                go_upto_region 14 with (fail)
                cases hq : (sx == sy) with
                | true =>
                  have HC1 : Hid (heC xp xq yq a b (c + 1) = true) := Lib.hid (by rw [heC_succ, HC.out, HE.out, hq]; rfl)
                  refine wp_region_held (S := fun w' => At w' w.heap.size (.cells #[.int .i64 xp, .int .i64 xn, .int .i64 xm, .int .i64 xk, .slice xA xq.length xc] 28 (0, 0)) ∧ At w' (w.heap.size + 1) (.cells #[.int .i64 xp, .int .i64 xn, .int .i64 xm, .int .i64 xk, .slice yA yq.length yc] 28 (0, 0))) (by kernel_rfl) ?_
                  change wpAnyH _ _ _ _ _ _ _ _ (World.drew _)
                  generalize hwdhf : World.drew _ = wdhf
                  replace hB : Below w.heap.size w wdhf := by rw [← hwdhf]; exact hB.drew
                  replace h0 : At wdhf w.heap.size (.cells #[.int .i64 xp, .int .i64 xn, .int .i64 xm, .int .i64 xk, .slice xA xq.length xc] 28 (0, 0)) := by rw [← hwdhf]; exact h0
                  replace h1 : At wdhf (w.heap.size + 1) (.cells #[.int .i64 xp, .int .i64 xn, .int .i64 xm, .int .i64 xk, .slice yA yq.length yc] 28 (0, 0)) := by rw [← hwdhf]; exact h1
                  clear hwdhf
                  refine held_yield 0 (some 40) (.agg #[.int .i64 xp, .int .i64 xn, .int .i64 xm, .int .i64 xk, .slice xA xq.length xc]) rfl (by kernel_rfl) (by kernel_rfl) (by kernel_rfl) (fun _ _ _ h => h) rfl rfl ⟨h0, h1⟩ (fun w' h' => exec_load_all 28 _ rfl w.heap.size rfl _ _ _ h'.1 Try.underlying28 rfl 5 (by kernel_rfl) rfl) ?_
                  go_frame
                  refine held_yield 1 (some 41) (.int .i64 a) rfl (by kernel_rfl) (by kernel_rfl) (by kernel_rfl) (fun _ _ _ h => h) rfl rfl ⟨h0, h1⟩ (fun w' h' => exec_move _ rfl (.int .i64 a) rfl) ?_
                  go_frame
                  refine held_yield 2 (some 42) (.int .i64 b) rfl (by kernel_rfl) (by kernel_rfl) (by kernel_rfl) (fun _ _ _ h => h) rfl rfl ⟨h0, h1⟩ (fun w' h' => exec_move _ rfl (.int .i64 b) rfl) ?_
                  go_frame
                  refine held_yield 3 (some 43) (.int .i64 c) rfl (by kernel_rfl) (by kernel_rfl) (by kernel_rfl) (fun _ _ _ h => h) rfl rfl ⟨h0, h1⟩ (fun w' h' => exec_move _ rfl (.int .i64 c) rfl) ?_
                  go_frame
                  refine held_yield 5 (some 45) (.agg #[.int .i64 xp, .int .i64 xn, .int .i64 xm, .int .i64 xk, .slice yA yq.length yc]) rfl (by kernel_rfl) (by kernel_rfl) (by kernel_rfl) (fun _ _ _ h => h) rfl rfl ⟨h0, h1⟩ (fun w' h' => exec_load_all 28 _ rfl (w.heap.size + 1) rfl _ _ _ h'.2 Try.underlying28 rfl 5 (by kernel_rfl) rfl) ?_
                  go_frame
                  refine held_yield 6 (some 46) (.int .i64 a) rfl (by kernel_rfl) (by kernel_rfl) (by kernel_rfl) (fun _ _ _ h => h) rfl rfl ⟨h0, h1⟩ (fun w' h' => exec_move _ rfl (.int .i64 a) rfl) ?_
                  go_frame
                  refine held_yield 7 (some 47) (.int .i64 b) rfl (by kernel_rfl) (by kernel_rfl) (by kernel_rfl) (fun _ _ _ h => h) rfl rfl ⟨h0, h1⟩ (fun w' h' => exec_move _ rfl (.int .i64 b) rfl) ?_
                  go_frame
                  refine held_yield 8 (some 48) (.int .i64 c) rfl (by kernel_rfl) (by kernel_rfl) (by kernel_rfl) (fun _ _ _ h => h) rfl rfl ⟨h0, h1⟩ (fun w' h' => exec_move _ rfl (.int .i64 c) rfl) ?_
                  go_frame
                  refine held_oper 4 (by kernel_rfl) rfl rfl (fun K' hK' => ?_)
                  refine wp_call4 (some 44) rfl 54 _ _ _ _ _ rfl (fun args w => by kernel_rfl) _ _ _ _ rfl rfl rfl rfl _ (HSx.out _ (hrx.keep hB)) (fun e wnhf1 h => ?_)
                  obtain ⟨rfl, bhf2⟩ := h
                  replace hB := below_after hB bhf2
                  replace h0 := h0.after bhf2
                  replace h1 := h1.after bhf2
                  clear bhf2
                  refine ⟨_, rfl, hK' _ _ ⟨h0, h1⟩ ?_⟩
                  clear hK' K'
                  go_frame
                  refine held_oper 9 (by kernel_rfl) rfl rfl (fun K' hK' => ?_)
                  refine wp_call4 (some 49) rfl 54 _ _ _ _ _ rfl (fun args w => by kernel_rfl) _ _ _ _ rfl rfl rfl rfl _ (HSy.out _ (hry.keep hB)) (fun e wnhf3 h => ?_)
                  obtain ⟨rfl, bhf4⟩ := h
                  replace hB := below_after hB bhf4
                  replace h0 := h0.after bhf4
                  replace h1 := h1.after bhf4
                  clear bhf4
                  refine ⟨_, rfl, hK' _ _ ⟨h0, h1⟩ ?_⟩
                  clear hK' K'
                  go_frame
                  refine held_yield 10 (some 50) (.bool false) rfl (by kernel_rfl) (by kernel_rfl) (by kernel_rfl) (fun _ _ _ h => h) rfl rfl ⟨h0, h1⟩ (fun w' h' => exec_neq _ _ _ _ rfl sx sy rfl rfl false (by simp [bne, hq])) ?_
                  go_frame
                  refine wpAnyH_done (by kernel_rfl) ?_ _
                  go_wp2_with fail
                  go_roundw
                  case rel => exact ⟨c + 1, by omega, by go_num, HC1.out, hB, h0, h1⟩
                  case measure => simp [intOf]; omega
                | false =>
                  have HF : Hid (heA xp xq yq N2 N3 N1 = false) := Lib.hid (heA_false xp xq yq hlt hlt2 hlt3 (by rw [HE.out, hq]))
                  refine wp_region_held (S := fun w' => At w' w.heap.size (.cells #[.int .i64 xp, .int .i64 xn, .int .i64 xm, .int .i64 xk, .slice xA xq.length xc] 28 (0, 0)) ∧ At w' (w.heap.size + 1) (.cells #[.int .i64 xp, .int .i64 xn, .int .i64 xm, .int .i64 xk, .slice yA yq.length yc] 28 (0, 0))) (by kernel_rfl) ?_
                  change wpAnyH _ _ _ _ _ _ _ _ (World.drew _)
                  generalize hwdht : World.drew _ = wdht
                  replace hB : Below w.heap.size w wdht := by rw [← hwdht]; exact hB.drew
                  replace h0 : At wdht w.heap.size (.cells #[.int .i64 xp, .int .i64 xn, .int .i64 xm, .int .i64 xk, .slice xA xq.length xc] 28 (0, 0)) := by rw [← hwdht]; exact h0
                  replace h1 : At wdht (w.heap.size + 1) (.cells #[.int .i64 xp, .int .i64 xn, .int .i64 xm, .int .i64 xk, .slice yA yq.length yc] 28 (0, 0)) := by rw [← hwdht]; exact h1
                  clear hwdht
                  refine held_yield 0 (some 40) (.agg #[.int .i64 xp, .int .i64 xn, .int .i64 xm, .int .i64 xk, .slice xA xq.length xc]) rfl (by kernel_rfl) (by kernel_rfl) (by kernel_rfl) (fun _ _ _ h => h) rfl rfl ⟨h0, h1⟩ (fun w' h' => exec_load_all 28 _ rfl w.heap.size rfl _ _ _ h'.1 Try.underlying28 rfl 5 (by kernel_rfl) rfl) ?_
                  go_frame
                  refine held_yield 1 (some 41) (.int .i64 a) rfl (by kernel_rfl) (by kernel_rfl) (by kernel_rfl) (fun _ _ _ h => h) rfl rfl ⟨h0, h1⟩ (fun w' h' => exec_move _ rfl (.int .i64 a) rfl) ?_
                  go_frame
                  refine held_yield 2 (some 42) (.int .i64 b) rfl (by kernel_rfl) (by kernel_rfl) (by kernel_rfl) (fun _ _ _ h => h) rfl rfl ⟨h0, h1⟩ (fun w' h' => exec_move _ rfl (.int .i64 b) rfl) ?_
                  go_frame
                  refine held_yield 3 (some 43) (.int .i64 c) rfl (by kernel_rfl) (by kernel_rfl) (by kernel_rfl) (fun _ _ _ h => h) rfl rfl ⟨h0, h1⟩ (fun w' h' => exec_move _ rfl (.int .i64 c) rfl) ?_
                  go_frame
                  refine held_yield 5 (some 45) (.agg #[.int .i64 xp, .int .i64 xn, .int .i64 xm, .int .i64 xk, .slice yA yq.length yc]) rfl (by kernel_rfl) (by kernel_rfl) (by kernel_rfl) (fun _ _ _ h => h) rfl rfl ⟨h0, h1⟩ (fun w' h' => exec_load_all 28 _ rfl (w.heap.size + 1) rfl _ _ _ h'.2 Try.underlying28 rfl 5 (by kernel_rfl) rfl) ?_
                  go_frame
                  refine held_yield 6 (some 46) (.int .i64 a) rfl (by kernel_rfl) (by kernel_rfl) (by kernel_rfl) (fun _ _ _ h => h) rfl rfl ⟨h0, h1⟩ (fun w' h' => exec_move _ rfl (.int .i64 a) rfl) ?_
                  go_frame
                  refine held_yield 7 (some 47) (.int .i64 b) rfl (by kernel_rfl) (by kernel_rfl) (by kernel_rfl) (fun _ _ _ h => h) rfl rfl ⟨h0, h1⟩ (fun w' h' => exec_move _ rfl (.int .i64 b) rfl) ?_
                  go_frame
                  refine held_yield 8 (some 48) (.int .i64 c) rfl (by kernel_rfl) (by kernel_rfl) (by kernel_rfl) (fun _ _ _ h => h) rfl rfl ⟨h0, h1⟩ (fun w' h' => exec_move _ rfl (.int .i64 c) rfl) ?_
                  go_frame
                  refine held_oper 4 (by kernel_rfl) rfl rfl (fun K' hK' => ?_)
                  refine wp_call4 (some 44) rfl 54 _ _ _ _ _ rfl (fun args w => by kernel_rfl) _ _ _ _ rfl rfl rfl rfl _ (HSx.out _ (hrx.keep hB)) (fun e wnht1 h => ?_)
                  obtain ⟨rfl, bht2⟩ := h
                  replace hB := below_after hB bht2
                  replace h0 := h0.after bht2
                  replace h1 := h1.after bht2
                  clear bht2
                  refine ⟨_, rfl, hK' _ _ ⟨h0, h1⟩ ?_⟩
                  clear hK' K'
                  go_frame
                  refine held_oper 9 (by kernel_rfl) rfl rfl (fun K' hK' => ?_)
                  refine wp_call4 (some 49) rfl 54 _ _ _ _ _ rfl (fun args w => by kernel_rfl) _ _ _ _ rfl rfl rfl rfl _ (HSy.out _ (hry.keep hB)) (fun e wnht3 h => ?_)
                  obtain ⟨rfl, bht4⟩ := h
                  replace hB := below_after hB bht4
                  replace h0 := h0.after bht4
                  replace h1 := h1.after bht4
                  clear bht4
                  refine ⟨_, rfl, hK' _ _ ⟨h0, h1⟩ ?_⟩
                  clear hK' K'
                  go_frame
                  refine held_yield 10 (some 50) (.bool true) rfl (by kernel_rfl) (by kernel_rfl) (by kernel_rfl) (fun _ _ _ h => h) rfl rfl ⟨h0, h1⟩ (fun w' h' => exec_neq _ _ _ _ rfl sx sy rfl rfl true (by simp [bne, hq])) ?_
                  go_frame
                  refine wpAnyH_done (by kernel_rfl) ?_ _
                  go_wp2_with fail
                  go_ret2
                  exact ⟨by rw [HR.out, HF.out, H0.out]; rfl, hB⟩
              · obtain rfl : c = N3 := by omega
                have HB1 : Hid (heB xp xq yq c a (b + 1) = true) := Lib.hid (by rw [heB_succ, HB.out, hA]; rfl)
                go_wp2_with fail
                go_roundw
                case rel => exact ⟨b + 1, by omega, by go_num, HB1.out, hB, h0, h1⟩
                case measure => simp [intOf]; omega
          · obtain rfl : b = N2 := by omega
            have HA1 : Hid (heA xp xq yq b N3 (a + 1) = true) := Lib.hid (by rw [heA_succ, HA.out, hA]; rfl)
            go_wp2_with fail
            go_roundw
            case rel => exact ⟨a + 1, by omega, by go_num, HA1.out, hB, h0, h1⟩
            case measure => simp [intOf]; omega
      · obtain rfl : a = N1 := by omega
        have HA := Lib.hid hA
        clear hA
        go_wp2_with fail
        go_ret2
        exact ⟨by rw [HR.out, HA.out, H0.out]; rfl, hB⟩
  · have Hb : Hid (hesB xp xn xm xk xq yp yn ym yk yq = false) := Lib.hid (by unfold hesB; rw [if_neg hcd])
    have hne : (likeCode xp xn xm xk xq yp yn ym yk yq != 0) = true := by simp [hcd]
    generalize likeCode xp xn xm xk xq yp yn ym yk yq = cd at *
    clear hcd
    go_enter Try.func19, Try.ntmps19
    go_wp2_with (first | (refine wpList_abs2 ?_; intro W hsz hB h0 h1) | (refine wpList_load_all rfl 28 _ rfl w.heap.size rfl _ _ _ h0 Try.underlying28 rfl 5 (by kernel_rfl) rfl ?_) | (refine wpList_load_all rfl 28 _ rfl (w.heap.size + 1) rfl _ _ _ h1 Try.underlying28 rfl 5 (by kernel_rfl) rfl ?_))
    refine (HL.out _ (hrx.keep hB) (hry.keep hB)).mono ?_
    rintro e w1 ⟨rfl, b1⟩

    replace hB := below_after hB b1
    go_wp2_with fail
    go_ret2
    exact ⟨by rw [Hb.out]; rfl, hB⟩
end Go.Proofs.Ytbgoopmmdbhogaa
