/-
  impl.HaveEqualSums. (Made by mkhe4.py.)
-/
import Derived.Test.YtbgoopmmdbhogaaHe3
import Derived.Test.YtbgoopmmdbhogaaLeft2
namespace Go.Proofs.Ytbgoopmmdbhogaa
open Go.RowKit
set_option maxRecDepth 100000
theorem exec_neq_form {o : Oper} {a : Act} {w : World} (x y : Operand) (t' : TypeId) (ho : o.op = .binOp .neq 39 x y t') (f g : List Nat) (hx : a.eval x = .agg (u8s f)) (hy : a.eval y = .agg (u8s g)) (hf : f.length = 9) (hg : g.length = 9) (b : Bool) (hb : (!(f == g)) = b) :
    (execOp a.eval o).run Try.prog w = .ok (.value (.bool b)) w := by
  have hm : Try.prog.eqGuardType Try.prog.depth 39 = false := by kernel_rfl
  have h1 := run_equalIn_u8s (P := Try.prog) w 9998 39 5 9 Try.underlying39 Try.underlying5 (by kernel_rfl) f g hf hg
  unfold execOp
  subst hb
  simp [ho, hx, hy, Sem.run_bind, run_eqGuard_agg w .neq _ x y _ _ hm, run_neq_struct, h1]
theorem segm_at' (l : List Nat) (off n i : Nat) (hi : i < n) : (segm l off n)[i]?.getD 0 = l[off + i]?.getD 0 := by
  unfold segm
  rw [List.getElem?_take, if_pos hi, List.getElem?_drop]
theorem prodB_out' {p n m k : Int} {q : List Nat} (h : prodB p n m k q = true) {c : Nat} (hc : n * k ≤ (c : Int)) (hc9 : c < 9) : q[18 + c]?.getD 0 = 0 := by
  unfold prodB formB at h
  simp only [Bool.and_eq_true, List.all_eq_true] at h
  have h3 := h.1.1.1.2 c (by simp; exact hc9)
  simp only [okAt, Bool.and_eq_true, Bool.or_eq_true, decide_eq_true_eq, beq_iff_eq] at h3
  rw [segm_at' _ _ _ _ hc9] at h3
  omega
theorem sumN_zero' {qs : List (List Nat)} {a b c : Nat} (h : ∀ q ∈ qs, q[18 + c]?.getD 0 = 0) : sumN qs a b c = 0 := by
  induction qs with
  | nil => rfl
  | cons q qs ih => rw [sumN, ih (fun x hx => h x (by simp [hx])), termN, h q (by simp)]; simp
theorem sum_out {p n m k : Int} {qs : List (List Nat)} (h : schemeB p n m k qs = true) {a b c : Nat} (hc : n * k ≤ (c : Int)) (hc9 : c < 9) : sumN qs a b c = 0 := by
  simp only [schemeB, Bool.and_eq_true, List.all_eq_true] at h
  exact sumN_zero' (fun q hq => prodB_out' (h.2 q hq) hc hc9)
theorem sides_eq {p n m k : Int} {xq yq : List (List Nat)} (hx : schemeB p n m k xq = true) (hy : schemeB p n m k yq = true) {N3 : Nat} (e3 : (N3 : Int) = n * k) (l3 : N3 ≤ 9) (a b : Nat) : (sidesL p.toNat xq a b == sidesL p.toNat yq a b) = heC p xq yq a b N3 := by
  have hp0 := primeB_pos (sizesB_parts (schemeB_sizes hx)).1
  have hp : p = (p.toNat : Int) := by omega
  have key : ∀ c, (sumN xq a b c % p.toNat = sumN yq a b c % p.toNat ↔ eqAt p xq yq a b c = true) := by
    intro c
    unfold eqAt
    rw [beq_iff_eq]
    generalize p.toNat = P at hp
    subst hp
    constructor <;> intro h <;> exact_mod_cast h
  have zero : ∀ c, N3 ≤ c → c < 9 → sumN xq a b c = 0 ∧ sumN yq a b c = 0 := fun c h1 h2 => ⟨sum_out hx (by omega) h2, sum_out hy (by omega) h2⟩
  rw [Bool.eq_iff_iff, beq_iff_eq]
  constructor
  · intro h
    unfold heC
    rw [List.all_eq_true]
    intro c hc
    have hc := List.mem_range.1 hc
    rw [← key c]
    have h2 := congrArg (fun l => l[c]?.getD 0) h
    simp only [sidesL_get _ _ _ _ (show c < 9 by omega)] at h2
    exact h2
  · intro h
    unfold heC at h
    rw [List.all_eq_true] at h
    unfold sidesL
    apply List.map_congr_left
    intro c hc
    have hc := List.mem_range.1 hc
    by_cases hlt : c < N3
    · exact (key c).2 (h c (List.mem_range.2 hlt))
    · have z := zero c (by omega) hc
      rw [z.1, z.2]
theorem leftSides_i (p n m k : Int) (A : Option Addr) (cap : Nat) (qs : List (List Nat)) (a b : Nat) (hp : 0 < p ∧ p ≤ 5) (h30 : qs.length ≤ 30) (ha : a < 9) (hb : b < 9) (w : World) (hr : Rd w A qs) :
    Calls Try.prog 74 #[.agg #[.int .i64 p, .int .i64 n, .int .i64 m, .int .i64 k, .slice A qs.length cap], .int .i64 a, .int .i64 b] w fun e w' => e = .returned (.agg (u8s (sidesL p.toNat qs a b))) ∧ Below w.heap.size w w' := by
  have h := leftSides_c p.toNat n m k A cap qs a b w (by omega) (by omega) hr (Nat.le_trans h30 (by decide)) ha hb
  rw [show ((p.toNat : Nat) : Int) = p by omega] at h
  exact h
set_option maxHeartbeats 20000000 in
theorem areEqualSums_c (xp xn xm xk : Int) (xA : Option Addr) (xc : Nat) (xq : List (List Nat)) (yA : Option Addr) (yc : Nat) (yq : List (List Nat)) (w : World) (hrx : Rd w xA xq) (hry : Rd w yA yq) (hcd : likeCode xp xn xm xk xq xp xn xm xk yq = 0) :
    Calls Try.prog 56 #[.agg #[.int .i64 xp, .int .i64 xn, .int .i64 xm, .int .i64 xk, .slice xA xq.length xc], .agg #[.int .i64 xp, .int .i64 xn, .int .i64 xm, .int .i64 xk, .slice yA yq.length yc]] w fun e w' => e = .returned (.bool (hesB xp xn xm xk xq xp xn xm xk yq)) ∧ Below w.heap.size w w' := by
    obtain ⟨hsx, hsy, _⟩ := likeCode_zero hcd
    have Hp := Lib.hid (sizesB_parts (schemeB_sizes hsx))
    have HX30 := Lib.hid (schemeB_len hsx)
    have HY30 := Lib.hid (schemeB_len hsy)
    obtain ⟨N1, e1, l1⟩ := len9 xn xm Hp.out.2.1 Hp.out.2.2.1
    obtain ⟨N2, e2, l2⟩ := len9 xm xk Hp.out.2.2.1 Hp.out.2.2.2
    obtain ⟨N3, e3, l3⟩ := len9 xn xk Hp.out.2.1 Hp.out.2.2.2
    have HR : Hid (hesB xp xn xm xk xq xp xn xm xk yq = heA xp xq yq N2 N3 N1) := Lib.hid (hes_sizes hcd e1 e2 e3)
    have E1 := Lib.hid e1
    have E2 := Lib.hid e2
    have HSE : Hid (∀ a b, (sidesL xp.toNat xq a b == sidesL xp.toNat yq a b) = heC xp xq yq a b N3) := Lib.hid (fun a b => sides_eq hsx hsy e3 l3 a b)
    have Hp5 : Hid (0 < xp ∧ xp ≤ 5) := Lib.hid (by have h := (sizesB_parts (schemeB_sizes hsx)).1; simp only [primeB, Bool.or_eq_true, beq_iff_eq] at h; omega)
    have HB0 : Hid (∀ qs a b, Bytes 9 (sidesL xp.toNat qs a b)) := Lib.hid (fun qs a b => sidesL_bytes qs a b (by have := Hp5.out; omega) (by have := Hp5.out; omega))
    have HP1 := Lib.hid (fun w => places_c xn xm w Hp.out.2.1 Hp.out.2.2.1)
    have HP2 := Lib.hid (fun w => places_c xm xk w Hp.out.2.2.1 Hp.out.2.2.2)
    clear hsx hsy hcd e1 e2 e3
    go_enter Try.func56, Try.ntmps56
    go_wp2_with (first | (refine wpList_abs2 ?_; intro W hsz hB h0 h1) | (first | (refine wpList_load_all rfl 28 _ rfl w.heap.size rfl _ _ _ h0 Try.underlying28 rfl 5 (by kernel_rfl) rfl ?_) | (refine wpList_load_all rfl 28 _ rfl (w.heap.size + 1) rfl _ _ _ h1 Try.underlying28 rfl 5 (by kernel_rfl) rfl ?_)))
    clear hsz
    refine (shapesOf_c xp xn xm xk _ _).mono ?_
    rintro e w2 ⟨rfl, b1⟩
    replace h0 := h0.after b1
    replace h1 := h1.after b1
    replace hB := below_after hB b1
    clear b1
    go_wp2_with fail
    refine (HP1.out _).mono ?_
    rintro e w3 ⟨rfl, c1⟩
    replace h0 := (h0.after (below1 _ _)).after c1
    replace h1 := (h1.after (below1 _ _)).after c1
    have hS := At.after (al1_0 _ _) c1
    replace hB := below_after (below_after hB (below1 _ _)) c1
    generalize w2.heap.size = g at *
    clear c1
    rw [← E1.out]
    go_wp2_with fail
    go_loopw [13] (fun i wr => ∃ a : Nat, a ≤ N1 ∧ i = .int .i64 a ∧ heA xp xq yq N2 N3 a = true ∧ Below w.heap.size w wr ∧ At wr w.heap.size (.cells #[.int .i64 xp, .int .i64 xn, .int .i64 xm, .int .i64 xk, .slice xA xq.length xc] 28 (0, 0)) ∧ At wr (w.heap.size + 1) (.cells #[.int .i64 xp, .int .i64 xn, .int .i64 xm, .int .i64 xk, .slice yA yq.length yc] 28 (0, 0)) ∧ At wr g (.cells #[.int .i64 xn, .int .i64 xm, .int .i64 xm, .int .i64 xk, .int .i64 xn, .int .i64 xk] 77 (0, 0))) (fun i _ => N1 - (intOf i).toNat)
    case atStart => exact ⟨0, by omega, rfl, rfl, hB, h0, h1, hS⟩
    case round =>
      clear hB h0 h1 hS
      obtain ⟨a, ha, rfl, hA, hB, h0, h1, hS⟩ := hrel
      by_cases hlt : a < N1
      · have e0 : IntKind.i64.wrap ((a : Int) + 1) = (a : Int) + 1 := IntWalk.i64_in _ (by omega)
        have HA := Lib.hid hA
        clear hA
        go_wp2_with (refine wpList_of_exec rfl (exec_load_lit 76 _ rfl g 2 rfl _ _ _ 2 hS Try.underlying76 rfl (by kernel_rfl) (by simp) #[.int .i64 xm, .int .i64 xk] rfl) ?_)
        refine (HP2.out _).mono ?_
        rintro e w4 ⟨rfl, b1⟩
        replace h0 := h0.after b1
        replace h1 := h1.after b1
        replace hS := hS.after b1
        replace hB := below_after hB b1
        clear b1
        rw [← E2.out]
        go_wp2_with fail
        go_loopw [19] (fun i wr => ∃ b : Nat, b ≤ N2 ∧ i = .int .i64 b ∧ heB xp xq yq N3 a b = true ∧ Below w.heap.size w wr ∧ At wr w.heap.size (.cells #[.int .i64 xp, .int .i64 xn, .int .i64 xm, .int .i64 xk, .slice xA xq.length xc] 28 (0, 0)) ∧ At wr (w.heap.size + 1) (.cells #[.int .i64 xp, .int .i64 xn, .int .i64 xm, .int .i64 xk, .slice yA yq.length yc] 28 (0, 0)) ∧ At wr g (.cells #[.int .i64 xn, .int .i64 xm, .int .i64 xm, .int .i64 xk, .int .i64 xn, .int .i64 xk] 77 (0, 0))) (fun i _ => N2 - (intOf i).toNat)
        case atStart => exact ⟨0, by omega, rfl, rfl, hB, h0, h1, hS⟩
        case round =>
          clear hB h0 h1 hS
          obtain ⟨b, hb, rfl, hA, hB, h0, h1, hS⟩ := hrel
          by_cases hlt2 : b < N2
          · have f0 : IntKind.i64.wrap ((b : Int) + 1) = (b : Int) + 1 := IntWalk.i64_in _ (by omega)
            have HB := Lib.hid hA
            clear hA
            have HSx := Lib.hid (leftSides_i xp xn xm xk xA xc xq a b Hp5.out HX30.out (by omega) (by omega))
            have HSy := Lib.hid (leftSides_i xp xn xm xk yA yc yq a b Hp5.out HY30.out (by omega) (by omega))
            have HFx := Lib.hid (HB0.out xq a b)
            have HFy := Lib.hid (HB0.out yq a b)
            have HE := Lib.hid (HSE.out a b)
            generalize sidesL xp.toNat xq a b = fx at *
            generalize sidesL xp.toNat yq a b = fy at *
            go_upto_region 8 with (fail)
            cases hq : (fx == fy) with
            | true =>
              have HB1 : Hid (heB xp xq yq N3 a (b + 1) = true) := Lib.hid (by rw [heB_succ, HB.out, ← HE.out, hq]; rfl)
              refine wp_region_held (S := fun w' => At w' w.heap.size (.cells #[.int .i64 xp, .int .i64 xn, .int .i64 xm, .int .i64 xk, .slice xA xq.length xc] 28 (0, 0)) ∧ At w' (w.heap.size + 1) (.cells #[.int .i64 xp, .int .i64 xn, .int .i64 xm, .int .i64 xk, .slice yA yq.length yc] 28 (0, 0))) (by kernel_rfl) ?_
              change wpAnyH _ _ _ _ _ _ _ _ (World.drew _)
              generalize hwdif : World.drew _ = wdif
              replace hB : Below w.heap.size w wdif := by rw [← hwdif]; exact hB.drew
              replace h0 : At wdif w.heap.size (.cells #[.int .i64 xp, .int .i64 xn, .int .i64 xm, .int .i64 xk, .slice xA xq.length xc] 28 (0, 0)) := by rw [← hwdif]; exact h0
              replace h1 : At wdif (w.heap.size + 1) (.cells #[.int .i64 xp, .int .i64 xn, .int .i64 xm, .int .i64 xk, .slice yA yq.length yc] 28 (0, 0)) := by rw [← hwdif]; exact h1
              replace hS : At wdif g (.cells #[.int .i64 xn, .int .i64 xm, .int .i64 xm, .int .i64 xk, .int .i64 xn, .int .i64 xk] 77 (0, 0)) := by rw [← hwdif]; exact hS
              clear hwdif
              refine held_yield 0 (some 22) (.agg #[.int .i64 xp, .int .i64 xn, .int .i64 xm, .int .i64 xk, .slice xA xq.length xc]) rfl (by kernel_rfl) (by kernel_rfl) (by kernel_rfl) (fun _ _ _ h => h) rfl rfl ⟨h0, h1⟩ (fun w' h' => exec_load_all 28 _ rfl w.heap.size rfl _ _ _ h'.1 Try.underlying28 rfl 5 (by kernel_rfl) rfl) ?_
              go_frame
              refine held_yield 1 (some 23) (.int .i64 a) rfl (by kernel_rfl) (by kernel_rfl) (by kernel_rfl) (fun _ _ _ h => h) rfl rfl ⟨h0, h1⟩ (fun w' h' => exec_move _ rfl (.int .i64 a) rfl) ?_
              go_frame
              refine held_yield 2 (some 24) (.int .i64 b) rfl (by kernel_rfl) (by kernel_rfl) (by kernel_rfl) (fun _ _ _ h => h) rfl rfl ⟨h0, h1⟩ (fun w' h' => exec_move _ rfl (.int .i64 b) rfl) ?_
              go_frame
              refine held_yield 4 (some 26) (.agg #[.int .i64 xp, .int .i64 xn, .int .i64 xm, .int .i64 xk, .slice yA yq.length yc]) rfl (by kernel_rfl) (by kernel_rfl) (by kernel_rfl) (fun _ _ _ h => h) rfl rfl ⟨h0, h1⟩ (fun w' h' => exec_load_all 28 _ rfl (w.heap.size + 1) rfl _ _ _ h'.2 Try.underlying28 rfl 5 (by kernel_rfl) rfl) ?_
              go_frame
              refine held_yield 5 (some 27) (.int .i64 a) rfl (by kernel_rfl) (by kernel_rfl) (by kernel_rfl) (fun _ _ _ h => h) rfl rfl ⟨h0, h1⟩ (fun w' h' => exec_move _ rfl (.int .i64 a) rfl) ?_
              go_frame
              refine held_yield 6 (some 28) (.int .i64 b) rfl (by kernel_rfl) (by kernel_rfl) (by kernel_rfl) (fun _ _ _ h => h) rfl rfl ⟨h0, h1⟩ (fun w' h' => exec_move _ rfl (.int .i64 b) rfl) ?_
              go_frame
              refine held_oper 3 (by kernel_rfl) rfl rfl (fun K' hK' => ?_)
              refine wp_call3 (some 25) rfl 74 _ _ _ _ rfl (fun args w => by kernel_rfl) _ _ _ rfl rfl rfl _ (HSx.out _ (hrx.keep hB)) (fun e wnif1 h => ?_)
              obtain ⟨rfl, bif2⟩ := h
              replace hB := below_after hB bif2
              replace h0 := h0.after bif2
              replace h1 := h1.after bif2
              replace hS := hS.after bif2
              clear bif2
              refine ⟨_, rfl, hK' _ _ ⟨h0, h1⟩ ?_⟩
              clear hK' K'
              go_frame
              refine held_oper 7 (by kernel_rfl) rfl rfl (fun K' hK' => ?_)
              refine wp_call3 (some 29) rfl 74 _ _ _ _ rfl (fun args w => by kernel_rfl) _ _ _ rfl rfl rfl _ (HSy.out _ (hry.keep hB)) (fun e wnif3 h => ?_)
              obtain ⟨rfl, bif4⟩ := h
              replace hB := below_after hB bif4
              replace h0 := h0.after bif4
              replace h1 := h1.after bif4
              replace hS := hS.after bif4
              clear bif4
              refine ⟨_, rfl, hK' _ _ ⟨h0, h1⟩ ?_⟩
              clear hK' K'
              go_frame
              refine held_yield 8 (some 30) (.bool false) rfl (by kernel_rfl) (by kernel_rfl) (by kernel_rfl) (fun _ _ _ h => h) rfl rfl ⟨h0, h1⟩ (fun w' h' => exec_neq_form _ _ _ rfl fx fy rfl rfl HFx.out.len HFy.out.len false (by rw [hq]; rfl)) ?_
              go_frame
              refine wpAnyH_done (by kernel_rfl) ?_ _
              go_wp2_with fail
              go_roundw
              case rel => exact ⟨b + 1, by omega, by go_num, HB1.out, hB, h0, h1, hS⟩
              case measure => simp [intOf]; omega
            | false =>
              have HF : Hid (heA xp xq yq N2 N3 N1 = false) := Lib.hid (heB_false xp xq yq hlt hlt2 (by rw [← HE.out, hq]))
              refine wp_region_held (S := fun w' => At w' w.heap.size (.cells #[.int .i64 xp, .int .i64 xn, .int .i64 xm, .int .i64 xk, .slice xA xq.length xc] 28 (0, 0)) ∧ At w' (w.heap.size + 1) (.cells #[.int .i64 xp, .int .i64 xn, .int .i64 xm, .int .i64 xk, .slice yA yq.length yc] 28 (0, 0))) (by kernel_rfl) ?_
              change wpAnyH _ _ _ _ _ _ _ _ (World.drew _)
              generalize hwdit : World.drew _ = wdit
              replace hB : Below w.heap.size w wdit := by rw [← hwdit]; exact hB.drew
              replace h0 : At wdit w.heap.size (.cells #[.int .i64 xp, .int .i64 xn, .int .i64 xm, .int .i64 xk, .slice xA xq.length xc] 28 (0, 0)) := by rw [← hwdit]; exact h0
              replace h1 : At wdit (w.heap.size + 1) (.cells #[.int .i64 xp, .int .i64 xn, .int .i64 xm, .int .i64 xk, .slice yA yq.length yc] 28 (0, 0)) := by rw [← hwdit]; exact h1
              replace hS : At wdit g (.cells #[.int .i64 xn, .int .i64 xm, .int .i64 xm, .int .i64 xk, .int .i64 xn, .int .i64 xk] 77 (0, 0)) := by rw [← hwdit]; exact hS
              clear hwdit
              refine held_yield 0 (some 22) (.agg #[.int .i64 xp, .int .i64 xn, .int .i64 xm, .int .i64 xk, .slice xA xq.length xc]) rfl (by kernel_rfl) (by kernel_rfl) (by kernel_rfl) (fun _ _ _ h => h) rfl rfl ⟨h0, h1⟩ (fun w' h' => exec_load_all 28 _ rfl w.heap.size rfl _ _ _ h'.1 Try.underlying28 rfl 5 (by kernel_rfl) rfl) ?_
              go_frame
              refine held_yield 1 (some 23) (.int .i64 a) rfl (by kernel_rfl) (by kernel_rfl) (by kernel_rfl) (fun _ _ _ h => h) rfl rfl ⟨h0, h1⟩ (fun w' h' => exec_move _ rfl (.int .i64 a) rfl) ?_
              go_frame
              refine held_yield 2 (some 24) (.int .i64 b) rfl (by kernel_rfl) (by kernel_rfl) (by kernel_rfl) (fun _ _ _ h => h) rfl rfl ⟨h0, h1⟩ (fun w' h' => exec_move _ rfl (.int .i64 b) rfl) ?_
              go_frame
              refine held_yield 4 (some 26) (.agg #[.int .i64 xp, .int .i64 xn, .int .i64 xm, .int .i64 xk, .slice yA yq.length yc]) rfl (by kernel_rfl) (by kernel_rfl) (by kernel_rfl) (fun _ _ _ h => h) rfl rfl ⟨h0, h1⟩ (fun w' h' => exec_load_all 28 _ rfl (w.heap.size + 1) rfl _ _ _ h'.2 Try.underlying28 rfl 5 (by kernel_rfl) rfl) ?_
              go_frame
              refine held_yield 5 (some 27) (.int .i64 a) rfl (by kernel_rfl) (by kernel_rfl) (by kernel_rfl) (fun _ _ _ h => h) rfl rfl ⟨h0, h1⟩ (fun w' h' => exec_move _ rfl (.int .i64 a) rfl) ?_
              go_frame
              refine held_yield 6 (some 28) (.int .i64 b) rfl (by kernel_rfl) (by kernel_rfl) (by kernel_rfl) (fun _ _ _ h => h) rfl rfl ⟨h0, h1⟩ (fun w' h' => exec_move _ rfl (.int .i64 b) rfl) ?_
              go_frame
              refine held_oper 3 (by kernel_rfl) rfl rfl (fun K' hK' => ?_)
              refine wp_call3 (some 25) rfl 74 _ _ _ _ rfl (fun args w => by kernel_rfl) _ _ _ rfl rfl rfl _ (HSx.out _ (hrx.keep hB)) (fun e wnit1 h => ?_)
              obtain ⟨rfl, bit2⟩ := h
              replace hB := below_after hB bit2
              replace h0 := h0.after bit2
              replace h1 := h1.after bit2
              replace hS := hS.after bit2
              clear bit2
              refine ⟨_, rfl, hK' _ _ ⟨h0, h1⟩ ?_⟩
              clear hK' K'
              go_frame
              refine held_oper 7 (by kernel_rfl) rfl rfl (fun K' hK' => ?_)
              refine wp_call3 (some 29) rfl 74 _ _ _ _ rfl (fun args w => by kernel_rfl) _ _ _ rfl rfl rfl _ (HSy.out _ (hry.keep hB)) (fun e wnit3 h => ?_)
              obtain ⟨rfl, bit4⟩ := h
              replace hB := below_after hB bit4
              replace h0 := h0.after bit4
              replace h1 := h1.after bit4
              replace hS := hS.after bit4
              clear bit4
              refine ⟨_, rfl, hK' _ _ ⟨h0, h1⟩ ?_⟩
              clear hK' K'
              go_frame
              refine held_yield 8 (some 30) (.bool true) rfl (by kernel_rfl) (by kernel_rfl) (by kernel_rfl) (fun _ _ _ h => h) rfl rfl ⟨h0, h1⟩ (fun w' h' => exec_neq_form _ _ _ rfl fx fy rfl rfl HFx.out.len HFy.out.len true (by rw [hq]; rfl)) ?_
              go_frame
              refine wpAnyH_done (by kernel_rfl) ?_ _
              go_wp2_with fail
              go_ret
              exact ⟨by rw [HR.out, HF.out]; rfl, hB⟩
          · obtain rfl : b = N2 := by omega
            have HA1 : Hid (heA xp xq yq b N3 (a + 1) = true) := Lib.hid (by rw [heA_succ, HA.out, hA]; rfl)
            go_wp2_with fail
            go_roundw
            case rel => exact ⟨a + 1, by omega, by go_num, HA1.out, hB, h0, h1, hS⟩
            case measure => simp [intOf]; omega
      · obtain rfl : a = N1 := by omega
        have HA := Lib.hid hA
        clear hA
        go_wp2_with fail
        go_ret
        exact ⟨by rw [HR.out, HA.out]; rfl, hB⟩
set_option maxHeartbeats 20000000 in
theorem implHaveEqualSums_c (xp xn xm xk : Int) (xA : Option Addr) (xc : Nat) (xq : List (List Nat)) (yp yn ym yk : Int) (yA : Option Addr) (yc : Nat) (yq : List (List Nat)) (w : World) (hrx : Rd w xA xq) (hlx : xq.length ≤ 1048576) (hry : Rd w yA yq) (hly : yq.length ≤ 1048576) :
    Calls Try.prog 20 #[.agg #[.int .i64 xp, .int .i64 xn, .int .i64 xm, .int .i64 xk, .slice xA xq.length xc], .agg #[.int .i64 yp, .int .i64 yn, .int .i64 ym, .int .i64 yk, .slice yA yq.length yc]] w fun e w' => e = .returned (.tuple #[.bool (hesB xp xn xm xk xq yp yn ym yk yq), .int .i64 (likeCode xp xn xm xk xq yp yn ym yk yq)]) ∧ Below w.heap.size w w' := by
  have HL := Lib.hid (fun w hx hy => checkAlike_c xp xn xm xk xA xc xq yp yn ym yk yA yc yq w hx hlx hy hly)
  by_cases hcd : likeCode xp xn xm xk xq yp yn ym yk yq = 0
  · obtain ⟨hsx, hsy, rfl, rfl, rfl, rfl⟩ := likeCode_zero hcd
    have H0 := Lib.hid hcd
    clear hsx hsy hcd
    go_enter Try.func20, Try.ntmps20
    go_wp2_with (first | (refine wpList_abs2 ?_; intro W hsz hB h0 h1) | (refine wpList_load_all rfl 28 _ rfl w.heap.size rfl _ _ _ h0 Try.underlying28 rfl 5 (by kernel_rfl) rfl ?_) | (refine wpList_load_all rfl 28 _ rfl (w.heap.size + 1) rfl _ _ _ h1 Try.underlying28 rfl 5 (by kernel_rfl) rfl ?_))
    refine (HL.out _ (hrx.keep hB) (hry.keep hB)).mono ?_
    rintro e w1 ⟨rfl, b1⟩

    rw [H0.out]
    replace h0 := h0.after b1
    replace h1 := h1.after b1
    replace hB := below_after hB b1
    clear b1 hsz
    go_wp2_with (first | (refine wpList_load_all rfl 28 _ rfl w.heap.size rfl _ _ _ h0 Try.underlying28 rfl 5 (by kernel_rfl) rfl ?_) | (refine wpList_load_all rfl 28 _ rfl (w.heap.size + 1) rfl _ _ _ h1 Try.underlying28 rfl 5 (by kernel_rfl) rfl ?_))
    refine (areEqualSums_c xp xn xm xk xA xc xq yA yc yq _ (hrx.keep hB) (hry.keep hB) H0.out).mono ?_
    rintro e w2 ⟨rfl, b1⟩
    replace hB := below_after hB b1
    go_wp2_with fail
    go_ret2
    exact ⟨by rw [H0.out]; rfl, hB⟩
  · have Hb : Hid (hesB xp xn xm xk xq yp yn ym yk yq = false) := Lib.hid (by unfold hesB; rw [if_neg hcd])
    have hne : (likeCode xp xn xm xk xq yp yn ym yk yq != 0) = true := by simp [hcd]
    generalize likeCode xp xn xm xk xq yp yn ym yk yq = cd at *
    clear hcd
    go_enter Try.func20, Try.ntmps20
    go_wp2_with (first | (refine wpList_abs2 ?_; intro W hsz hB h0 h1) | (refine wpList_load_all rfl 28 _ rfl w.heap.size rfl _ _ _ h0 Try.underlying28 rfl 5 (by kernel_rfl) rfl ?_) | (refine wpList_load_all rfl 28 _ rfl (w.heap.size + 1) rfl _ _ _ h1 Try.underlying28 rfl 5 (by kernel_rfl) rfl ?_))
    refine (HL.out _ (hrx.keep hB) (hry.keep hB)).mono ?_
    rintro e w1 ⟨rfl, b1⟩

    replace hB := below_after hB b1
    go_wp2_with fail
    go_ret2
    exact ⟨by rw [Hb.out]; rfl, hB⟩
end Go.Proofs.Ytbgoopmmdbhogaa
