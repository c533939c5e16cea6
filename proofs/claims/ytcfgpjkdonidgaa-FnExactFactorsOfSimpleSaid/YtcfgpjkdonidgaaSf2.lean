/-
  spec.l05Factors. (Made by mksf2.py.)
-/
import Derived.Test.YtcfgpjkdonidgaaSf1
import Derived.Deep.AppendLies
namespace Go.Proofs.Ytcfgpjkdonidgaa
open Go.RowKit
set_option maxRecDepth 100000
set_option maxRecDepth 100000
theorem exec_bs0I {o : Oper} {a : Act} {w : World} (ho : o.op = .buildSlice 22 0 #[]) : (execOp a.eval o).run Try.prog w = .ok (.value (.slice (some ⟨w.heap.size, 0, none⟩) 0 0)) (w.alloc (.cells #[] 2 (0, 0))) := by
  unfold execOp
  rw [ho]
  kernel_rfl
attribute [local irreducible] wpList
theorem facL_step (f : Nat → Int) (t : Nat) : facL f (t + 1) = facL f t ++ [f t] := by
  unfold facL
  rw [List.range_succ, List.map_append]
  rfl
theorem own_nilAt {w : World} {lo b : Nat} (h : At w b (.cells #[] 2 (0, 0))) (hl : lo ≤ b) {f : Nat → Int} : OwnI w lo (.slice (some ⟨b, 0, none⟩) 0 0) (facL f 0) :=
  (show OwnI w lo (.slice (some ⟨b, 0, none⟩) 0 0) [] from ⟨by simp [i64s], .inr ⟨b, 0, #[], rfl, hl, h, by simp, by simp, by simp, by simp [i64s]⟩⟩)
theorem ne_own {g b n c : Nat} (h : g ≠ b) : some g ≠ (Value.slice (some ⟨b, 0, none⟩) n c).ownBlock := by
  simp only [Value.ownBlock, ne_eq, Option.some.injEq]
  exact h
theorem at_abs {w : World} {g t : Nat} {cur : Array Value} {v : Value} (h : At w g (.cells cur 2 (0, 0))) (hv : cur[t]? = some v) : w.cell? ⟨g, t * 1, none⟩ = some v := by
  rw [Nat.mul_one, h.at_ t]
  exact hv
theorem ownI_open {w : World} {lo n : Nat} {v : Value} {xs : List Int} (h : OwnI w lo v xs) (hn : xs.length = n) (hp : 0 < n) :
    ∃ g c cur, v = .slice (some ⟨g, 0, none⟩) n c ∧ lo ≤ g ∧ At w g (.cells cur 2 (0, 0)) ∧ ∀ (t : Nat) (X : Int), xs[t]? = some X → cur[t]? = some (.int .i64 X) := by
  rcases h.2 with ⟨_, h0⟩ | ⟨g, cap, cur, rfl, hb, hgg, hle, hcap, hsz, ht⟩
  · omega
  · refine ⟨g, cap, cur, by rw [hn], hb, hgg, fun t X hX => ?_⟩
    have h1 : (i64s xs)[t]? = some (.int .i64 X) := by simp [i64s, hX]
    rw [← ht, List.getElem?_take] at h1
    split at h1
    · rwa [Array.getElem?_toList] at h1
    · cases h1
theorem wp_appI2 {o : Oper} {a : Act} {w : World} {K : Act → World → Prop} {Q : Exit → Act → World → Prop} (d : Option Tmp) (hd : o.dst = d) (s x : Operand) (ho : o.op = .call { callee := .builtin .append, args := #[s, x], argTypes := #[22, 22] })
    {lo : Nat} (v : Value) (xs : List Int) (y : Int) (hs : a.eval s = v) (hown : OwnI w lo v xs) (g : Nat) (hx : a.eval x = .slice (some ⟨g, 0, none⟩) 1 1) (hg : At w g (.cells #[.int .i64 y] 2 (0, 0))) (hle : xs.length ≤ 1000000) (hlo : lo ≤ w.heap.size)
    (h : ∀ v' w', OwnI w' lo v' (xs ++ [y]) → w.grownBy w' v.ownBlock → (∀ b, b < w.heap.size → some b ≠ v.ownBlock → some b ≠ v'.ownBlock) → K (a.put d v') w') : Oper.wp Try.prog o a w K Q := by
  obtain ⟨i0, hi, hz0, hz1, hz2⟩ := info_parts infoI64
  subst hd
  refine wp_append_lies w s x 22 ho lo 2 i0 (.int .i64 0) 1 8 Try.underlying22 hi hz0 hz1 hz2 rfl (by decide) v _ _ hs hown ⟨g, 0, none⟩ 1 1 (i64s [y]) hx (by simp [i64s]) ?_ (i64s_ones _) (by decide) (by unfold maxLen; omega) (by omega) hlo w.heap.size rfl ?_
  · intro j u hu
    have hj : j = 0 := by
      rcases Nat.eq_zero_or_pos j with h0 | h0
      · exact h0
      · rw [List.getElem?_eq_none (by simp [i64s]; omega)] at hu
        cases hu
    subst hj
    have h1 : u = .int .i64 y := by simpa [i64s] using hu.symm
    subst h1
    exact hg.at_ 0
  · intro g1 cap w8 own8 gr8 hor _
    refine h _ w8 ?_ gr8 ?_
    · unfold OwnI
      rw [show i64s (xs ++ [y]) = i64s xs ++ i64s [y] by simp [i64s], List.length_append]
      exact own8
    · intro b hb hne e
      simp only [Value.ownBlock, Option.some.injEq] at e
      rcases hor with h1 | h1
      · exact hne (by rw [h1, e])
      · omega
theorem l05AtN_c (p : Int) (a b c : Nat) (A : Option Addr) (cap N : Nat) (xs : List Int) (i j k : Nat) (w : World) (hr : RdI w A xs) (hN : xs.length = N) (hl : a * b * c = N) (ha : a ≤ 9) (hb : b ≤ 9) (hc : c ≤ 9) (hi : i < a) (hj : j < b) (hk : k < c) :
    Calls Try.prog 28 #[.agg #[.int .i64 p, .int .i64 a, .int .i64 b, .int .i64 c, .slice A N cap], .int .i64 i, .int .i64 j, .int .i64 k] w fun e w' => e = .returned (.int .i64 (nthI xs ((((i : Nat) : Int) * b + (j : Nat)) * c + (k : Nat)))) ∧ Below w.heap.size w w' := by
  subst hN
  exact l05At_c p a b c A cap xs i j k w hr (by rw [← hl]; simp) (by omega) (by omega) (by omega) (by omega) (by omega) (by omega) (by omega) (by omega) (by omega)
/-- The number that three lists make at the place t. -/
def sfG (p : Int) (b d : Nat) (u v w : List Int) (t : Nat) : Int := sfM u v w (t / (b * d)) (t / d % b) (t % d) % p
theorem sfG_gen {p : Int} {b d : Nat} {u v w : List Int} {N t : Nat} (ht : t < N) : (genL b d p (fun i j k => sfM u v w i j k) N)[t]? = some (sfG p b d u v w t) := by
  unfold genL sfG
  rw [List.getElem?_map, List.getElem?_range ht, Option.map_some]
  unfold gen
  rw [Nat.div_div_eq_div_mul, Nat.mul_comm d b]
theorem sfG_no {p : Int} {a b d N t : Nat} {u v w xs : List Int} {X : Int} (hN : a * b * d = N) (ht : t < N) (hX : xs[t]? = some X) (h : sfG p b d u v w t ≠ X) : (genL b d p (fun i j k => sfM u v w i j k) (a * b * d) == xs) = false := by
  rw [beq_eq_false_iff_ne]
  intro e
  have h1 := sfG_gen (p := p) (b := b) (d := d) (u := u) (v := v) (w := w) (N := a * b * d) (t := t) (by rw [hN]; exact ht)
  rw [e, hX] at h1
  exact h (by simpa using h1.symm)
theorem sfG_yes {p : Int} {a b d N : Nat} {u v w xs : List Int} (hx : xs.length = N) (hN : a * b * d = N) (h : ∀ t, t < N → xs[t]? = some (sfG p b d u v w t)) : (genL b d p (fun i j k => sfM u v w i j k) (a * b * d) == xs) = true := by
  rw [beq_iff_eq]
  apply List.ext_getElem?
  intro t
  by_cases ht : t < N
  · rw [h t ht, sfG_gen (by rw [hN]; exact ht)]
  · rw [List.getElem?_eq_none (by rw [genL_len, hN]; omega), List.getElem?_eq_none (by omega)]
set_option maxHeartbeats 4000000 in
theorem sfsNo_c (p : Int) (a b d : Nat) (bB oB c N : Nat) (xs : List Int) (w : World) (hX : RdI w (some ⟨bB, oB, none⟩) xs) (hxl : xs.length = N) (hs : tenB p a b d xs = true) (hn : nzN xs) :
    Calls Try.prog 18 #[.agg #[.int .i64 p, .int .i64 a, .int .i64 b, .int .i64 d, .slice (some ⟨bB, oB, none⟩) N c]] w (fun e w' => e = .returned (.tuple #[.slice none 0 0, .bool false]) ∧ Below w.heap.size w w') := by
  have hB := Below.refl w.heap.size w
  have hpp := (ten_parts hs).1
  have hp5 := prime_le5 hpp
  have hdm := (ten_parts hs).2
  have ha0 : 1 ≤ a ∧ a ≤ 9 := hdm.1
  have hb0 : 1 ≤ b ∧ b ≤ 9 := hdm.2.1
  have hd0 : 1 ≤ d ∧ d ≤ 9 := hdm.2.2.1
  have HN3 : Hid (a * b * d = N) := Lib.hid (by rw [← hxl]; exact hdm.2.2.2.1.symm)
  have HNb := Lib.hid hdm.2.2.2.2
  have hNb : N ≤ 729 := by rw [← HN3.out]; exact Nat.le_trans (Nat.mul_le_mul (Nat.mul_le_mul ha0.2 hb0.2) hd0.2) (by decide)
  have HXl := Lib.hid hxl
  have Hn := Lib.hid hn
  clear hs hxl hdm hn
  go_enter Try.func18, Try.ntmps18
  go_upto_region 0 with (fail)
  refine wp_region_lit ?_
  refine ls_op rfl (fun K' hK' => ?_)
  have lz1 := hB.size
  refine wp_new (some 1) rfl (exec_box 28 _ rfl (#[.int .i64 p, .int .i64 a, .int .i64 b, .int .i64 d, .slice (some ⟨bB, oB, none⟩) N c]) rfl) (fun Wz2 nnz3 => ?_)
  have bz4 := nnz3.below (Below.refl _ _) (Nat.le_refl _)
  replace hB := below_after hB bz4
  have hz5 : At Wz2 w.heap.size (.cells #[.int .i64 p, .int .i64 a, .int .i64 b, .int .i64 d, .slice (some ⟨bB, oB, none⟩) N c] 28 (0, 0)) := nnz3.at_
  refine hK' _ _ ?_
  clear hK' K' nnz3 bz4
  go_frame
  refine ls_ex (some 2) (.slice none 0 0) rfl rfl (exec_assign _ rfl (.slice none 0 0) rfl) ?_
  go_frame
  refine ls_ex (some 3) (.bool false) rfl rfl (exec_assign _ rfl (.bool false) rfl) ?_
  go_frame
  refine wpList_nil ?_
  go_upto_region 1 with (fail)
  refine wp_region_lit ?_
  refine ls_ex (some 4) (.int .i64 (-1)) rfl rfl (exec_assign _ rfl (.int .i64 (-1)) rfl) ?_
  go_frame
  refine wpList_nil ?_
  go_upto_region 2 with (fail)
  refine wp_region_lit ?_
  refine ls_ex (some 17) (.pointer (some ⟨w.heap.size, 4, none⟩)) rfl rfl (exec_fieldAddr 28 _ 4 rfl _ (by kernel_rfl)) ?_
  go_frame
  refine ls_ex (some 18) (.slice (some ⟨bB, oB, none⟩) N c) rfl rfl (exec_load_one 22 _ rfl w.heap.size 4 rfl (.slice (some ⟨bB, oB, none⟩) N c) _ Try.underlying22 rfl (hz5.at_ 4)) ?_
  go_frame
  refine ls_ex (some 19) (.int .i64 N) rfl rfl (exec_len _ 22 2 rfl ((some ⟨bB, oB, none⟩)) N c rfl Try.underlying22) ?_
  go_frame
  refine ls_ex (some 20) (.int .i64 ((N : Int) - 1)) rfl rfl (exec_sub _ _ _ _ rfl (N : Int) 1 ((N : Int) - 1) rfl rfl (IntWalk.i64_in _ (by omega))) ?_
  go_frame
  refine ls_ex (some 5) (.int .i64 ((N : Int) - 1)) rfl rfl (exec_assign _ rfl (.int .i64 ((N : Int) - 1)) rfl) ?_
  go_frame
  refine wpList_nil ?_
  go_wp2_with fail
  go_loopw [4, 5] (fun s4 s5 wr => ∃ (n : Nat) (q e : Int), n ≤ N ∧ e = (n : Int) - 1 ∧ s4 = .int .i64 q ∧ s5 = .int .i64 e ∧ q = -1 ∧ Below w.heap.size w wr ∧ At wr w.heap.size (.cells #[.int .i64 p, .int .i64 a, .int .i64 b, .int .i64 d, .slice (some ⟨bB, oB, none⟩) N c] 28 (0, 0))) (fun _ s5 _ => (intOf s5 + 1).toNat)
  case atStart => exact ⟨N, -1, _, Nat.le_refl _, rfl, rfl, rfl, rfl, hB, hz5⟩
  case round =>
    clear hB hz5
    obtain ⟨n, q, e, hn9, he, rfl, rfl, hq, hB, h1⟩ := hrel
    rcases n with _ | m
    · obtain rfl : e = -1 := by omega
      subst hq
      clear he
      go_upto_region 3 with (fail)
      refine wp_region_lit ?_
      refine ls_ex (some 21) (.int .i64 (-1)) rfl rfl (exec_move _ rfl (.int .i64 (-1)) rfl) ?_
      go_frame
      refine ls_ex (some 22) (.bool false) rfl rfl (exec_geq _ _ _ _ rfl ((-1)) 0 rfl rfl false (decide_eq_false (by omega))) ?_
      go_frame
      refine wpList_nil ?_
      go_upto_region 7 with (fail)
      refine wp_region_lit ?_
      refine ls_ex (some 32) (.int .i64 (-1)) rfl rfl (exec_move _ rfl (.int .i64 (-1)) rfl) ?_
      go_frame
      refine ls_ex (some 33) (.bool true) rfl rfl (exec_lss _ _ _ _ rfl ((-1)) 0 rfl rfl true (decide_eq_true (by omega))) ?_
      go_frame
      refine wpList_nil ?_
      go_upto_region 8 with (fail)
      refine wp_region_lit ?_
      refine ls_ex (some 2) (.slice none 0 0) rfl rfl (exec_assign _ rfl (.slice none 0 0) rfl) ?_
      go_frame
      refine ls_ex (some 3) (.bool false) rfl rfl (exec_assign _ rfl (.bool false) rfl) ?_
      go_frame
      refine wpList_nil ?_
      go_wp2_with fail
      go_ret2
      exact ⟨rfl, hB⟩
    · obtain rfl : e = ((m : Nat) : Int) := by omega
      clear he
      have hmN : m < N := by omega
      obtain ⟨X9, hX9⟩ : ∃ z9, xs[m]? = some z9 := ⟨_, List.getElem?_eq_getElem (by rw [HXl.out]; exact hmN)⟩
      have HX9 := Lib.hid hX9
      by_cases hz : X9 = 0
      · have Hz : Hid ((X9 != 0) = false) := Lib.hid (by simp [hz])
        have hq2 := hq
        clear hz hX9 hq
        go_upto_region 3 with (fail)
        refine wp_region_lit ?_
        refine ls_ex (some 21) (.int .i64 (m : Nat)) rfl rfl (exec_move _ rfl (.int .i64 (m : Nat)) rfl) ?_
        go_frame
        refine ls_ex (some 22) (.bool true) rfl rfl (exec_geq _ _ _ _ rfl ((m : Nat)) 0 rfl rfl true (decide_eq_true (by omega))) ?_
        go_frame
        refine wpList_nil ?_
        go_upto_region 5 with (fail)
        refine wp_region_lit ?_
        refine ls_ex (some 25) (.pointer (some ⟨w.heap.size, 4, none⟩)) rfl rfl (exec_fieldAddr 28 _ 4 rfl _ (by kernel_rfl)) ?_
        go_frame
        refine ls_ex (some 26) (.slice (some ⟨bB, oB, none⟩) N c) rfl rfl (exec_load_one 22 _ rfl w.heap.size 4 rfl (.slice (some ⟨bB, oB, none⟩) N c) _ Try.underlying22 rfl (h1.at_ 4)) ?_
        go_frame
        refine ls_ex (some 27) (.int .i64 (m : Nat)) rfl rfl (exec_move _ rfl (.int .i64 (m : Nat)) rfl) ?_
        go_frame
        refine ls_ex (some 28) (.pointer (some ⟨bB, oB + m * 1, none⟩)) rfl rfl (exec_index_slice _ 2 _ _ rfl bB oB N c m 1 rfl rfl Try.underlying22 (by kernel_rfl) hmN) ?_
        go_frame
        refine ls_ex (some 29) (.int .i64 X9) rfl rfl (exec_load_one 2 _ rfl bB (oB + m * 1) rfl (.int .i64 X9) _ Try.underlying2 rfl (RdI.c1S (hX.keep hB) HX9.out)) ?_
        go_frame
        refine ls_ex (some 30) (.bool false) rfl rfl (exec_neq _ _ _ _ rfl X9 0 rfl rfl false Hz.out) ?_
        go_frame
        refine wpList_nil ?_
        go_upto_region 4 with (fail)
        refine wp_region_lit ?_
        refine ls_ex (some 23) (.int .i64 (m : Nat)) rfl rfl (exec_move _ rfl (.int .i64 (m : Nat)) rfl) ?_
        go_frame
        refine ls_ex (some 24) (.int .i64 ((m : Int) - 1)) rfl rfl (exec_sub _ _ _ _ rfl (m : Int) 1 ((m : Int) - 1) rfl rfl (IntWalk.i64_in _ (by omega))) ?_
        go_frame
        refine ls_ex (some 5) (.int .i64 ((m : Int) - 1)) rfl rfl (exec_assign _ rfl (.int .i64 ((m : Int) - 1)) rfl) ?_
        go_frame
        refine wpList_nil ?_
        go_wp2_with fail
        go_roundw
        case rel => exact ⟨m, q, _, by omega, rfl, rfl, rfl, hq2, hB, h1⟩
        case measure => simp [intOf] <;> omega
      · exact absurd (by have := Hn.out m (by rw [HXl.out]; exact hmN); rw [hX9] at this; exact this) hz
set_option maxHeartbeats 25600000 in
theorem sfsYes_c (p : Int) (a b d : Nat) (bB oB c N : Nat) (xs : List Int) (w : World) (hX : RdI w (some ⟨bB, oB, none⟩) xs) (hxl : xs.length = N) (hs : tenB p a b d xs = true) (t0 : Nat) (ht : nzP xs t0) :
    Calls Try.prog 18 #[.agg #[.int .i64 p, .int .i64 a, .int .i64 b, .int .i64 d, .slice (some ⟨bB, oB, none⟩) N c]] w (fun e w' => (sfB p a b d xs t0 = false ∧ e = .returned (.tuple #[.slice none 0 0, .bool false]) ∧ Below w.heap.size w w') ∨ (sfB p a b d xs t0 = true ∧ ∃ (g gu gv gw cu cv cw : Nat) (ku kv kw : Array Value), e = .returned (.tuple #[.slice (some ⟨g, 0, none⟩) 3 3, .bool true]) ∧ (w.heap.size ≤ g ∧ w.heap.size ≤ gu ∧ w.heap.size ≤ gv ∧ w.heap.size ≤ gw) ∧ (gu ≠ gv ∧ gu ≠ gw ∧ gv ≠ gw) ∧ (gu ≠ g ∧ gv ≠ g ∧ gw ≠ g) ∧ At w' g (.cells #[.slice (some ⟨gu, 0, none⟩) a cu, .slice (some ⟨gv, 0, none⟩) b cv, .slice (some ⟨gw, 0, none⟩) d cw] 22 (0, 0)) ∧ At w' gu (.cells ku 2 (0, 0)) ∧ At w' gv (.cells kv 2 (0, 0)) ∧ At w' gw (.cells kw 2 (0, 0)) ∧ (∀ (t : Nat) (X : Int), (sfU p a b d xs t0)[t]? = some X → ku[t]? = some (.int .i64 X)) ∧ (∀ (t : Nat) (X : Int), (sfV p b d xs t0)[t]? = some X → kv[t]? = some (.int .i64 X)) ∧ (∀ (t : Nat) (X : Int), (sfW b d xs t0)[t]? = some X → kw[t]? = some (.int .i64 X)) ∧ Below w.heap.size w w')) := by
  have hB := Below.refl w.heap.size w
  have hpp := (ten_parts hs).1
  have hp5 := prime_le5 hpp
  have hdm := (ten_parts hs).2
  have ha0 : 1 ≤ a ∧ a ≤ 9 := hdm.1
  have hb0 : 1 ≤ b ∧ b ≤ 9 := hdm.2.1
  have hd0 : 1 ≤ d ∧ d ≤ 9 := hdm.2.2.1
  have HN3 : Hid (a * b * d = N) := Lib.hid (by rw [← hxl]; exact hdm.2.2.2.1.symm)
  have HNb := Lib.hid hdm.2.2.2.2
  have hNb : N ≤ 729 := by rw [← HN3.out]; exact Nat.le_trans (Nat.mul_le_mul (Nat.mul_le_mul ha0.2 hb0.2) hd0.2) (by decide)
  have HXl := Lib.hid hxl
  have Ht := Lib.hid ht
  have ht0N : t0 < N := by rw [← hxl]; exact ht.1
  obtain ⟨X, hXg⟩ : ∃ z9, xs[t0]? = some z9 := ⟨_, List.getElem?_eq_getElem ht.1⟩
  have hXb := inB_of HNb.out hXg
  have hXn : X ≠ 0 := by have := ht.2.1; rw [hXg] at this; exact this
  have HXg := Lib.hid hXg
  have hib := inv_range hpp (show 1 ≤ X by omega) hXb.2
  obtain ⟨IV, hIV⟩ : ∃ z9, inv p X = z9 := ⟨_, rfl⟩
  rw [hIV] at hib
  obtain ⟨M, hM⟩ : ∃ z9 : Nat, b * d = z9 := ⟨_, rfl⟩
  obtain ⟨I, hIe⟩ : ∃ z9 : Nat, t0 / M = z9 := ⟨_, rfl⟩
  obtain ⟨K1, hK1⟩ : ∃ z9 : Nat, t0 / d = z9 := ⟨_, rfl⟩
  obtain ⟨J, hJe⟩ : ∃ z9 : Nat, K1 % b = z9 := ⟨_, rfl⟩
  obtain ⟨K, hKe⟩ : ∃ z9 : Nat, t0 % d = z9 := ⟨_, rfl⟩
  have hIJK := pl_idx (t := t0) (a := a) (b := b) (d := d) (by rw [HN3.out]; exact ht0N) (by omega) (by omega)
  rw [hM, hIe, hK1, hJe, hKe] at hIJK
  obtain ⟨hI, hJ, hK⟩ := hIJK
  have hMb : 1 ≤ M ∧ M ≤ 81 := by rw [← hM]; exact ⟨Nat.mul_pos (by omega) (by omega), Nat.le_trans (Nat.mul_le_mul hb0.2 hd0.2) (by decide)⟩
  have HM : Hid (IntKind.i64.wrap ((b : Int) * (d : Int)) = (M : Int)) := Lib.hid (mwM_cast hM (by omega))
  have HI : Hid (IntKind.i64.wrap ((t0 : Int).tdiv (M : Int)) = (I : Int)) := Lib.hid (tqM_wrap hIe (by omega))
  have HK1 : Hid (IntKind.i64.wrap ((t0 : Int).tdiv (d : Int)) = (K1 : Int)) := Lib.hid (tqM_wrap hK1 (by omega))
  have HJ : Hid ((K1 : Int).tmod (b : Int) = (J : Int)) := Lib.hid (tmM_cast hJe)
  have HK : Hid ((t0 : Int).tmod (d : Int) = (K : Int)) := Lib.hid (tmM_cast hKe)
  have HIV := Lib.hid hIV
  obtain ⟨UL, hUS⟩ : ∃ z9, sfU p a b d xs t0 = z9 := ⟨_, rfl⟩
  obtain ⟨VL, hVS⟩ : ∃ z9, sfV p b d xs t0 = z9 := ⟨_, rfl⟩
  obtain ⟨WL, hWS⟩ : ∃ z9, sfW b d xs t0 = z9 := ⟨_, rfl⟩
  have hUL : facL (fun t => IV * nthI xs ((((t : Nat) : Int) * b + (J : Nat)) * d + (K : Nat)) % p) a = UL := by rw [← hUS]; simp only [sfU, hXg, Option.getD_some, hIV, hK1, hJe, hKe]
  have hVL : facL (fun t => IV * nthI xs ((((I : Nat) : Int) * b + (t : Nat)) * d + (K : Nat)) % p) b = VL := by rw [← hVS]; simp only [sfV, hXg, Option.getD_some, hIV, hM, hIe, hKe]
  have hWL : facL (fun t => nthI xs ((((I : Nat) : Int) * b + (J : Nat)) * d + (t : Nat))) d = WL := by rw [← hWS]; simp only [sfW, hM, hIe, hK1, hJe]
  have HLu : Hid (UL.length = a) := Lib.hid (by rw [← hUL]; exact facL_len _ _)
  have HLv : Hid (VL.length = b) := Lib.hid (by rw [← hVL]; exact facL_len _ _)
  have HLw : Hid (WL.length = d) := Lib.hid (by rw [← hWL]; exact facL_len _ _)
  have Hnn : Hid (AllIn p UL ∧ AllIn p VL ∧ AllIn p WL) := Lib.hid ⟨by rw [← hUL]; exact facL_in (fun t => ⟨Int.emod_nonneg _ (by omega), Int.emod_lt_of_pos _ (by omega)⟩) _, by rw [← hVL]; exact facL_in (fun t => ⟨Int.emod_nonneg _ (by omega), Int.emod_lt_of_pos _ (by omega)⟩) _, by rw [← hWL]; exact facL_in (fun t => nth_in HNb.out (by omega) _) _⟩
  have HGB : Hid (sfB p a b d xs t0 = (genL b d p (fun i j k => sfM UL VL WL i j k) (a * b * d) == xs)) := Lib.hid (by unfold sfB; rw [hUS, hVS, hWS])
  have HUL : Hid (facL (fun t => nthI xs ((((t : Nat) : Int) * b + (J : Nat)) * d + (K : Nat)) * IV % p) a = UL) := Lib.hid (by rw [← hUL]; simp only [Int.mul_comm IV])
  have HVL : Hid (facL (fun t => nthI xs ((((I : Nat) : Int) * b + (t : Nat)) * d + (K : Nat)) * IV % p) b = VL) := Lib.hid (by rw [← hVL]; simp only [Int.mul_comm IV])
  have HWL := Lib.hid hWL
  have HMe := Lib.hid hM
  rw [hUS, hVS, hWS]
  clear hs hxl hdm ht hXg hIV hM hIe hK1 hJe hKe hUL hVL hWL hUS hVS hWS
  go_enter Try.func18, Try.ntmps18
  go_upto_region 0 with (fail)
  refine wp_region_lit ?_
  refine ls_op rfl (fun K' hK' => ?_)
  have lz1 := hB.size
  refine wp_new (some 1) rfl (exec_box 28 _ rfl (#[.int .i64 p, .int .i64 a, .int .i64 b, .int .i64 d, .slice (some ⟨bB, oB, none⟩) N c]) rfl) (fun Wz2 nnz3 => ?_)
  have bz4 := nnz3.below (Below.refl _ _) (Nat.le_refl _)
  replace hB := below_after hB bz4
  have hz5 : At Wz2 w.heap.size (.cells #[.int .i64 p, .int .i64 a, .int .i64 b, .int .i64 d, .slice (some ⟨bB, oB, none⟩) N c] 28 (0, 0)) := nnz3.at_
  refine hK' _ _ ?_
  clear hK' K' nnz3 bz4
  go_frame
  refine ls_ex (some 2) (.slice none 0 0) rfl rfl (exec_assign _ rfl (.slice none 0 0) rfl) ?_
  go_frame
  refine ls_ex (some 3) (.bool false) rfl rfl (exec_assign _ rfl (.bool false) rfl) ?_
  go_frame
  refine wpList_nil ?_
  go_upto_region 1 with (fail)
  refine wp_region_lit ?_
  refine ls_ex (some 4) (.int .i64 (-1)) rfl rfl (exec_assign _ rfl (.int .i64 (-1)) rfl) ?_
  go_frame
  refine wpList_nil ?_
  go_upto_region 2 with (fail)
  refine wp_region_lit ?_
  refine ls_ex (some 17) (.pointer (some ⟨w.heap.size, 4, none⟩)) rfl rfl (exec_fieldAddr 28 _ 4 rfl _ (by kernel_rfl)) ?_
  go_frame
  refine ls_ex (some 18) (.slice (some ⟨bB, oB, none⟩) N c) rfl rfl (exec_load_one 22 _ rfl w.heap.size 4 rfl (.slice (some ⟨bB, oB, none⟩) N c) _ Try.underlying22 rfl (hz5.at_ 4)) ?_
  go_frame
  refine ls_ex (some 19) (.int .i64 N) rfl rfl (exec_len _ 22 2 rfl ((some ⟨bB, oB, none⟩)) N c rfl Try.underlying22) ?_
  go_frame
  refine ls_ex (some 20) (.int .i64 ((N : Int) - 1)) rfl rfl (exec_sub _ _ _ _ rfl (N : Int) 1 ((N : Int) - 1) rfl rfl (IntWalk.i64_in _ (by omega))) ?_
  go_frame
  refine ls_ex (some 5) (.int .i64 ((N : Int) - 1)) rfl rfl (exec_assign _ rfl (.int .i64 ((N : Int) - 1)) rfl) ?_
  go_frame
  refine wpList_nil ?_
  go_wp2_with fail
  go_loopw [4, 5] (fun s4 s5 wr => ∃ (n : Nat) (q e : Int), n ≤ N ∧ e = (n : Int) - 1 ∧ s4 = .int .i64 q ∧ s5 = .int .i64 e ∧ (n ≤ t0 → q = (t0 : Int)) ∧ Below w.heap.size w wr ∧ At wr w.heap.size (.cells #[.int .i64 p, .int .i64 a, .int .i64 b, .int .i64 d, .slice (some ⟨bB, oB, none⟩) N c] 28 (0, 0))) (fun _ s5 _ => (intOf s5 + 1).toNat)
  case atStart => exact ⟨N, -1, _, Nat.le_refl _, rfl, rfl, rfl, fun h => by omega, hB, hz5⟩
  case round =>
    clear hB hz5
    obtain ⟨n, q, e, hn9, he, rfl, rfl, hq, hB, h1⟩ := hrel
    rcases n with _ | m
    · obtain rfl : e = -1 := by omega
      obtain rfl : q = (t0 : Int) := hq (by omega)
      clear he hq
      go_upto_region 3 with (fail)
      refine wp_region_lit ?_
      refine ls_ex (some 21) (.int .i64 (-1)) rfl rfl (exec_move _ rfl (.int .i64 (-1)) rfl) ?_
      go_frame
      refine ls_ex (some 22) (.bool false) rfl rfl (exec_geq _ _ _ _ rfl ((-1)) 0 rfl rfl false (decide_eq_false (by omega))) ?_
      go_frame
      refine wpList_nil ?_
      go_upto_region 7 with (fail)
      refine wp_region_lit ?_
      refine ls_ex (some 32) (.int .i64 (t0 : Nat)) rfl rfl (exec_move _ rfl (.int .i64 (t0 : Nat)) rfl) ?_
      go_frame
      refine ls_ex (some 33) (.bool false) rfl rfl (exec_lss _ _ _ _ rfl ((t0 : Nat)) 0 rfl rfl false (decide_eq_false (by omega))) ?_
      go_frame
      refine wpList_nil ?_
      go_upto_region 9 with (fail)
      refine wp_region_y (zs := []) (S := fun w' => Below w.heap.size w w' ∧ At w' w.heap.size (.cells #[.int .i64 p, .int .i64 a, .int .i64 b, .int .i64 d, .slice (some ⟨bB, oB, none⟩) N c] 28 (0, 0))) (S2 := fun w' => True) (by kernel_rfl) ?_
      change wpAnyY _ _ _ _ _ _ _ _ _ _ (World.drew _)
      generalize hwdz6 : World.drew _ = wdz6
      replace hB : Below w.heap.size w wdz6 := by rw [← hwdz6]; exact hB.drew
      replace h1 : At wdz6 w.heap.size (.cells #[.int .i64 p, .int .i64 a, .int .i64 b, .int .i64 d, .slice (some ⟨bB, oB, none⟩) N c] 28 (0, 0)) := by rw [← hwdz6]; exact h1
      clear hwdz6
      refine y_yield 0 (some 34) (.int .i64 (t0 : Nat)) rfl (by kernel_rfl) (by kernel_rfl) (by kernel_rfl) (fun _ _ _ h => h) rfl rfl ⟨hB, h1⟩ (fun w' h' => exec_move _ rfl (.int .i64 (t0 : Nat)) rfl) ?_
      go_frame
      refine y_yield 1 (some 35) (.pointer (some ⟨w.heap.size, 2, none⟩)) rfl (by kernel_rfl) (by kernel_rfl) (by kernel_rfl) (fun _ _ _ h => h) rfl rfl ⟨hB, h1⟩ (fun w' h' => exec_fieldAddr 28 _ 2 rfl _ (by kernel_rfl)) ?_
      go_frame
      refine y_yield 2 (some 36) (.int .i64 b) rfl (by kernel_rfl) (by kernel_rfl) (by kernel_rfl) (fun _ _ _ h => h) rfl rfl ⟨hB, h1⟩ (fun w' h' => exec_load_one 2 _ rfl w.heap.size 2 rfl (.int .i64 b) _ Try.underlying2 rfl (h'.2.at_ 2)) ?_
      go_frame
      refine y_yield 3 (some 37) (.pointer (some ⟨w.heap.size, 3, none⟩)) rfl (by kernel_rfl) (by kernel_rfl) (by kernel_rfl) (fun _ _ _ h => h) rfl rfl ⟨hB, h1⟩ (fun w' h' => exec_fieldAddr 28 _ 3 rfl _ (by kernel_rfl)) ?_
      go_frame
      refine y_yield 4 (some 38) (.int .i64 d) rfl (by kernel_rfl) (by kernel_rfl) (by kernel_rfl) (fun _ _ _ h => h) rfl rfl ⟨hB, h1⟩ (fun w' h' => exec_load_one 2 _ rfl w.heap.size 3 rfl (.int .i64 d) _ Try.underlying2 rfl (h'.2.at_ 3)) ?_
      go_frame
      refine y_yield 5 (some 39) (.int .i64 M) rfl (by kernel_rfl) (by kernel_rfl) (by kernel_rfl) (fun _ _ _ h => h) rfl rfl ⟨hB, h1⟩ (fun w' h' => exec_mul _ _ _ _ rfl b d M rfl rfl HM.out) ?_
      go_frame
      refine y_yield 6 (some 40) (.int .i64 I) rfl (by kernel_rfl) (by kernel_rfl) (by kernel_rfl) (fun _ _ _ h => h) rfl rfl ⟨hB, h1⟩ (fun w' h' => exec_quo _ _ _ _ rfl t0 M I rfl rfl (by omega) HI.out) ?_
      go_frame
      refine y_yield 7 (some 41) (.int .i64 (t0 : Nat)) rfl (by kernel_rfl) (by kernel_rfl) (by kernel_rfl) (fun _ _ _ h => h) rfl rfl ⟨hB, h1⟩ (fun w' h' => exec_move _ rfl (.int .i64 (t0 : Nat)) rfl) ?_
      go_frame
      refine y_yield 8 (some 42) (.pointer (some ⟨w.heap.size, 3, none⟩)) rfl (by kernel_rfl) (by kernel_rfl) (by kernel_rfl) (fun _ _ _ h => h) rfl rfl ⟨hB, h1⟩ (fun w' h' => exec_fieldAddr 28 _ 3 rfl _ (by kernel_rfl)) ?_
      go_frame
      refine y_yield 9 (some 43) (.int .i64 d) rfl (by kernel_rfl) (by kernel_rfl) (by kernel_rfl) (fun _ _ _ h => h) rfl rfl ⟨hB, h1⟩ (fun w' h' => exec_load_one 2 _ rfl w.heap.size 3 rfl (.int .i64 d) _ Try.underlying2 rfl (h'.2.at_ 3)) ?_
      go_frame
      refine y_yield 10 (some 44) (.int .i64 K1) rfl (by kernel_rfl) (by kernel_rfl) (by kernel_rfl) (fun _ _ _ h => h) rfl rfl ⟨hB, h1⟩ (fun w' h' => exec_quo _ _ _ _ rfl t0 d K1 rfl rfl (by omega) HK1.out) ?_
      go_frame
      refine y_yield 11 (some 45) (.pointer (some ⟨w.heap.size, 2, none⟩)) rfl (by kernel_rfl) (by kernel_rfl) (by kernel_rfl) (fun _ _ _ h => h) rfl rfl ⟨hB, h1⟩ (fun w' h' => exec_fieldAddr 28 _ 2 rfl _ (by kernel_rfl)) ?_
      go_frame
      refine y_yield 12 (some 46) (.int .i64 b) rfl (by kernel_rfl) (by kernel_rfl) (by kernel_rfl) (fun _ _ _ h => h) rfl rfl ⟨hB, h1⟩ (fun w' h' => exec_load_one 2 _ rfl w.heap.size 2 rfl (.int .i64 b) _ Try.underlying2 rfl (h'.2.at_ 2)) ?_
      go_frame
      refine y_yield 13 (some 47) (.int .i64 J) rfl (by kernel_rfl) (by kernel_rfl) (by kernel_rfl) (fun _ _ _ h => h) rfl rfl ⟨hB, h1⟩ (fun w' h' => exec_rem _ _ _ _ rfl K1 b J rfl rfl (by omega) HJ.out) ?_
      go_frame
      refine y_yield 14 (some 48) (.int .i64 (t0 : Nat)) rfl (by kernel_rfl) (by kernel_rfl) (by kernel_rfl) (fun _ _ _ h => h) rfl rfl ⟨hB, h1⟩ (fun w' h' => exec_move _ rfl (.int .i64 (t0 : Nat)) rfl) ?_
      go_frame
      refine y_yield 15 (some 49) (.pointer (some ⟨w.heap.size, 3, none⟩)) rfl (by kernel_rfl) (by kernel_rfl) (by kernel_rfl) (fun _ _ _ h => h) rfl rfl ⟨hB, h1⟩ (fun w' h' => exec_fieldAddr 28 _ 3 rfl _ (by kernel_rfl)) ?_
      go_frame
      refine y_yield 16 (some 50) (.int .i64 d) rfl (by kernel_rfl) (by kernel_rfl) (by kernel_rfl) (fun _ _ _ h => h) rfl rfl ⟨hB, h1⟩ (fun w' h' => exec_load_one 2 _ rfl w.heap.size 3 rfl (.int .i64 d) _ Try.underlying2 rfl (h'.2.at_ 3)) ?_
      go_frame
      refine y_yield 17 (some 51) (.int .i64 K) rfl (by kernel_rfl) (by kernel_rfl) (by kernel_rfl) (fun _ _ _ h => h) rfl rfl ⟨hB, h1⟩ (fun w' h' => exec_rem _ _ _ _ rfl t0 d K rfl rfl (by omega) HK.out) ?_
      go_frame
      refine y_oper 18 (by kernel_rfl) rfl rfl (fun K' hK' => ?_)
      refine wp_exec (some 6) rfl (.int .i64 I) (exec_assign _ rfl (.int .i64 I) rfl) ?_
      refine hK' _ _ ⟨hB, h1⟩ (fun _ => trivial) ?_
      clear hK' K'
      go_frame
      refine y_oper 19 (by kernel_rfl) rfl rfl (fun K' hK' => ?_)
      refine wp_exec (some 7) rfl (.int .i64 J) (exec_assign _ rfl (.int .i64 J) rfl) ?_
      refine hK' _ _ ⟨hB, h1⟩ (fun _ => trivial) ?_
      clear hK' K'
      go_frame
      refine y_oper 20 (by kernel_rfl) rfl rfl (fun K' hK' => ?_)
      refine wp_exec (some 8) rfl (.int .i64 K) (exec_assign _ rfl (.int .i64 K) rfl) ?_
      refine hK' _ _ ⟨hB, h1⟩ (fun _ => trivial) ?_
      clear hK' K'
      go_frame
      refine y_done (by kernel_rfl) ?_ _
      go_upto_region 10 with (fail)
      refine wp_region_y (zs := []) (S := fun w' => Below w.heap.size w w' ∧ At w' w.heap.size (.cells #[.int .i64 p, .int .i64 a, .int .i64 b, .int .i64 d, .slice (some ⟨bB, oB, none⟩) N c] 28 (0, 0))) (S2 := fun w' => True) (by kernel_rfl) ?_
      change wpAnyY _ _ _ _ _ _ _ _ _ _ (World.drew _)
      generalize hwdz7 : World.drew _ = wdz7
      replace hB : Below w.heap.size w wdz7 := by rw [← hwdz7]; exact hB.drew
      replace h1 : At wdz7 w.heap.size (.cells #[.int .i64 p, .int .i64 a, .int .i64 b, .int .i64 d, .slice (some ⟨bB, oB, none⟩) N c] 28 (0, 0)) := by rw [← hwdz7]; exact h1
      clear hwdz7
      refine y_yield 0 (some 52) (.pointer (some ⟨w.heap.size, 0, none⟩)) rfl (by kernel_rfl) (by kernel_rfl) (by kernel_rfl) (fun _ _ _ h => h) rfl rfl ⟨hB, h1⟩ (fun w' h' => exec_fieldAddr 28 _ 0 rfl _ (by kernel_rfl)) ?_
      go_frame
      refine y_yield 1 (some 53) (.int .i64 p) rfl (by kernel_rfl) (by kernel_rfl) (by kernel_rfl) (fun _ _ _ h => h) rfl rfl ⟨hB, h1⟩ (fun w' h' => exec_load_one 2 _ rfl w.heap.size 0 rfl (.int .i64 p) _ Try.underlying2 rfl (h'.2.at_ 0)) ?_
      go_frame
      refine y_yield 2 (some 54) (.pointer (some ⟨w.heap.size, 4, none⟩)) rfl (by kernel_rfl) (by kernel_rfl) (by kernel_rfl) (fun _ _ _ h => h) rfl rfl ⟨hB, h1⟩ (fun w' h' => exec_fieldAddr 28 _ 4 rfl _ (by kernel_rfl)) ?_
      go_frame
      refine y_yield 3 (some 55) (.slice (some ⟨bB, oB, none⟩) N c) rfl (by kernel_rfl) (by kernel_rfl) (by kernel_rfl) (fun _ _ _ h => h) rfl rfl ⟨hB, h1⟩ (fun w' h' => exec_load_one 22 _ rfl w.heap.size 4 rfl (.slice (some ⟨bB, oB, none⟩) N c) _ Try.underlying22 rfl (h'.2.at_ 4)) ?_
      go_frame
      refine y_yield 4 (some 56) (.int .i64 (t0 : Nat)) rfl (by kernel_rfl) (by kernel_rfl) (by kernel_rfl) (fun _ _ _ h => h) rfl rfl ⟨hB, h1⟩ (fun w' h' => exec_move _ rfl (.int .i64 (t0 : Nat)) rfl) ?_
      go_frame
      refine y_yield 5 (some 57) (.pointer (some ⟨bB, oB + t0 * 1, none⟩)) rfl (by kernel_rfl) (by kernel_rfl) (by kernel_rfl) (fun _ _ _ h => h) rfl rfl ⟨hB, h1⟩ (fun w' h' => exec_index_slice _ 2 _ _ rfl bB oB N c t0 1 rfl rfl Try.underlying22 (by kernel_rfl) ht0N) ?_
      go_frame
      refine y_yield 6 (some 58) (.int .i64 X) rfl (by kernel_rfl) (by kernel_rfl) (by kernel_rfl) (fun _ _ _ h => h) rfl rfl ⟨hB, h1⟩ (fun w' h' => exec_load_one 2 _ rfl bB (oB + t0 * 1) rfl (.int .i64 X) _ Try.underlying2 rfl (RdI.c1S (hX.keep h'.1) HXg.out)) ?_
      go_frame
      refine y_oper 7 (by kernel_rfl) rfl rfl (fun K' hK' => ?_)
      have lz10 := hB.size
      have lz11 := h1.lt
      refine wp_call2 (some 59) rfl 27 _ _ _ rfl (fun args w => by kernel_rfl) _ _ rfl rfl _ (l01Inverse_c p X _ hpp (by omega) (by omega)) (fun e Wz8 h => ?_)
      obtain ⟨rfl, rfl⟩ := h
      rw [HIV.out]
      refine ⟨_, rfl, ?_⟩
      refine hK' _ _ ⟨hB, h1⟩ (fun _ => trivial) ?_
      clear hK' K'
      go_frame
      refine y_oper 8 (by kernel_rfl) rfl rfl (fun K' hK' => ?_)
      refine wp_exec (some 9) rfl (.int .i64 IV) (exec_assign _ rfl (.int .i64 IV) rfl) ?_
      refine hK' _ _ ⟨hB, h1⟩ (fun _ => trivial) ?_
      clear hK' K'
      go_frame
      refine y_done (by kernel_rfl) ?_ _
      go_upto_region 11 with (fail)
      refine wp_region_lit ?_
      refine ls_op rfl (fun K' hK' => ?_)
      have lz12 := hB.size
      have lz13 := h1.lt
      refine wp_new (some 60) rfl (exec_bs0I rfl) (fun Wz14 nnz15 => ?_)
      have bz16 := nnz15.below (Below.refl _ _) (Nat.le_refl _)
      replace hB := below_after hB bz16
      replace h1 := h1.after bz16
      have hk0 : At Wz14 wdz7.heap.size (.cells #[] 2 (0, 0)) := nnz15.at_
      refine hK' _ _ ?_
      clear hK' K' nnz15 bz16
      go_frame
      refine ls_op rfl (fun K' hK' => ?_)
      have lz17 := hB.size
      have lz18 := h1.lt
      have lz19 := hk0.lt
      refine wp_new (some 61) rfl (exec_bs0I rfl) (fun Wz20 nnz21 => ?_)
      have bz22 := nnz21.below (Below.refl _ _) (Nat.le_refl _)
      replace hB := below_after hB bz22
      replace h1 := h1.after bz22
      replace hk0 := hk0.after bz22
      have hk1 : At Wz20 Wz14.heap.size (.cells #[] 2 (0, 0)) := nnz21.at_
      refine hK' _ _ ?_
      clear hK' K' nnz21 bz22
      go_frame
      refine ls_op rfl (fun K' hK' => ?_)
      have lz23 := hB.size
      have lz24 := h1.lt
      have lz25 := hk0.lt
      have lz26 := hk1.lt
      refine wp_new (some 62) rfl (exec_bs0I rfl) (fun Wz27 nnz28 => ?_)
      have bz29 := nnz28.below (Below.refl _ _) (Nat.le_refl _)
      replace hB := below_after hB bz29
      replace h1 := h1.after bz29
      replace hk0 := hk0.after bz29
      replace hk1 := hk1.after bz29
      have hk2 : At Wz27 Wz20.heap.size (.cells #[] 2 (0, 0)) := nnz28.at_
      refine hK' _ _ ?_
      clear hK' K' nnz28 bz29
      go_frame
      refine ls_ex (some 10) (.slice (some ⟨wdz7.heap.size, 0, none⟩) 0 0) rfl rfl (exec_assign _ rfl (.slice (some ⟨wdz7.heap.size, 0, none⟩) 0 0) rfl) ?_
      go_frame
      refine ls_ex (some 11) (.slice (some ⟨Wz14.heap.size, 0, none⟩) 0 0) rfl rfl (exec_assign _ rfl (.slice (some ⟨Wz14.heap.size, 0, none⟩) 0 0) rfl) ?_
      go_frame
      refine ls_ex (some 12) (.slice (some ⟨Wz20.heap.size, 0, none⟩) 0 0) rfl rfl (exec_assign _ rfl (.slice (some ⟨Wz20.heap.size, 0, none⟩) 0 0) rfl) ?_
      go_frame
      refine wpList_nil ?_
      go_upto_region 12 with (fail)
      refine wp_region_lit ?_
      refine ls_ex (some 13) (.int .i64 0) rfl rfl (exec_assign _ rfl (.int .i64 0) rfl) ?_
      go_frame
      refine wpList_nil ?_
      go_wp2_with fail
      have lz30 := hB.size
      have lz31 := h1.lt
      have lz32 := hk0.lt
      have lz33 := hk1.lt
      have lz34 := hk2.lt
      go_loopw [10, 13] (fun s10 s13 wr => ∃ (t : Nat) (v9 : Value), t ≤ a ∧ v9 = s10 ∧ s13 = .int .i64 t ∧ Below w.heap.size w wr ∧ At wr w.heap.size (.cells #[.int .i64 p, .int .i64 a, .int .i64 b, .int .i64 d, .slice (some ⟨bB, oB, none⟩) N c] 28 (0, 0)) ∧ At wr Wz14.heap.size (.cells #[] 2 (0, 0)) ∧ At wr Wz20.heap.size (.cells #[] 2 (0, 0)) ∧ OwnI wr w.heap.size (v9) (facL (fun t => nthI xs ((((t : Nat) : Int) * b + (J : Nat)) * d + (K : Nat)) * IV % p) t) ∧ some Wz14.heap.size ≠ v9.ownBlock ∧ some Wz20.heap.size ≠ v9.ownBlock) (fun _ s13 _ => a - (intOf s13).toNat)
      case atStart => exact ⟨0, _, by omega, rfl, rfl, hB, h1, hk1, hk2, own_nilAt hk0 (by have := hB.size; omega), ne_own (by omega), ne_own (by omega)⟩
      case round =>
        clear hB h1 hk0 hk1 hk2
        obtain ⟨t, v9, hle, rfl, rfl, hB, h1, hv, hw, ho, nav, naw⟩ := hrel
        by_cases hlt : t < a
        · obtain ⟨V, hV⟩ : ∃ z9, nthI xs ((((t : Nat) : Int) * b + (J : Nat)) * d + (K : Nat)) = z9 := ⟨_, rfl⟩
          have hVb : 0 ≤ V ∧ V < p := by rw [← hV]; exact nth_in HNb.out (by omega) _
          obtain ⟨M2, hM2⟩ : ∃ z9, V * IV = z9 := ⟨_, rfl⟩
          have hM2b : 0 ≤ M2 ∧ M2 ≤ 25 := by rw [← hM2]; exact ⟨Int.mul_nonneg hVb.1 (by omega), (show V * IV ≤ 5 * 5 from Int.mul_le_mul (by omega) (by omega) (by omega) (by omega))⟩
          have HM2 : Hid (IntKind.i64.wrap (V * IV) = M2) := Lib.hid (by rw [hM2]; exact IntWalk.i64_in _ (by omega))
          obtain ⟨R2, hR2⟩ : ∃ z9, M2 % p = z9 := ⟨_, rfl⟩
          have HR2 : Hid (M2.tmod p = R2) := Lib.hid (by rw [Int.tmod_eq_emod_of_nonneg hM2b.1]; exact hR2)
          have HT : Hid (facL (fun t => nthI xs ((((t : Nat) : Int) * b + (J : Nat)) * d + (K : Nat)) * IV % p) t ++ [R2] = facL (fun t => nthI xs ((((t : Nat) : Int) * b + (J : Nat)) * d + (K : Nat)) * IV % p) (t + 1)) := Lib.hid (by rw [facL_step]; simp only [hV, hM2, hR2])
          have HFl : Hid ((facL (fun t => nthI xs ((((t : Nat) : Int) * b + (J : Nat)) * d + (K : Nat)) * IV % p) t).length ≤ 1000000) := Lib.hid (by rw [facL_len]; omega)
          have HV := Lib.hid hV
          clear hV hM2 hR2
          go_upto_region 13 with (fail)
          refine wp_region_lit ?_
          refine ls_ex (some 63) (.int .i64 t) rfl rfl (exec_move _ rfl (.int .i64 t) rfl) ?_
          go_frame
          refine ls_ex (some 64) (.pointer (some ⟨w.heap.size, 1, none⟩)) rfl rfl (exec_fieldAddr 28 _ 1 rfl _ (by kernel_rfl)) ?_
          go_frame
          refine ls_ex (some 65) (.int .i64 a) rfl rfl (exec_load_one 2 _ rfl w.heap.size 1 rfl (.int .i64 a) _ Try.underlying2 rfl (h1.at_ 1)) ?_
          go_frame
          refine ls_ex (some 66) (.bool true) rfl rfl (exec_lss _ _ _ _ rfl t a rfl rfl true (decide_eq_true (by omega))) ?_
          go_frame
          refine wpList_nil ?_
          go_upto_region 15 with (fail)
          refine wp_region_y (zs := []) (S := fun w' => Below w.heap.size w w' ∧ At w' w.heap.size (.cells #[.int .i64 p, .int .i64 a, .int .i64 b, .int .i64 d, .slice (some ⟨bB, oB, none⟩) N c] 28 (0, 0))) (S2 := fun w' => True) (by kernel_rfl) ?_
          change wpAnyY _ _ _ _ _ _ _ _ _ _ (World.drew _)
          generalize hwdz35 : World.drew _ = wdz35
          replace hB : Below w.heap.size w wdz35 := by rw [← hwdz35]; exact hB.drew
          replace h1 : At wdz35 w.heap.size (.cells #[.int .i64 p, .int .i64 a, .int .i64 b, .int .i64 d, .slice (some ⟨bB, oB, none⟩) N c] 28 (0, 0)) := by rw [← hwdz35]; exact h1
          replace hv : At wdz35 Wz14.heap.size (.cells #[] 2 (0, 0)) := by rw [← hwdz35]; exact hv
          replace hw : At wdz35 Wz20.heap.size (.cells #[] 2 (0, 0)) := by rw [← hwdz35]; exact hw
          replace ho : OwnI wdz35 w.heap.size (v9) (facL (fun t => nthI xs ((((t : Nat) : Int) * b + (J : Nat)) * d + (K : Nat)) * IV % p) t) := by rw [← hwdz35]; exact ho.drew
          clear hwdz35
          refine y_yield 0 (some 69) (v9) rfl (by kernel_rfl) (by kernel_rfl) (by kernel_rfl) (fun _ _ _ h => h) rfl rfl ⟨hB, h1⟩ (fun w' h' => exec_move _ rfl (v9) rfl) ?_
          go_frame
          refine y_yield 1 (some 70) (.agg #[.int .i64 p, .int .i64 a, .int .i64 b, .int .i64 d, .slice (some ⟨bB, oB, none⟩) N c]) rfl (by kernel_rfl) (by kernel_rfl) (by kernel_rfl) (fun _ _ _ h => h) rfl rfl ⟨hB, h1⟩ (fun w' h' => exec_load_all 28 _ rfl w.heap.size rfl _ _ _ h'.2 Try.underlying28 rfl 5 (by kernel_rfl) rfl) ?_
          go_frame
          refine y_yield 2 (some 71) (.int .i64 t) rfl (by kernel_rfl) (by kernel_rfl) (by kernel_rfl) (fun _ _ _ h => h) rfl rfl ⟨hB, h1⟩ (fun w' h' => exec_move _ rfl (.int .i64 t) rfl) ?_
          go_frame
          refine y_yield 3 (some 72) (.int .i64 J) rfl (by kernel_rfl) (by kernel_rfl) (by kernel_rfl) (fun _ _ _ h => h) rfl rfl ⟨hB, h1⟩ (fun w' h' => exec_move _ rfl (.int .i64 J) rfl) ?_
          go_frame
          refine y_yield 4 (some 73) (.int .i64 K) rfl (by kernel_rfl) (by kernel_rfl) (by kernel_rfl) (fun _ _ _ h => h) rfl rfl ⟨hB, h1⟩ (fun w' h' => exec_move _ rfl (.int .i64 K) rfl) ?_
          go_frame
          refine y_yield 6 (some 75) (.int .i64 IV) rfl (by kernel_rfl) (by kernel_rfl) (by kernel_rfl) (fun _ _ _ h => h) rfl rfl ⟨hB, h1⟩ (fun w' h' => exec_move _ rfl (.int .i64 IV) rfl) ?_
          go_frame
          refine y_yield 8 (some 77) (.pointer (some ⟨w.heap.size, 0, none⟩)) rfl (by kernel_rfl) (by kernel_rfl) (by kernel_rfl) (fun _ _ _ h => h) rfl rfl ⟨hB, h1⟩ (fun w' h' => exec_fieldAddr 28 _ 0 rfl _ (by kernel_rfl)) ?_
          go_frame
          refine y_yield 9 (some 78) (.int .i64 p) rfl (by kernel_rfl) (by kernel_rfl) (by kernel_rfl) (fun _ _ _ h => h) rfl rfl ⟨hB, h1⟩ (fun w' h' => exec_load_one 2 _ rfl w.heap.size 0 rfl (.int .i64 p) _ Try.underlying2 rfl (h'.2.at_ 0)) ?_
          go_frame
          refine y_oper 5 (by kernel_rfl) rfl rfl (fun K' hK' => ?_)
          have lz38 := hB.size
          have lz39 := h1.lt
          have lz40 := hv.lt
          have lz41 := hw.lt
          refine wp_call4 (some 74) rfl 28 _ _ _ _ _ rfl (fun args w => by kernel_rfl) _ _ _ _ rfl rfl rfl rfl _ (l05AtN_c p a b d (some ⟨bB, oB, none⟩) c N xs t J K _ (hX.keep hB) HXl.out HN3.out ha0.2 hb0.2 hd0.2 hlt hJ hK) (fun e Wz36 h => ?_)
          obtain ⟨rfl, bz37⟩ := h
          replace hB := below_after hB bz37
          replace h1 := h1.after bz37
          replace hv := hv.after bz37
          replace hw := hw.after bz37
          replace ho := ho.below bz37
          rw [HV.out]
          clear bz37
          refine ⟨_, rfl, ?_⟩
          refine hK' _ _ ⟨hB, h1⟩ (fun _ => trivial) ?_
          clear hK' K'
          go_frame
          refine y_yield 7 (some 76) (.int .i64 M2) rfl (by kernel_rfl) (by kernel_rfl) (by kernel_rfl) (fun _ _ _ h => h) rfl rfl ⟨hB, h1⟩ (fun w' h' => exec_mul _ _ _ _ rfl V IV M2 rfl rfl HM2.out) ?_
          go_frame
          refine y_yield 10 (some 79) (.int .i64 R2) rfl (by kernel_rfl) (by kernel_rfl) (by kernel_rfl) (fun _ _ _ h => h) rfl rfl ⟨hB, h1⟩ (fun w' h' => exec_rem _ _ _ _ rfl M2 p R2 rfl rfl (by omega) HR2.out) ?_
          go_frame
          refine y_oper 11 (by kernel_rfl) rfl rfl (fun K' hK' => ?_)
          have lz42 := hB.size
          have lz43 := h1.lt
          have lz44 := hv.lt
          have lz45 := hw.lt
          have naz50 := ho.away_new
          refine wp_new (some 80) rfl (exec_bsi1 _ rfl R2 rfl) (fun Wz46 nnz47 => ?_)
          have bz48 := nnz47.below (Below.refl _ _) (Nat.le_refl _)
          replace hB := below_after hB bz48
          replace h1 := h1.after bz48
          replace hv := hv.after bz48
          replace hw := hw.after bz48
          replace ho := ho.below bz48
          have hz49 : At Wz46 Wz36.heap.size (.cells #[.int .i64 R2] 2 (0, 0)) := nnz47.at_
          refine hK' _ _ ⟨hB, h1⟩ (fun _ => trivial) ?_
          clear hK' K' nnz47 bz48
          go_frame
          refine y_oper 12 (by kernel_rfl) rfl rfl (fun K' hK' => ?_)
          have lz55 := hB.size
          have lz56 := h1.lt
          have lz57 := hv.lt
          have lz58 := hw.lt
          have lz59 := hz49.lt
          refine wp_appI2 (some 81) rfl _ _ rfl v9 (facL (fun t => nthI xs ((((t : Nat) : Int) * b + (J : Nat)) * d + (K : Nat)) * IV % p) t) R2 rfl ho Wz36.heap.size rfl hz49 HFl.out (by have := hB.size; omega) (fun v8 Wz51 noz53 grz52 lyz54 => ?_)
          rw [HT.out] at noz53
          have nbv := lyz54 _ hv.lt nav
          have nbw := lyz54 _ hw.lt naw
          clear lyz54
          replace hB := below_grownI hB grz52 ho (by omega)
          replace h1 := h1.grown grz52 (ho.off h1 (by decide))
          replace hv := hv.grown grz52 nav
          replace hw := hw.grown grz52 naw
          replace ho := noz53
          refine hK' _ _ ⟨hB, h1⟩ (fun _ => trivial) ?_
          clear hK' K' grz52 hz49
          go_frame
          refine y_oper 13 (by kernel_rfl) rfl rfl (fun K' hK' => ?_)
          refine wp_exec (some 10) rfl (v8) (exec_assign _ rfl (v8) rfl) ?_
          refine hK' _ _ ⟨hB, h1⟩ (fun _ => trivial) ?_
          clear hK' K'
          go_frame
          refine y_done (by kernel_rfl) ?_ _
          go_upto_region 14 with (fail)
          refine wp_region_lit ?_
          refine ls_ex (some 67) (.int .i64 t) rfl rfl (exec_move _ rfl (.int .i64 t) rfl) ?_
          go_frame
          refine ls_ex (some 68) (.int .i64 (t + 1)) rfl rfl (exec_add _ _ _ _ rfl t 1 (t + 1) rfl rfl (IntWalk.i64_in _ (by omega))) ?_
          go_frame
          refine ls_ex (some 13) (.int .i64 (t + 1)) rfl rfl (exec_assign _ rfl (.int .i64 (t + 1)) rfl) ?_
          go_frame
          refine wpList_nil ?_
          go_wp2_with fail
          go_roundw
          case rel => exact ⟨t + 1, v8, by omega, rfl, by go_num, hB, h1, hv, hw, ho, nbv, nbw⟩
          case measure => simp [intOf] <;> omega
        · obtain ⟨wk, rfl⟩ : ∃ z : World, z = wr := ⟨_, rfl⟩
          rw [show t = a by omega, HUL.out] at ho
          obtain ⟨gU, cU, curU, rfl, hgU, hzu, hcu⟩ := ownI_open ho HLu.out (by omega)
          have nuv : Wz14.heap.size ≠ gU := fun e9 => nav (by rw [e9]; rfl)
          have nuw : Wz20.heap.size ≠ gU := fun e9 => naw (by rw [e9]; rfl)
          have HCu := Lib.hid hcu
          clear ho hcu nav naw
          go_upto_region 13 with (fail)
          refine wp_region_lit ?_
          refine ls_ex (some 63) (.int .i64 t) rfl rfl (exec_move _ rfl (.int .i64 t) rfl) ?_
          go_frame
          refine ls_ex (some 64) (.pointer (some ⟨w.heap.size, 1, none⟩)) rfl rfl (exec_fieldAddr 28 _ 1 rfl _ (by kernel_rfl)) ?_
          go_frame
          refine ls_ex (some 65) (.int .i64 a) rfl rfl (exec_load_one 2 _ rfl w.heap.size 1 rfl (.int .i64 a) _ Try.underlying2 rfl (h1.at_ 1)) ?_
          go_frame
          refine ls_ex (some 66) (.bool false) rfl rfl (exec_lss _ _ _ _ rfl t a rfl rfl false (decide_eq_false (by omega))) ?_
          go_frame
          refine wpList_nil ?_
          go_upto_region 16 with (fail)
          refine wp_region_lit ?_
          refine ls_ex (some 14) (.int .i64 0) rfl rfl (exec_assign _ rfl (.int .i64 0) rfl) ?_
          go_frame
          refine wpList_nil ?_
          go_wp2_with fail
          have lz60 := hB.size
          have lz61 := h1.lt
          have lz62 := hv.lt
          have lz63 := hw.lt
          have lz64 := hzu.lt
          go_loopw [11, 14] (fun s11 s14 wr => ∃ (t : Nat) (v9 : Value), t ≤ b ∧ v9 = s11 ∧ s14 = .int .i64 t ∧ Below w.heap.size w wr ∧ At wr w.heap.size (.cells #[.int .i64 p, .int .i64 a, .int .i64 b, .int .i64 d, .slice (some ⟨bB, oB, none⟩) N c] 28 (0, 0)) ∧ At wr gU (.cells curU 2 (0, 0)) ∧ At wr Wz20.heap.size (.cells #[] 2 (0, 0)) ∧ OwnI wr w.heap.size (v9) (facL (fun t => nthI xs ((((I : Nat) : Int) * b + (t : Nat)) * d + (K : Nat)) * IV % p) t) ∧ some gU ≠ v9.ownBlock ∧ some Wz20.heap.size ≠ v9.ownBlock) (fun _ s14 _ => b - (intOf s14).toNat)
          case atStart => exact ⟨0, _, by omega, rfl, rfl, hB, h1, hzu, hw, own_nilAt hv (by have := hB.size; omega), ne_own (by omega), ne_own (by omega)⟩
          case round =>
            clear hB h1 hv hw hzu
            obtain ⟨t, v9, hle, rfl, rfl, hB, h1, hu, hw, ho, nau, naw⟩ := hrel
            by_cases hlt : t < b
            · obtain ⟨V, hV⟩ : ∃ z9, nthI xs ((((I : Nat) : Int) * b + (t : Nat)) * d + (K : Nat)) = z9 := ⟨_, rfl⟩
              have hVb : 0 ≤ V ∧ V < p := by rw [← hV]; exact nth_in HNb.out (by omega) _
              obtain ⟨M2, hM2⟩ : ∃ z9, V * IV = z9 := ⟨_, rfl⟩
              have hM2b : 0 ≤ M2 ∧ M2 ≤ 25 := by rw [← hM2]; exact ⟨Int.mul_nonneg hVb.1 (by omega), (show V * IV ≤ 5 * 5 from Int.mul_le_mul (by omega) (by omega) (by omega) (by omega))⟩
              have HM2 : Hid (IntKind.i64.wrap (V * IV) = M2) := Lib.hid (by rw [hM2]; exact IntWalk.i64_in _ (by omega))
              obtain ⟨R2, hR2⟩ : ∃ z9, M2 % p = z9 := ⟨_, rfl⟩
              have HR2 : Hid (M2.tmod p = R2) := Lib.hid (by rw [Int.tmod_eq_emod_of_nonneg hM2b.1]; exact hR2)
              have HT : Hid (facL (fun t => nthI xs ((((I : Nat) : Int) * b + (t : Nat)) * d + (K : Nat)) * IV % p) t ++ [R2] = facL (fun t => nthI xs ((((I : Nat) : Int) * b + (t : Nat)) * d + (K : Nat)) * IV % p) (t + 1)) := Lib.hid (by rw [facL_step]; simp only [hV, hM2, hR2])
              have HFl : Hid ((facL (fun t => nthI xs ((((I : Nat) : Int) * b + (t : Nat)) * d + (K : Nat)) * IV % p) t).length ≤ 1000000) := Lib.hid (by rw [facL_len]; omega)
              have HV := Lib.hid hV
              clear hV hM2 hR2
              go_upto_region 17 with (fail)
              refine wp_region_lit ?_
              refine ls_ex (some 82) (.int .i64 t) rfl rfl (exec_move _ rfl (.int .i64 t) rfl) ?_
              go_frame
              refine ls_ex (some 83) (.pointer (some ⟨w.heap.size, 2, none⟩)) rfl rfl (exec_fieldAddr 28 _ 2 rfl _ (by kernel_rfl)) ?_
              go_frame
              refine ls_ex (some 84) (.int .i64 b) rfl rfl (exec_load_one 2 _ rfl w.heap.size 2 rfl (.int .i64 b) _ Try.underlying2 rfl (h1.at_ 2)) ?_
              go_frame
              refine ls_ex (some 85) (.bool true) rfl rfl (exec_lss _ _ _ _ rfl t b rfl rfl true (decide_eq_true (by omega))) ?_
              go_frame
              refine wpList_nil ?_
              go_upto_region 19 with (fail)
              refine wp_region_y (zs := []) (S := fun w' => Below w.heap.size w w' ∧ At w' w.heap.size (.cells #[.int .i64 p, .int .i64 a, .int .i64 b, .int .i64 d, .slice (some ⟨bB, oB, none⟩) N c] 28 (0, 0))) (S2 := fun w' => True) (by kernel_rfl) ?_
              change wpAnyY _ _ _ _ _ _ _ _ _ _ (World.drew _)
              generalize hwdz65 : World.drew _ = wdz65
              replace hB : Below w.heap.size w wdz65 := by rw [← hwdz65]; exact hB.drew
              replace h1 : At wdz65 w.heap.size (.cells #[.int .i64 p, .int .i64 a, .int .i64 b, .int .i64 d, .slice (some ⟨bB, oB, none⟩) N c] 28 (0, 0)) := by rw [← hwdz65]; exact h1
              replace hu : At wdz65 gU (.cells curU 2 (0, 0)) := by rw [← hwdz65]; exact hu
              replace hw : At wdz65 Wz20.heap.size (.cells #[] 2 (0, 0)) := by rw [← hwdz65]; exact hw
              replace ho : OwnI wdz65 w.heap.size (v9) (facL (fun t => nthI xs ((((I : Nat) : Int) * b + (t : Nat)) * d + (K : Nat)) * IV % p) t) := by rw [← hwdz65]; exact ho.drew
              clear hwdz65
              refine y_yield 0 (some 88) (v9) rfl (by kernel_rfl) (by kernel_rfl) (by kernel_rfl) (fun _ _ _ h => h) rfl rfl ⟨hB, h1⟩ (fun w' h' => exec_move _ rfl (v9) rfl) ?_
              go_frame
              refine y_yield 1 (some 89) (.agg #[.int .i64 p, .int .i64 a, .int .i64 b, .int .i64 d, .slice (some ⟨bB, oB, none⟩) N c]) rfl (by kernel_rfl) (by kernel_rfl) (by kernel_rfl) (fun _ _ _ h => h) rfl rfl ⟨hB, h1⟩ (fun w' h' => exec_load_all 28 _ rfl w.heap.size rfl _ _ _ h'.2 Try.underlying28 rfl 5 (by kernel_rfl) rfl) ?_
              go_frame
              refine y_yield 2 (some 90) (.int .i64 I) rfl (by kernel_rfl) (by kernel_rfl) (by kernel_rfl) (fun _ _ _ h => h) rfl rfl ⟨hB, h1⟩ (fun w' h' => exec_move _ rfl (.int .i64 I) rfl) ?_
              go_frame
              refine y_yield 3 (some 91) (.int .i64 t) rfl (by kernel_rfl) (by kernel_rfl) (by kernel_rfl) (fun _ _ _ h => h) rfl rfl ⟨hB, h1⟩ (fun w' h' => exec_move _ rfl (.int .i64 t) rfl) ?_
              go_frame
              refine y_yield 4 (some 92) (.int .i64 K) rfl (by kernel_rfl) (by kernel_rfl) (by kernel_rfl) (fun _ _ _ h => h) rfl rfl ⟨hB, h1⟩ (fun w' h' => exec_move _ rfl (.int .i64 K) rfl) ?_
              go_frame
              refine y_yield 6 (some 94) (.int .i64 IV) rfl (by kernel_rfl) (by kernel_rfl) (by kernel_rfl) (fun _ _ _ h => h) rfl rfl ⟨hB, h1⟩ (fun w' h' => exec_move _ rfl (.int .i64 IV) rfl) ?_
              go_frame
              refine y_yield 8 (some 96) (.pointer (some ⟨w.heap.size, 0, none⟩)) rfl (by kernel_rfl) (by kernel_rfl) (by kernel_rfl) (fun _ _ _ h => h) rfl rfl ⟨hB, h1⟩ (fun w' h' => exec_fieldAddr 28 _ 0 rfl _ (by kernel_rfl)) ?_
              go_frame
              refine y_yield 9 (some 97) (.int .i64 p) rfl (by kernel_rfl) (by kernel_rfl) (by kernel_rfl) (fun _ _ _ h => h) rfl rfl ⟨hB, h1⟩ (fun w' h' => exec_load_one 2 _ rfl w.heap.size 0 rfl (.int .i64 p) _ Try.underlying2 rfl (h'.2.at_ 0)) ?_
              go_frame
              refine y_oper 5 (by kernel_rfl) rfl rfl (fun K' hK' => ?_)
              have lz68 := hB.size
              have lz69 := h1.lt
              have lz70 := hu.lt
              have lz71 := hw.lt
              refine wp_call4 (some 93) rfl 28 _ _ _ _ _ rfl (fun args w => by kernel_rfl) _ _ _ _ rfl rfl rfl rfl _ (l05AtN_c p a b d (some ⟨bB, oB, none⟩) c N xs I t K _ (hX.keep hB) HXl.out HN3.out ha0.2 hb0.2 hd0.2 hI hlt hK) (fun e Wz66 h => ?_)
              obtain ⟨rfl, bz67⟩ := h
              replace hB := below_after hB bz67
              replace h1 := h1.after bz67
              replace hu := hu.after bz67
              replace hw := hw.after bz67
              replace ho := ho.below bz67
              rw [HV.out]
              clear bz67
              refine ⟨_, rfl, ?_⟩
              refine hK' _ _ ⟨hB, h1⟩ (fun _ => trivial) ?_
              clear hK' K'
              go_frame
              refine y_yield 7 (some 95) (.int .i64 M2) rfl (by kernel_rfl) (by kernel_rfl) (by kernel_rfl) (fun _ _ _ h => h) rfl rfl ⟨hB, h1⟩ (fun w' h' => exec_mul _ _ _ _ rfl V IV M2 rfl rfl HM2.out) ?_
              go_frame
              refine y_yield 10 (some 98) (.int .i64 R2) rfl (by kernel_rfl) (by kernel_rfl) (by kernel_rfl) (fun _ _ _ h => h) rfl rfl ⟨hB, h1⟩ (fun w' h' => exec_rem _ _ _ _ rfl M2 p R2 rfl rfl (by omega) HR2.out) ?_
              go_frame
              refine y_oper 11 (by kernel_rfl) rfl rfl (fun K' hK' => ?_)
              have lz72 := hB.size
              have lz73 := h1.lt
              have lz74 := hu.lt
              have lz75 := hw.lt
              have naz80 := ho.away_new
              refine wp_new (some 99) rfl (exec_bsi1 _ rfl R2 rfl) (fun Wz76 nnz77 => ?_)
              have bz78 := nnz77.below (Below.refl _ _) (Nat.le_refl _)
              replace hB := below_after hB bz78
              replace h1 := h1.after bz78
              replace hu := hu.after bz78
              replace hw := hw.after bz78
              replace ho := ho.below bz78
              have hz79 : At Wz76 Wz66.heap.size (.cells #[.int .i64 R2] 2 (0, 0)) := nnz77.at_
              refine hK' _ _ ⟨hB, h1⟩ (fun _ => trivial) ?_
              clear hK' K' nnz77 bz78
              go_frame
              refine y_oper 12 (by kernel_rfl) rfl rfl (fun K' hK' => ?_)
              have lz85 := hB.size
              have lz86 := h1.lt
              have lz87 := hu.lt
              have lz88 := hw.lt
              have lz89 := hz79.lt
              refine wp_appI2 (some 100) rfl _ _ rfl v9 (facL (fun t => nthI xs ((((I : Nat) : Int) * b + (t : Nat)) * d + (K : Nat)) * IV % p) t) R2 rfl ho Wz66.heap.size rfl hz79 HFl.out (by have := hB.size; omega) (fun v8 Wz81 noz83 grz82 lyz84 => ?_)
              rw [HT.out] at noz83
              have nbu := lyz84 _ hu.lt nau
              have nbw := lyz84 _ hw.lt naw
              clear lyz84
              replace hB := below_grownI hB grz82 ho (by omega)
              replace h1 := h1.grown grz82 (ho.off h1 (by decide))
              replace hu := hu.grown grz82 nau
              replace hw := hw.grown grz82 naw
              replace ho := noz83
              refine hK' _ _ ⟨hB, h1⟩ (fun _ => trivial) ?_
              clear hK' K' grz82 hz79
              go_frame
              refine y_oper 13 (by kernel_rfl) rfl rfl (fun K' hK' => ?_)
              refine wp_exec (some 11) rfl (v8) (exec_assign _ rfl (v8) rfl) ?_
              refine hK' _ _ ⟨hB, h1⟩ (fun _ => trivial) ?_
              clear hK' K'
              go_frame
              refine y_done (by kernel_rfl) ?_ _
              go_upto_region 18 with (fail)
              refine wp_region_lit ?_
              refine ls_ex (some 86) (.int .i64 t) rfl rfl (exec_move _ rfl (.int .i64 t) rfl) ?_
              go_frame
              refine ls_ex (some 87) (.int .i64 (t + 1)) rfl rfl (exec_add _ _ _ _ rfl t 1 (t + 1) rfl rfl (IntWalk.i64_in _ (by omega))) ?_
              go_frame
              refine ls_ex (some 14) (.int .i64 (t + 1)) rfl rfl (exec_assign _ rfl (.int .i64 (t + 1)) rfl) ?_
              go_frame
              refine wpList_nil ?_
              go_wp2_with fail
              go_roundw
              case rel => exact ⟨t + 1, v8, by omega, rfl, by go_num, hB, h1, hu, hw, ho, nbu, nbw⟩
              case measure => simp [intOf] <;> omega
            · obtain ⟨wk, rfl⟩ : ∃ z : World, z = wr := ⟨_, rfl⟩
              rw [show t = b by omega, HVL.out] at ho
              obtain ⟨gV, cV, curV, rfl, hgV, hzv, hcv⟩ := ownI_open ho HLv.out (by omega)
              have nvu : gU ≠ gV := fun e9 => nau (by rw [e9]; rfl)
              have nvw : Wz20.heap.size ≠ gV := fun e9 => naw (by rw [e9]; rfl)
              have HCv := Lib.hid hcv
              clear ho hcv nau naw
              go_upto_region 17 with (fail)
              refine wp_region_lit ?_
              refine ls_ex (some 82) (.int .i64 t) rfl rfl (exec_move _ rfl (.int .i64 t) rfl) ?_
              go_frame
              refine ls_ex (some 83) (.pointer (some ⟨w.heap.size, 2, none⟩)) rfl rfl (exec_fieldAddr 28 _ 2 rfl _ (by kernel_rfl)) ?_
              go_frame
              refine ls_ex (some 84) (.int .i64 b) rfl rfl (exec_load_one 2 _ rfl w.heap.size 2 rfl (.int .i64 b) _ Try.underlying2 rfl (h1.at_ 2)) ?_
              go_frame
              refine ls_ex (some 85) (.bool false) rfl rfl (exec_lss _ _ _ _ rfl t b rfl rfl false (decide_eq_false (by omega))) ?_
              go_frame
              refine wpList_nil ?_
              go_upto_region 20 with (fail)
              refine wp_region_lit ?_
              refine ls_ex (some 15) (.int .i64 0) rfl rfl (exec_assign _ rfl (.int .i64 0) rfl) ?_
              go_frame
              refine wpList_nil ?_
              go_wp2_with fail
              have lz90 := hB.size
              have lz91 := h1.lt
              have lz92 := hu.lt
              have lz93 := hw.lt
              have lz94 := hzv.lt
              go_loopw [12, 15] (fun s12 s15 wr => ∃ (t : Nat) (v9 : Value), t ≤ d ∧ v9 = s12 ∧ s15 = .int .i64 t ∧ Below w.heap.size w wr ∧ At wr w.heap.size (.cells #[.int .i64 p, .int .i64 a, .int .i64 b, .int .i64 d, .slice (some ⟨bB, oB, none⟩) N c] 28 (0, 0)) ∧ At wr gU (.cells curU 2 (0, 0)) ∧ At wr gV (.cells curV 2 (0, 0)) ∧ OwnI wr w.heap.size (v9) (facL (fun t => nthI xs ((((I : Nat) : Int) * b + (J : Nat)) * d + (t : Nat))) t) ∧ some gU ≠ v9.ownBlock ∧ some gV ≠ v9.ownBlock) (fun _ s15 _ => d - (intOf s15).toNat)
              case atStart => exact ⟨0, _, by omega, rfl, rfl, hB, h1, hu, hzv, own_nilAt hw (by have := hB.size; omega), ne_own (by omega), ne_own (by omega)⟩
              case round =>
                clear hB h1 hu hw hzv
                obtain ⟨t, v9, hle, rfl, rfl, hB, h1, hu, hv, ho, nau, nav⟩ := hrel
                by_cases hlt : t < d
                · obtain ⟨V, hV⟩ : ∃ z9, nthI xs ((((I : Nat) : Int) * b + (J : Nat)) * d + (t : Nat)) = z9 := ⟨_, rfl⟩
                  have hVb : 0 ≤ V ∧ V < p := by rw [← hV]; exact nth_in HNb.out (by omega) _
                  have HT : Hid (facL (fun t => nthI xs ((((I : Nat) : Int) * b + (J : Nat)) * d + (t : Nat))) t ++ [V] = facL (fun t => nthI xs ((((I : Nat) : Int) * b + (J : Nat)) * d + (t : Nat))) (t + 1)) := Lib.hid (by rw [facL_step]; simp only [hV])
                  have HFl : Hid ((facL (fun t => nthI xs ((((I : Nat) : Int) * b + (J : Nat)) * d + (t : Nat))) t).length ≤ 1000000) := Lib.hid (by rw [facL_len]; omega)
                  have HV := Lib.hid hV
                  clear hV
                  go_upto_region 21 with (fail)
                  refine wp_region_lit ?_
                  refine ls_ex (some 101) (.int .i64 t) rfl rfl (exec_move _ rfl (.int .i64 t) rfl) ?_
                  go_frame
                  refine ls_ex (some 102) (.pointer (some ⟨w.heap.size, 3, none⟩)) rfl rfl (exec_fieldAddr 28 _ 3 rfl _ (by kernel_rfl)) ?_
                  go_frame
                  refine ls_ex (some 103) (.int .i64 d) rfl rfl (exec_load_one 2 _ rfl w.heap.size 3 rfl (.int .i64 d) _ Try.underlying2 rfl (h1.at_ 3)) ?_
                  go_frame
                  refine ls_ex (some 104) (.bool true) rfl rfl (exec_lss _ _ _ _ rfl t d rfl rfl true (decide_eq_true (by omega))) ?_
                  go_frame
                  refine wpList_nil ?_
                  go_upto_region 23 with (fail)
                  refine wp_region_lit ?_
                  refine ls_ex (some 107) (v9) rfl rfl (exec_move _ rfl (v9) rfl) ?_
                  go_frame
                  refine ls_ex (some 108) (.agg #[.int .i64 p, .int .i64 a, .int .i64 b, .int .i64 d, .slice (some ⟨bB, oB, none⟩) N c]) rfl rfl (exec_load_all 28 _ rfl w.heap.size rfl _ _ _ h1 Try.underlying28 rfl 5 (by kernel_rfl) rfl) ?_
                  go_frame
                  refine ls_ex (some 109) (.int .i64 I) rfl rfl (exec_move _ rfl (.int .i64 I) rfl) ?_
                  go_frame
                  refine ls_ex (some 110) (.int .i64 J) rfl rfl (exec_move _ rfl (.int .i64 J) rfl) ?_
                  go_frame
                  refine ls_ex (some 111) (.int .i64 t) rfl rfl (exec_move _ rfl (.int .i64 t) rfl) ?_
                  go_frame
                  refine ls_op rfl (fun K' hK' => ?_)
                  have lz97 := hB.size
                  have lz98 := h1.lt
                  have lz99 := hu.lt
                  have lz100 := hv.lt
                  refine wp_call4 (some 112) rfl 28 _ _ _ _ _ rfl (fun args w => by kernel_rfl) _ _ _ _ rfl rfl rfl rfl _ (l05AtN_c p a b d (some ⟨bB, oB, none⟩) c N xs I J t _ (hX.keep hB) HXl.out HN3.out ha0.2 hb0.2 hd0.2 hI hJ hlt) (fun e Wz95 h => ?_)
                  obtain ⟨rfl, bz96⟩ := h
                  replace hB := below_after hB bz96
                  replace h1 := h1.after bz96
                  replace hu := hu.after bz96
                  replace hv := hv.after bz96
                  replace ho := ho.below bz96
                  rw [HV.out]
                  clear bz96
                  refine ⟨_, rfl, ?_⟩
                  refine hK' _ _ ?_
                  clear hK' K'
                  go_frame
                  refine ls_op rfl (fun K' hK' => ?_)
                  have lz101 := hB.size
                  have lz102 := h1.lt
                  have lz103 := hu.lt
                  have lz104 := hv.lt
                  have naz109 := ho.away_new
                  refine wp_new (some 113) rfl (exec_bsi1 _ rfl V rfl) (fun Wz105 nnz106 => ?_)
                  have bz107 := nnz106.below (Below.refl _ _) (Nat.le_refl _)
                  replace hB := below_after hB bz107
                  replace h1 := h1.after bz107
                  replace hu := hu.after bz107
                  replace hv := hv.after bz107
                  replace ho := ho.below bz107
                  have hz108 : At Wz105 Wz95.heap.size (.cells #[.int .i64 V] 2 (0, 0)) := nnz106.at_
                  refine hK' _ _ ?_
                  clear hK' K' nnz106 bz107
                  go_frame
                  refine ls_op rfl (fun K' hK' => ?_)
                  have lz114 := hB.size
                  have lz115 := h1.lt
                  have lz116 := hu.lt
                  have lz117 := hv.lt
                  have lz118 := hz108.lt
                  refine wp_appI2 (some 114) rfl _ _ rfl v9 (facL (fun t => nthI xs ((((I : Nat) : Int) * b + (J : Nat)) * d + (t : Nat))) t) V rfl ho Wz95.heap.size rfl hz108 HFl.out (by have := hB.size; omega) (fun v8 Wz110 noz112 grz111 lyz113 => ?_)
                  rw [HT.out] at noz112
                  have nbu := lyz113 _ hu.lt nau
                  have nbv := lyz113 _ hv.lt nav
                  clear lyz113
                  replace hB := below_grownI hB grz111 ho (by omega)
                  replace h1 := h1.grown grz111 (ho.off h1 (by decide))
                  replace hu := hu.grown grz111 nau
                  replace hv := hv.grown grz111 nav
                  replace ho := noz112
                  refine hK' _ _ ?_
                  clear hK' K' grz111 hz108
                  go_frame
                  refine ls_ex (some 12) (v8) rfl rfl (exec_assign _ rfl (v8) rfl) ?_
                  go_frame
                  refine wpList_nil ?_
                  go_upto_region 22 with (fail)
                  refine wp_region_lit ?_
                  refine ls_ex (some 105) (.int .i64 t) rfl rfl (exec_move _ rfl (.int .i64 t) rfl) ?_
                  go_frame
                  refine ls_ex (some 106) (.int .i64 (t + 1)) rfl rfl (exec_add _ _ _ _ rfl t 1 (t + 1) rfl rfl (IntWalk.i64_in _ (by omega))) ?_
                  go_frame
                  refine ls_ex (some 15) (.int .i64 (t + 1)) rfl rfl (exec_assign _ rfl (.int .i64 (t + 1)) rfl) ?_
                  go_frame
                  refine wpList_nil ?_
                  go_wp2_with fail
                  go_roundw
                  case rel => exact ⟨t + 1, v8, by omega, rfl, by go_num, hB, h1, hu, hv, ho, nbu, nbv⟩
                  case measure => simp [intOf] <;> omega
                · obtain ⟨wk, rfl⟩ : ∃ z : World, z = wr := ⟨_, rfl⟩
                  rw [show t = d by omega, HWL.out] at ho
                  obtain ⟨gW, cW, curW, rfl, hgW, hzw, hcw⟩ := ownI_open ho HLw.out (by omega)
                  have nwu : gU ≠ gW := fun e9 => nau (by rw [e9]; rfl)
                  have nwv : gV ≠ gW := fun e9 => nav (by rw [e9]; rfl)
                  have HCw := Lib.hid hcw
                  clear ho hcw nau nav
                  go_upto_region 21 with (fail)
                  refine wp_region_lit ?_
                  refine ls_ex (some 101) (.int .i64 t) rfl rfl (exec_move _ rfl (.int .i64 t) rfl) ?_
                  go_frame
                  refine ls_ex (some 102) (.pointer (some ⟨w.heap.size, 3, none⟩)) rfl rfl (exec_fieldAddr 28 _ 3 rfl _ (by kernel_rfl)) ?_
                  go_frame
                  refine ls_ex (some 103) (.int .i64 d) rfl rfl (exec_load_one 2 _ rfl w.heap.size 3 rfl (.int .i64 d) _ Try.underlying2 rfl (h1.at_ 3)) ?_
                  go_frame
                  refine ls_ex (some 104) (.bool false) rfl rfl (exec_lss _ _ _ _ rfl t d rfl rfl false (decide_eq_false (by omega))) ?_
                  go_frame
                  refine wpList_nil ?_
                  go_upto_region 24 with (fail)
                  refine wp_region_lit ?_
                  refine ls_ex (some 16) (.int .i64 0) rfl rfl (exec_assign _ rfl (.int .i64 0) rfl) ?_
                  go_frame
                  refine wpList_nil ?_
                  go_wp2_with fail
                  go_loopw [16] (fun s16 wr => ∃ t : Nat, t ≤ N ∧ s16 = .int .i64 t ∧ Hid (∀ y : Nat, y < t → xs[y]? = some (sfG p b d UL VL WL y)) ∧ Below w.heap.size w wr ∧ At wr w.heap.size (.cells #[.int .i64 p, .int .i64 a, .int .i64 b, .int .i64 d, .slice (some ⟨bB, oB, none⟩) N c] 28 (0, 0)) ∧ At wr gU (.cells curU 2 (0, 0)) ∧ At wr gV (.cells curV 2 (0, 0)) ∧ At wr gW (.cells curW 2 (0, 0))) (fun s16 _ => N - (intOf s16).toNat)
                  case atStart => exact ⟨0, by omega, rfl, Lib.hid (fun y hy => by omega), hB, h1, hu, hv, hzw⟩
                  case round =>
                    clear hB h1 hu hv hzw
                    obtain ⟨t, hle, rfl, Hall, hB, h1, hzu, hzv, hzw⟩ := hrel
                    by_cases hlt : t < N
                    · obtain ⟨I5, hI5⟩ : ∃ z9 : Nat, t / M = z9 := ⟨_, rfl⟩
                      obtain ⟨K5, hK5⟩ : ∃ z9 : Nat, t / d = z9 := ⟨_, rfl⟩
                      obtain ⟨J5, hJ5⟩ : ∃ z9 : Nat, K5 % b = z9 := ⟨_, rfl⟩
                      obtain ⟨L5, hL5⟩ : ∃ z9 : Nat, t % d = z9 := ⟨_, rfl⟩
                      have h5 := pl_idx (t := t) (a := a) (b := b) (d := d) (by rw [HN3.out]; exact hlt) (by omega) (by omega)
                      rw [HMe.out, hI5, hK5, hJ5, hL5] at h5
                      obtain ⟨hI5a, hJ5b, hL5d⟩ := h5
                      have HI5 : Hid (IntKind.i64.wrap ((t : Int).tdiv (M : Int)) = (I5 : Int)) := Lib.hid (tqM_wrap hI5 (by omega))
                      have HK5 : Hid (IntKind.i64.wrap ((t : Int).tdiv (d : Int)) = (K5 : Int)) := Lib.hid (tqM_wrap hK5 (by omega))
                      have HJ5 : Hid ((K5 : Int).tmod (b : Int) = (J5 : Int)) := Lib.hid (tmM_cast hJ5)
                      have HL5 : Hid ((t : Int).tmod (d : Int) = (L5 : Int)) := Lib.hid (tmM_cast hL5)
                      obtain ⟨U5, hU5⟩ : ∃ z9, UL[I5]? = some z9 := ⟨_, List.getElem?_eq_getElem (by rw [HLu.out]; exact hI5a)⟩
                      obtain ⟨V5, hV5⟩ : ∃ z9, VL[J5]? = some z9 := ⟨_, List.getElem?_eq_getElem (by rw [HLv.out]; exact hJ5b)⟩
                      obtain ⟨W5, hW5⟩ : ∃ z9, WL[L5]? = some z9 := ⟨_, List.getElem?_eq_getElem (by rw [HLw.out]; exact hL5d)⟩
                      obtain ⟨X5, hX5⟩ : ∃ z9, xs[t]? = some z9 := ⟨_, List.getElem?_eq_getElem (by rw [HXl.out]; exact hlt)⟩
                      have HU5 := Lib.hid hU5
                      have HV5 := Lib.hid hV5
                      have HW5 := Lib.hid hW5
                      have HX5 := Lib.hid hX5
                      have q1 := Hnn.out.1 I5
                      have q2 := Hnn.out.2.1 J5
                      have q3 := Hnn.out.2.2 L5
                      rw [hU5, Option.getD_some] at q1
                      rw [hV5, Option.getD_some] at q2
                      rw [hW5, Option.getD_some] at q3
                      obtain ⟨A5, hA5⟩ : ∃ z9, U5 * V5 = z9 := ⟨_, rfl⟩
                      have hA5b : 0 ≤ A5 ∧ A5 ≤ 25 := by rw [← hA5]; exact ⟨Int.mul_nonneg q1.1 q2.1, (show U5 * V5 ≤ 5 * 5 from Int.mul_le_mul (by omega) (by omega) q2.1 (by omega))⟩
                      obtain ⟨B5, hB5⟩ : ∃ z9, A5 * W5 = z9 := ⟨_, rfl⟩
                      have hB5b : 0 ≤ B5 ∧ B5 ≤ 125 := by rw [← hB5]; exact ⟨Int.mul_nonneg hA5b.1 q3.1, (show A5 * W5 ≤ 25 * 5 from Int.mul_le_mul (by omega) (by omega) q3.1 (by omega))⟩
                      obtain ⟨C5, hC5⟩ : ∃ z9, B5 % p = z9 := ⟨_, rfl⟩
                      have HA5 : Hid (IntKind.i64.wrap (U5 * V5) = A5) := Lib.hid (by rw [hA5]; exact IntWalk.i64_in _ (by omega))
                      have HB5 : Hid (IntKind.i64.wrap (A5 * W5) = B5) := Lib.hid (by rw [hB5]; exact IntWalk.i64_in _ (by omega))
                      have HC5 : Hid (B5.tmod p = C5) := Lib.hid (by rw [Int.tmod_eq_emod_of_nonneg hB5b.1]; exact hC5)
                      have HG5 : Hid (sfG p b d UL VL WL t = C5) := Lib.hid (by unfold sfG sfM; rw [HMe.out, hI5, hK5, hJ5, hL5, hU5, hV5, hW5, Option.getD_some, Option.getD_some, Option.getD_some, hA5, hB5, hC5])
                      clear hI5 hK5 hJ5 hL5 hU5 hV5 hW5 hA5 hB5 hC5
                      by_cases he5 : C5 = X5
                      · have Hn5 : Hid ((C5 != X5) = false) := Lib.hid (by simp [he5])
                        have Hall2 : Hid (∀ y : Nat, y < t + 1 → xs[y]? = some (sfG p b d UL VL WL y)) := Lib.hid (fun y hy => by
                          by_cases e9 : y = t
                          · rw [e9, HX5.out, HG5.out, he5]
                          · exact Hall.out y (by omega))
                        clear he5 hX5
                        go_upto_region 25 with (fail)
                        refine wp_region_lit ?_
                        refine ls_ex (some 115) (.int .i64 t) rfl rfl (exec_move _ rfl (.int .i64 t) rfl) ?_
                        go_frame
                        refine ls_ex (some 116) (.pointer (some ⟨w.heap.size, 4, none⟩)) rfl rfl (exec_fieldAddr 28 _ 4 rfl _ (by kernel_rfl)) ?_
                        go_frame
                        refine ls_ex (some 117) (.slice (some ⟨bB, oB, none⟩) N c) rfl rfl (exec_load_one 22 _ rfl w.heap.size 4 rfl (.slice (some ⟨bB, oB, none⟩) N c) _ Try.underlying22 rfl (h1.at_ 4)) ?_
                        go_frame
                        refine ls_ex (some 118) (.int .i64 N) rfl rfl (exec_len _ 22 2 rfl ((some ⟨bB, oB, none⟩)) N c rfl Try.underlying22) ?_
                        go_frame
                        refine ls_ex (some 119) (.bool true) rfl rfl (exec_lss _ _ _ _ rfl t N rfl rfl true (decide_eq_true (by omega))) ?_
                        go_frame
                        refine wpList_nil ?_
                        go_upto_region 27 with (fail)
                        refine wp_region_y (zs := []) (S := fun w' => Below w.heap.size w w' ∧ At w' w.heap.size (.cells #[.int .i64 p, .int .i64 a, .int .i64 b, .int .i64 d, .slice (some ⟨bB, oB, none⟩) N c] 28 (0, 0)) ∧ At w' gU (.cells curU 2 (0, 0)) ∧ At w' gV (.cells curV 2 (0, 0)) ∧ At w' gW (.cells curW 2 (0, 0))) (S2 := fun w' => True) (by kernel_rfl) ?_
                        change wpAnyY _ _ _ _ _ _ _ _ _ _ (World.drew _)
                        generalize hwdz119 : World.drew _ = wdz119
                        replace hB : Below w.heap.size w wdz119 := by rw [← hwdz119]; exact hB.drew
                        replace h1 : At wdz119 w.heap.size (.cells #[.int .i64 p, .int .i64 a, .int .i64 b, .int .i64 d, .slice (some ⟨bB, oB, none⟩) N c] 28 (0, 0)) := by rw [← hwdz119]; exact h1
                        replace hzu : At wdz119 gU (.cells curU 2 (0, 0)) := by rw [← hwdz119]; exact hzu
                        replace hzv : At wdz119 gV (.cells curV 2 (0, 0)) := by rw [← hwdz119]; exact hzv
                        replace hzw : At wdz119 gW (.cells curW 2 (0, 0)) := by rw [← hwdz119]; exact hzw
                        clear hwdz119
                        refine y_yield 0 (some 122) (.slice (some ⟨gU, 0, none⟩) a cU) rfl (by kernel_rfl) (by kernel_rfl) (by kernel_rfl) (fun _ _ _ h => h) rfl rfl ⟨hB, h1, hzu, hzv, hzw⟩ (fun w' h' => exec_move _ rfl (.slice (some ⟨gU, 0, none⟩) a cU) rfl) ?_
                        go_frame
                        refine y_yield 1 (some 123) (.int .i64 t) rfl (by kernel_rfl) (by kernel_rfl) (by kernel_rfl) (fun _ _ _ h => h) rfl rfl ⟨hB, h1, hzu, hzv, hzw⟩ (fun w' h' => exec_move _ rfl (.int .i64 t) rfl) ?_
                        go_frame
                        refine y_yield 2 (some 124) (.pointer (some ⟨w.heap.size, 2, none⟩)) rfl (by kernel_rfl) (by kernel_rfl) (by kernel_rfl) (fun _ _ _ h => h) rfl rfl ⟨hB, h1, hzu, hzv, hzw⟩ (fun w' h' => exec_fieldAddr 28 _ 2 rfl _ (by kernel_rfl)) ?_
                        go_frame
                        refine y_yield 3 (some 125) (.int .i64 b) rfl (by kernel_rfl) (by kernel_rfl) (by kernel_rfl) (fun _ _ _ h => h) rfl rfl ⟨hB, h1, hzu, hzv, hzw⟩ (fun w' h' => exec_load_one 2 _ rfl w.heap.size 2 rfl (.int .i64 b) _ Try.underlying2 rfl (h'.2.1.at_ 2)) ?_
                        go_frame
                        refine y_yield 4 (some 126) (.pointer (some ⟨w.heap.size, 3, none⟩)) rfl (by kernel_rfl) (by kernel_rfl) (by kernel_rfl) (fun _ _ _ h => h) rfl rfl ⟨hB, h1, hzu, hzv, hzw⟩ (fun w' h' => exec_fieldAddr 28 _ 3 rfl _ (by kernel_rfl)) ?_
                        go_frame
                        refine y_yield 5 (some 127) (.int .i64 d) rfl (by kernel_rfl) (by kernel_rfl) (by kernel_rfl) (fun _ _ _ h => h) rfl rfl ⟨hB, h1, hzu, hzv, hzw⟩ (fun w' h' => exec_load_one 2 _ rfl w.heap.size 3 rfl (.int .i64 d) _ Try.underlying2 rfl (h'.2.1.at_ 3)) ?_
                        go_frame
                        refine y_yield 6 (some 128) (.int .i64 M) rfl (by kernel_rfl) (by kernel_rfl) (by kernel_rfl) (fun _ _ _ h => h) rfl rfl ⟨hB, h1, hzu, hzv, hzw⟩ (fun w' h' => exec_mul _ _ _ _ rfl b d M rfl rfl HM.out) ?_
                        go_frame
                        refine y_yield 7 (some 129) (.int .i64 I5) rfl (by kernel_rfl) (by kernel_rfl) (by kernel_rfl) (fun _ _ _ h => h) rfl rfl ⟨hB, h1, hzu, hzv, hzw⟩ (fun w' h' => exec_quo _ _ _ _ rfl t M I5 rfl rfl (by omega) HI5.out) ?_
                        go_frame
                        refine y_yield 8 (some 130) (.pointer (some ⟨gU, I5 * 1, none⟩)) rfl (by kernel_rfl) (by kernel_rfl) (by kernel_rfl) (fun _ _ _ h => h) rfl rfl ⟨hB, h1, hzu, hzv, hzw⟩ (fun w' h' => exec_ix0 _ 2 _ _ rfl gU a cU I5 1 rfl rfl Try.underlying22 (by kernel_rfl) (by omega)) ?_
                        go_frame
                        refine y_yield 9 (some 131) (.int .i64 U5) rfl (by kernel_rfl) (by kernel_rfl) (by kernel_rfl) (fun _ _ _ h => h) rfl rfl ⟨hB, h1, hzu, hzv, hzw⟩ (fun w' h' => exec_load_one 2 _ rfl gU (I5 * 1) rfl (.int .i64 U5) _ Try.underlying2 rfl (at_abs h'.2.2.1 (HCu.out _ _ HU5.out))) ?_
                        go_frame
                        refine y_yield 10 (some 132) (.slice (some ⟨gV, 0, none⟩) b cV) rfl (by kernel_rfl) (by kernel_rfl) (by kernel_rfl) (fun _ _ _ h => h) rfl rfl ⟨hB, h1, hzu, hzv, hzw⟩ (fun w' h' => exec_move _ rfl (.slice (some ⟨gV, 0, none⟩) b cV) rfl) ?_
                        go_frame
                        refine y_yield 11 (some 133) (.int .i64 t) rfl (by kernel_rfl) (by kernel_rfl) (by kernel_rfl) (fun _ _ _ h => h) rfl rfl ⟨hB, h1, hzu, hzv, hzw⟩ (fun w' h' => exec_move _ rfl (.int .i64 t) rfl) ?_
                        go_frame
                        refine y_yield 12 (some 134) (.pointer (some ⟨w.heap.size, 3, none⟩)) rfl (by kernel_rfl) (by kernel_rfl) (by kernel_rfl) (fun _ _ _ h => h) rfl rfl ⟨hB, h1, hzu, hzv, hzw⟩ (fun w' h' => exec_fieldAddr 28 _ 3 rfl _ (by kernel_rfl)) ?_
                        go_frame
                        refine y_yield 13 (some 135) (.int .i64 d) rfl (by kernel_rfl) (by kernel_rfl) (by kernel_rfl) (fun _ _ _ h => h) rfl rfl ⟨hB, h1, hzu, hzv, hzw⟩ (fun w' h' => exec_load_one 2 _ rfl w.heap.size 3 rfl (.int .i64 d) _ Try.underlying2 rfl (h'.2.1.at_ 3)) ?_
                        go_frame
                        refine y_yield 14 (some 136) (.int .i64 K5) rfl (by kernel_rfl) (by kernel_rfl) (by kernel_rfl) (fun _ _ _ h => h) rfl rfl ⟨hB, h1, hzu, hzv, hzw⟩ (fun w' h' => exec_quo _ _ _ _ rfl t d K5 rfl rfl (by omega) HK5.out) ?_
                        go_frame
                        refine y_yield 15 (some 137) (.pointer (some ⟨w.heap.size, 2, none⟩)) rfl (by kernel_rfl) (by kernel_rfl) (by kernel_rfl) (fun _ _ _ h => h) rfl rfl ⟨hB, h1, hzu, hzv, hzw⟩ (fun w' h' => exec_fieldAddr 28 _ 2 rfl _ (by kernel_rfl)) ?_
                        go_frame
                        refine y_yield 16 (some 138) (.int .i64 b) rfl (by kernel_rfl) (by kernel_rfl) (by kernel_rfl) (fun _ _ _ h => h) rfl rfl ⟨hB, h1, hzu, hzv, hzw⟩ (fun w' h' => exec_load_one 2 _ rfl w.heap.size 2 rfl (.int .i64 b) _ Try.underlying2 rfl (h'.2.1.at_ 2)) ?_
                        go_frame
                        refine y_yield 17 (some 139) (.int .i64 J5) rfl (by kernel_rfl) (by kernel_rfl) (by kernel_rfl) (fun _ _ _ h => h) rfl rfl ⟨hB, h1, hzu, hzv, hzw⟩ (fun w' h' => exec_rem _ _ _ _ rfl K5 b J5 rfl rfl (by omega) HJ5.out) ?_
                        go_frame
                        refine y_yield 18 (some 140) (.pointer (some ⟨gV, J5 * 1, none⟩)) rfl (by kernel_rfl) (by kernel_rfl) (by kernel_rfl) (fun _ _ _ h => h) rfl rfl ⟨hB, h1, hzu, hzv, hzw⟩ (fun w' h' => exec_ix0 _ 2 _ _ rfl gV b cV J5 1 rfl rfl Try.underlying22 (by kernel_rfl) (by omega)) ?_
                        go_frame
                        refine y_yield 19 (some 141) (.int .i64 V5) rfl (by kernel_rfl) (by kernel_rfl) (by kernel_rfl) (fun _ _ _ h => h) rfl rfl ⟨hB, h1, hzu, hzv, hzw⟩ (fun w' h' => exec_load_one 2 _ rfl gV (J5 * 1) rfl (.int .i64 V5) _ Try.underlying2 rfl (at_abs h'.2.2.2.1 (HCv.out _ _ HV5.out))) ?_
                        go_frame
                        refine y_yield 20 (some 142) (.int .i64 A5) rfl (by kernel_rfl) (by kernel_rfl) (by kernel_rfl) (fun _ _ _ h => h) rfl rfl ⟨hB, h1, hzu, hzv, hzw⟩ (fun w' h' => exec_mul _ _ _ _ rfl U5 V5 A5 rfl rfl HA5.out) ?_
                        go_frame
                        refine y_yield 21 (some 143) (.slice (some ⟨gW, 0, none⟩) d cW) rfl (by kernel_rfl) (by kernel_rfl) (by kernel_rfl) (fun _ _ _ h => h) rfl rfl ⟨hB, h1, hzu, hzv, hzw⟩ (fun w' h' => exec_move _ rfl (.slice (some ⟨gW, 0, none⟩) d cW) rfl) ?_
                        go_frame
                        refine y_yield 22 (some 144) (.int .i64 t) rfl (by kernel_rfl) (by kernel_rfl) (by kernel_rfl) (fun _ _ _ h => h) rfl rfl ⟨hB, h1, hzu, hzv, hzw⟩ (fun w' h' => exec_move _ rfl (.int .i64 t) rfl) ?_
                        go_frame
                        refine y_yield 23 (some 145) (.pointer (some ⟨w.heap.size, 3, none⟩)) rfl (by kernel_rfl) (by kernel_rfl) (by kernel_rfl) (fun _ _ _ h => h) rfl rfl ⟨hB, h1, hzu, hzv, hzw⟩ (fun w' h' => exec_fieldAddr 28 _ 3 rfl _ (by kernel_rfl)) ?_
                        go_frame
                        refine y_yield 24 (some 146) (.int .i64 d) rfl (by kernel_rfl) (by kernel_rfl) (by kernel_rfl) (fun _ _ _ h => h) rfl rfl ⟨hB, h1, hzu, hzv, hzw⟩ (fun w' h' => exec_load_one 2 _ rfl w.heap.size 3 rfl (.int .i64 d) _ Try.underlying2 rfl (h'.2.1.at_ 3)) ?_
                        go_frame
                        refine y_yield 25 (some 147) (.int .i64 L5) rfl (by kernel_rfl) (by kernel_rfl) (by kernel_rfl) (fun _ _ _ h => h) rfl rfl ⟨hB, h1, hzu, hzv, hzw⟩ (fun w' h' => exec_rem _ _ _ _ rfl t d L5 rfl rfl (by omega) HL5.out) ?_
                        go_frame
                        refine y_yield 26 (some 148) (.pointer (some ⟨gW, L5 * 1, none⟩)) rfl (by kernel_rfl) (by kernel_rfl) (by kernel_rfl) (fun _ _ _ h => h) rfl rfl ⟨hB, h1, hzu, hzv, hzw⟩ (fun w' h' => exec_ix0 _ 2 _ _ rfl gW d cW L5 1 rfl rfl Try.underlying22 (by kernel_rfl) (by omega)) ?_
                        go_frame
                        refine y_yield 27 (some 149) (.int .i64 W5) rfl (by kernel_rfl) (by kernel_rfl) (by kernel_rfl) (fun _ _ _ h => h) rfl rfl ⟨hB, h1, hzu, hzv, hzw⟩ (fun w' h' => exec_load_one 2 _ rfl gW (L5 * 1) rfl (.int .i64 W5) _ Try.underlying2 rfl (at_abs h'.2.2.2.2 (HCw.out _ _ HW5.out))) ?_
                        go_frame
                        refine y_yield 28 (some 150) (.int .i64 B5) rfl (by kernel_rfl) (by kernel_rfl) (by kernel_rfl) (fun _ _ _ h => h) rfl rfl ⟨hB, h1, hzu, hzv, hzw⟩ (fun w' h' => exec_mul _ _ _ _ rfl A5 W5 B5 rfl rfl HB5.out) ?_
                        go_frame
                        refine y_yield 29 (some 151) (.pointer (some ⟨w.heap.size, 0, none⟩)) rfl (by kernel_rfl) (by kernel_rfl) (by kernel_rfl) (fun _ _ _ h => h) rfl rfl ⟨hB, h1, hzu, hzv, hzw⟩ (fun w' h' => exec_fieldAddr 28 _ 0 rfl _ (by kernel_rfl)) ?_
                        go_frame
                        refine y_yield 30 (some 152) (.int .i64 p) rfl (by kernel_rfl) (by kernel_rfl) (by kernel_rfl) (fun _ _ _ h => h) rfl rfl ⟨hB, h1, hzu, hzv, hzw⟩ (fun w' h' => exec_load_one 2 _ rfl w.heap.size 0 rfl (.int .i64 p) _ Try.underlying2 rfl (h'.2.1.at_ 0)) ?_
                        go_frame
                        refine y_yield 31 (some 153) (.int .i64 C5) rfl (by kernel_rfl) (by kernel_rfl) (by kernel_rfl) (fun _ _ _ h => h) rfl rfl ⟨hB, h1, hzu, hzv, hzw⟩ (fun w' h' => exec_rem _ _ _ _ rfl B5 p C5 rfl rfl (by omega) HC5.out) ?_
                        go_frame
                        refine y_yield 32 (some 154) (.pointer (some ⟨w.heap.size, 4, none⟩)) rfl (by kernel_rfl) (by kernel_rfl) (by kernel_rfl) (fun _ _ _ h => h) rfl rfl ⟨hB, h1, hzu, hzv, hzw⟩ (fun w' h' => exec_fieldAddr 28 _ 4 rfl _ (by kernel_rfl)) ?_
                        go_frame
                        refine y_yield 33 (some 155) (.slice (some ⟨bB, oB, none⟩) N c) rfl (by kernel_rfl) (by kernel_rfl) (by kernel_rfl) (fun _ _ _ h => h) rfl rfl ⟨hB, h1, hzu, hzv, hzw⟩ (fun w' h' => exec_load_one 22 _ rfl w.heap.size 4 rfl (.slice (some ⟨bB, oB, none⟩) N c) _ Try.underlying22 rfl (h'.2.1.at_ 4)) ?_
                        go_frame
                        refine y_yield 34 (some 156) (.int .i64 t) rfl (by kernel_rfl) (by kernel_rfl) (by kernel_rfl) (fun _ _ _ h => h) rfl rfl ⟨hB, h1, hzu, hzv, hzw⟩ (fun w' h' => exec_move _ rfl (.int .i64 t) rfl) ?_
                        go_frame
                        refine y_yield 35 (some 157) (.pointer (some ⟨bB, oB + t * 1, none⟩)) rfl (by kernel_rfl) (by kernel_rfl) (by kernel_rfl) (fun _ _ _ h => h) rfl rfl ⟨hB, h1, hzu, hzv, hzw⟩ (fun w' h' => exec_index_slice _ 2 _ _ rfl bB oB N c t 1 rfl rfl Try.underlying22 (by kernel_rfl) hlt) ?_
                        go_frame
                        refine y_yield 36 (some 158) (.int .i64 X5) rfl (by kernel_rfl) (by kernel_rfl) (by kernel_rfl) (fun _ _ _ h => h) rfl rfl ⟨hB, h1, hzu, hzv, hzw⟩ (fun w' h' => exec_load_one 2 _ rfl bB (oB + t * 1) rfl (.int .i64 X5) _ Try.underlying2 rfl (RdI.c1S (hX.keep h'.1) HX5.out)) ?_
                        go_frame
                        refine y_yield 37 (some 159) (.bool false) rfl (by kernel_rfl) (by kernel_rfl) (by kernel_rfl) (fun _ _ _ h => h) rfl rfl ⟨hB, h1, hzu, hzv, hzw⟩ (fun w' h' => exec_neq _ _ _ _ rfl C5 X5 rfl rfl false Hn5.out) ?_
                        go_frame
                        refine y_done (by kernel_rfl) ?_ _
                        go_upto_region 26 with (fail)
                        refine wp_region_lit ?_
                        refine ls_ex (some 120) (.int .i64 t) rfl rfl (exec_move _ rfl (.int .i64 t) rfl) ?_
                        go_frame
                        refine ls_ex (some 121) (.int .i64 (t + 1)) rfl rfl (exec_add _ _ _ _ rfl t 1 (t + 1) rfl rfl (IntWalk.i64_in _ (by omega))) ?_
                        go_frame
                        refine ls_ex (some 16) (.int .i64 (t + 1)) rfl rfl (exec_assign _ rfl (.int .i64 (t + 1)) rfl) ?_
                        go_frame
                        refine wpList_nil ?_
                        go_wp2_with fail
                        go_roundw
                        case rel => exact ⟨t + 1, by omega, by go_num, Hall2, hB, h1, hzu, hzv, hzw⟩
                        case measure => simp [intOf] <;> omega
                      · have Hn5 : Hid ((C5 != X5) = true) := Lib.hid (by simp [he5])
                        have HF : Hid (sfB p a b d xs t0 = false) := Lib.hid (by rw [HGB.out]; exact sfG_no HN3.out hlt HX5.out (by rw [HG5.out]; exact he5))
                        clear he5 hX5
                        go_upto_region 25 with (fail)
                        refine wp_region_lit ?_
                        refine ls_ex (some 115) (.int .i64 t) rfl rfl (exec_move _ rfl (.int .i64 t) rfl) ?_
                        go_frame
                        refine ls_ex (some 116) (.pointer (some ⟨w.heap.size, 4, none⟩)) rfl rfl (exec_fieldAddr 28 _ 4 rfl _ (by kernel_rfl)) ?_
                        go_frame
                        refine ls_ex (some 117) (.slice (some ⟨bB, oB, none⟩) N c) rfl rfl (exec_load_one 22 _ rfl w.heap.size 4 rfl (.slice (some ⟨bB, oB, none⟩) N c) _ Try.underlying22 rfl (h1.at_ 4)) ?_
                        go_frame
                        refine ls_ex (some 118) (.int .i64 N) rfl rfl (exec_len _ 22 2 rfl ((some ⟨bB, oB, none⟩)) N c rfl Try.underlying22) ?_
                        go_frame
                        refine ls_ex (some 119) (.bool true) rfl rfl (exec_lss _ _ _ _ rfl t N rfl rfl true (decide_eq_true (by omega))) ?_
                        go_frame
                        refine wpList_nil ?_
                        go_upto_region 27 with (fail)
                        refine wp_region_y (zs := []) (S := fun w' => Below w.heap.size w w' ∧ At w' w.heap.size (.cells #[.int .i64 p, .int .i64 a, .int .i64 b, .int .i64 d, .slice (some ⟨bB, oB, none⟩) N c] 28 (0, 0)) ∧ At w' gU (.cells curU 2 (0, 0)) ∧ At w' gV (.cells curV 2 (0, 0)) ∧ At w' gW (.cells curW 2 (0, 0))) (S2 := fun w' => True) (by kernel_rfl) ?_
                        change wpAnyY _ _ _ _ _ _ _ _ _ _ (World.drew _)
                        generalize hwdz120 : World.drew _ = wdz120
                        replace hB : Below w.heap.size w wdz120 := by rw [← hwdz120]; exact hB.drew
                        replace h1 : At wdz120 w.heap.size (.cells #[.int .i64 p, .int .i64 a, .int .i64 b, .int .i64 d, .slice (some ⟨bB, oB, none⟩) N c] 28 (0, 0)) := by rw [← hwdz120]; exact h1
                        replace hzu : At wdz120 gU (.cells curU 2 (0, 0)) := by rw [← hwdz120]; exact hzu
                        replace hzv : At wdz120 gV (.cells curV 2 (0, 0)) := by rw [← hwdz120]; exact hzv
                        replace hzw : At wdz120 gW (.cells curW 2 (0, 0)) := by rw [← hwdz120]; exact hzw
                        clear hwdz120
                        refine y_yield 0 (some 122) (.slice (some ⟨gU, 0, none⟩) a cU) rfl (by kernel_rfl) (by kernel_rfl) (by kernel_rfl) (fun _ _ _ h => h) rfl rfl ⟨hB, h1, hzu, hzv, hzw⟩ (fun w' h' => exec_move _ rfl (.slice (some ⟨gU, 0, none⟩) a cU) rfl) ?_
                        go_frame
                        refine y_yield 1 (some 123) (.int .i64 t) rfl (by kernel_rfl) (by kernel_rfl) (by kernel_rfl) (fun _ _ _ h => h) rfl rfl ⟨hB, h1, hzu, hzv, hzw⟩ (fun w' h' => exec_move _ rfl (.int .i64 t) rfl) ?_
                        go_frame
                        refine y_yield 2 (some 124) (.pointer (some ⟨w.heap.size, 2, none⟩)) rfl (by kernel_rfl) (by kernel_rfl) (by kernel_rfl) (fun _ _ _ h => h) rfl rfl ⟨hB, h1, hzu, hzv, hzw⟩ (fun w' h' => exec_fieldAddr 28 _ 2 rfl _ (by kernel_rfl)) ?_
                        go_frame
                        refine y_yield 3 (some 125) (.int .i64 b) rfl (by kernel_rfl) (by kernel_rfl) (by kernel_rfl) (fun _ _ _ h => h) rfl rfl ⟨hB, h1, hzu, hzv, hzw⟩ (fun w' h' => exec_load_one 2 _ rfl w.heap.size 2 rfl (.int .i64 b) _ Try.underlying2 rfl (h'.2.1.at_ 2)) ?_
                        go_frame
                        refine y_yield 4 (some 126) (.pointer (some ⟨w.heap.size, 3, none⟩)) rfl (by kernel_rfl) (by kernel_rfl) (by kernel_rfl) (fun _ _ _ h => h) rfl rfl ⟨hB, h1, hzu, hzv, hzw⟩ (fun w' h' => exec_fieldAddr 28 _ 3 rfl _ (by kernel_rfl)) ?_
                        go_frame
                        refine y_yield 5 (some 127) (.int .i64 d) rfl (by kernel_rfl) (by kernel_rfl) (by kernel_rfl) (fun _ _ _ h => h) rfl rfl ⟨hB, h1, hzu, hzv, hzw⟩ (fun w' h' => exec_load_one 2 _ rfl w.heap.size 3 rfl (.int .i64 d) _ Try.underlying2 rfl (h'.2.1.at_ 3)) ?_
                        go_frame
                        refine y_yield 6 (some 128) (.int .i64 M) rfl (by kernel_rfl) (by kernel_rfl) (by kernel_rfl) (fun _ _ _ h => h) rfl rfl ⟨hB, h1, hzu, hzv, hzw⟩ (fun w' h' => exec_mul _ _ _ _ rfl b d M rfl rfl HM.out) ?_
                        go_frame
                        refine y_yield 7 (some 129) (.int .i64 I5) rfl (by kernel_rfl) (by kernel_rfl) (by kernel_rfl) (fun _ _ _ h => h) rfl rfl ⟨hB, h1, hzu, hzv, hzw⟩ (fun w' h' => exec_quo _ _ _ _ rfl t M I5 rfl rfl (by omega) HI5.out) ?_
                        go_frame
                        refine y_yield 8 (some 130) (.pointer (some ⟨gU, I5 * 1, none⟩)) rfl (by kernel_rfl) (by kernel_rfl) (by kernel_rfl) (fun _ _ _ h => h) rfl rfl ⟨hB, h1, hzu, hzv, hzw⟩ (fun w' h' => exec_ix0 _ 2 _ _ rfl gU a cU I5 1 rfl rfl Try.underlying22 (by kernel_rfl) (by omega)) ?_
                        go_frame
                        refine y_yield 9 (some 131) (.int .i64 U5) rfl (by kernel_rfl) (by kernel_rfl) (by kernel_rfl) (fun _ _ _ h => h) rfl rfl ⟨hB, h1, hzu, hzv, hzw⟩ (fun w' h' => exec_load_one 2 _ rfl gU (I5 * 1) rfl (.int .i64 U5) _ Try.underlying2 rfl (at_abs h'.2.2.1 (HCu.out _ _ HU5.out))) ?_
                        go_frame
                        refine y_yield 10 (some 132) (.slice (some ⟨gV, 0, none⟩) b cV) rfl (by kernel_rfl) (by kernel_rfl) (by kernel_rfl) (fun _ _ _ h => h) rfl rfl ⟨hB, h1, hzu, hzv, hzw⟩ (fun w' h' => exec_move _ rfl (.slice (some ⟨gV, 0, none⟩) b cV) rfl) ?_
                        go_frame
                        refine y_yield 11 (some 133) (.int .i64 t) rfl (by kernel_rfl) (by kernel_rfl) (by kernel_rfl) (fun _ _ _ h => h) rfl rfl ⟨hB, h1, hzu, hzv, hzw⟩ (fun w' h' => exec_move _ rfl (.int .i64 t) rfl) ?_
                        go_frame
                        refine y_yield 12 (some 134) (.pointer (some ⟨w.heap.size, 3, none⟩)) rfl (by kernel_rfl) (by kernel_rfl) (by kernel_rfl) (fun _ _ _ h => h) rfl rfl ⟨hB, h1, hzu, hzv, hzw⟩ (fun w' h' => exec_fieldAddr 28 _ 3 rfl _ (by kernel_rfl)) ?_
                        go_frame
                        refine y_yield 13 (some 135) (.int .i64 d) rfl (by kernel_rfl) (by kernel_rfl) (by kernel_rfl) (fun _ _ _ h => h) rfl rfl ⟨hB, h1, hzu, hzv, hzw⟩ (fun w' h' => exec_load_one 2 _ rfl w.heap.size 3 rfl (.int .i64 d) _ Try.underlying2 rfl (h'.2.1.at_ 3)) ?_
                        go_frame
                        refine y_yield 14 (some 136) (.int .i64 K5) rfl (by kernel_rfl) (by kernel_rfl) (by kernel_rfl) (fun _ _ _ h => h) rfl rfl ⟨hB, h1, hzu, hzv, hzw⟩ (fun w' h' => exec_quo _ _ _ _ rfl t d K5 rfl rfl (by omega) HK5.out) ?_
                        go_frame
                        refine y_yield 15 (some 137) (.pointer (some ⟨w.heap.size, 2, none⟩)) rfl (by kernel_rfl) (by kernel_rfl) (by kernel_rfl) (fun _ _ _ h => h) rfl rfl ⟨hB, h1, hzu, hzv, hzw⟩ (fun w' h' => exec_fieldAddr 28 _ 2 rfl _ (by kernel_rfl)) ?_
                        go_frame
                        refine y_yield 16 (some 138) (.int .i64 b) rfl (by kernel_rfl) (by kernel_rfl) (by kernel_rfl) (fun _ _ _ h => h) rfl rfl ⟨hB, h1, hzu, hzv, hzw⟩ (fun w' h' => exec_load_one 2 _ rfl w.heap.size 2 rfl (.int .i64 b) _ Try.underlying2 rfl (h'.2.1.at_ 2)) ?_
                        go_frame
                        refine y_yield 17 (some 139) (.int .i64 J5) rfl (by kernel_rfl) (by kernel_rfl) (by kernel_rfl) (fun _ _ _ h => h) rfl rfl ⟨hB, h1, hzu, hzv, hzw⟩ (fun w' h' => exec_rem _ _ _ _ rfl K5 b J5 rfl rfl (by omega) HJ5.out) ?_
                        go_frame
                        refine y_yield 18 (some 140) (.pointer (some ⟨gV, J5 * 1, none⟩)) rfl (by kernel_rfl) (by kernel_rfl) (by kernel_rfl) (fun _ _ _ h => h) rfl rfl ⟨hB, h1, hzu, hzv, hzw⟩ (fun w' h' => exec_ix0 _ 2 _ _ rfl gV b cV J5 1 rfl rfl Try.underlying22 (by kernel_rfl) (by omega)) ?_
                        go_frame
                        refine y_yield 19 (some 141) (.int .i64 V5) rfl (by kernel_rfl) (by kernel_rfl) (by kernel_rfl) (fun _ _ _ h => h) rfl rfl ⟨hB, h1, hzu, hzv, hzw⟩ (fun w' h' => exec_load_one 2 _ rfl gV (J5 * 1) rfl (.int .i64 V5) _ Try.underlying2 rfl (at_abs h'.2.2.2.1 (HCv.out _ _ HV5.out))) ?_
                        go_frame
                        refine y_yield 20 (some 142) (.int .i64 A5) rfl (by kernel_rfl) (by kernel_rfl) (by kernel_rfl) (fun _ _ _ h => h) rfl rfl ⟨hB, h1, hzu, hzv, hzw⟩ (fun w' h' => exec_mul _ _ _ _ rfl U5 V5 A5 rfl rfl HA5.out) ?_
                        go_frame
                        refine y_yield 21 (some 143) (.slice (some ⟨gW, 0, none⟩) d cW) rfl (by kernel_rfl) (by kernel_rfl) (by kernel_rfl) (fun _ _ _ h => h) rfl rfl ⟨hB, h1, hzu, hzv, hzw⟩ (fun w' h' => exec_move _ rfl (.slice (some ⟨gW, 0, none⟩) d cW) rfl) ?_
                        go_frame
                        refine y_yield 22 (some 144) (.int .i64 t) rfl (by kernel_rfl) (by kernel_rfl) (by kernel_rfl) (fun _ _ _ h => h) rfl rfl ⟨hB, h1, hzu, hzv, hzw⟩ (fun w' h' => exec_move _ rfl (.int .i64 t) rfl) ?_
                        go_frame
                        refine y_yield 23 (some 145) (.pointer (some ⟨w.heap.size, 3, none⟩)) rfl (by kernel_rfl) (by kernel_rfl) (by kernel_rfl) (fun _ _ _ h => h) rfl rfl ⟨hB, h1, hzu, hzv, hzw⟩ (fun w' h' => exec_fieldAddr 28 _ 3 rfl _ (by kernel_rfl)) ?_
                        go_frame
                        refine y_yield 24 (some 146) (.int .i64 d) rfl (by kernel_rfl) (by kernel_rfl) (by kernel_rfl) (fun _ _ _ h => h) rfl rfl ⟨hB, h1, hzu, hzv, hzw⟩ (fun w' h' => exec_load_one 2 _ rfl w.heap.size 3 rfl (.int .i64 d) _ Try.underlying2 rfl (h'.2.1.at_ 3)) ?_
                        go_frame
                        refine y_yield 25 (some 147) (.int .i64 L5) rfl (by kernel_rfl) (by kernel_rfl) (by kernel_rfl) (fun _ _ _ h => h) rfl rfl ⟨hB, h1, hzu, hzv, hzw⟩ (fun w' h' => exec_rem _ _ _ _ rfl t d L5 rfl rfl (by omega) HL5.out) ?_
                        go_frame
                        refine y_yield 26 (some 148) (.pointer (some ⟨gW, L5 * 1, none⟩)) rfl (by kernel_rfl) (by kernel_rfl) (by kernel_rfl) (fun _ _ _ h => h) rfl rfl ⟨hB, h1, hzu, hzv, hzw⟩ (fun w' h' => exec_ix0 _ 2 _ _ rfl gW d cW L5 1 rfl rfl Try.underlying22 (by kernel_rfl) (by omega)) ?_
                        go_frame
                        refine y_yield 27 (some 149) (.int .i64 W5) rfl (by kernel_rfl) (by kernel_rfl) (by kernel_rfl) (fun _ _ _ h => h) rfl rfl ⟨hB, h1, hzu, hzv, hzw⟩ (fun w' h' => exec_load_one 2 _ rfl gW (L5 * 1) rfl (.int .i64 W5) _ Try.underlying2 rfl (at_abs h'.2.2.2.2 (HCw.out _ _ HW5.out))) ?_
                        go_frame
                        refine y_yield 28 (some 150) (.int .i64 B5) rfl (by kernel_rfl) (by kernel_rfl) (by kernel_rfl) (fun _ _ _ h => h) rfl rfl ⟨hB, h1, hzu, hzv, hzw⟩ (fun w' h' => exec_mul _ _ _ _ rfl A5 W5 B5 rfl rfl HB5.out) ?_
                        go_frame
                        refine y_yield 29 (some 151) (.pointer (some ⟨w.heap.size, 0, none⟩)) rfl (by kernel_rfl) (by kernel_rfl) (by kernel_rfl) (fun _ _ _ h => h) rfl rfl ⟨hB, h1, hzu, hzv, hzw⟩ (fun w' h' => exec_fieldAddr 28 _ 0 rfl _ (by kernel_rfl)) ?_
                        go_frame
                        refine y_yield 30 (some 152) (.int .i64 p) rfl (by kernel_rfl) (by kernel_rfl) (by kernel_rfl) (fun _ _ _ h => h) rfl rfl ⟨hB, h1, hzu, hzv, hzw⟩ (fun w' h' => exec_load_one 2 _ rfl w.heap.size 0 rfl (.int .i64 p) _ Try.underlying2 rfl (h'.2.1.at_ 0)) ?_
                        go_frame
                        refine y_yield 31 (some 153) (.int .i64 C5) rfl (by kernel_rfl) (by kernel_rfl) (by kernel_rfl) (fun _ _ _ h => h) rfl rfl ⟨hB, h1, hzu, hzv, hzw⟩ (fun w' h' => exec_rem _ _ _ _ rfl B5 p C5 rfl rfl (by omega) HC5.out) ?_
                        go_frame
                        refine y_yield 32 (some 154) (.pointer (some ⟨w.heap.size, 4, none⟩)) rfl (by kernel_rfl) (by kernel_rfl) (by kernel_rfl) (fun _ _ _ h => h) rfl rfl ⟨hB, h1, hzu, hzv, hzw⟩ (fun w' h' => exec_fieldAddr 28 _ 4 rfl _ (by kernel_rfl)) ?_
                        go_frame
                        refine y_yield 33 (some 155) (.slice (some ⟨bB, oB, none⟩) N c) rfl (by kernel_rfl) (by kernel_rfl) (by kernel_rfl) (fun _ _ _ h => h) rfl rfl ⟨hB, h1, hzu, hzv, hzw⟩ (fun w' h' => exec_load_one 22 _ rfl w.heap.size 4 rfl (.slice (some ⟨bB, oB, none⟩) N c) _ Try.underlying22 rfl (h'.2.1.at_ 4)) ?_
                        go_frame
                        refine y_yield 34 (some 156) (.int .i64 t) rfl (by kernel_rfl) (by kernel_rfl) (by kernel_rfl) (fun _ _ _ h => h) rfl rfl ⟨hB, h1, hzu, hzv, hzw⟩ (fun w' h' => exec_move _ rfl (.int .i64 t) rfl) ?_
                        go_frame
                        refine y_yield 35 (some 157) (.pointer (some ⟨bB, oB + t * 1, none⟩)) rfl (by kernel_rfl) (by kernel_rfl) (by kernel_rfl) (fun _ _ _ h => h) rfl rfl ⟨hB, h1, hzu, hzv, hzw⟩ (fun w' h' => exec_index_slice _ 2 _ _ rfl bB oB N c t 1 rfl rfl Try.underlying22 (by kernel_rfl) hlt) ?_
                        go_frame
                        refine y_yield 36 (some 158) (.int .i64 X5) rfl (by kernel_rfl) (by kernel_rfl) (by kernel_rfl) (fun _ _ _ h => h) rfl rfl ⟨hB, h1, hzu, hzv, hzw⟩ (fun w' h' => exec_load_one 2 _ rfl bB (oB + t * 1) rfl (.int .i64 X5) _ Try.underlying2 rfl (RdI.c1S (hX.keep h'.1) HX5.out)) ?_
                        go_frame
                        refine y_yield 37 (some 159) (.bool true) rfl (by kernel_rfl) (by kernel_rfl) (by kernel_rfl) (fun _ _ _ h => h) rfl rfl ⟨hB, h1, hzu, hzv, hzw⟩ (fun w' h' => exec_neq _ _ _ _ rfl C5 X5 rfl rfl true Hn5.out) ?_
                        go_frame
                        refine y_done (by kernel_rfl) ?_ _
                        go_upto_region 28 with (fail)
                        refine wp_region_lit ?_
                        refine ls_ex (some 2) (.slice none 0 0) rfl rfl (exec_assign _ rfl (.slice none 0 0) rfl) ?_
                        go_frame
                        refine ls_ex (some 3) (.bool false) rfl rfl (exec_assign _ rfl (.bool false) rfl) ?_
                        go_frame
                        refine wpList_nil ?_
                        go_wp2_with fail
                        go_ret2
                        exact .inl ⟨HF.out, rfl, hB⟩
                    · have HF : Hid (sfB p a b d xs t0 = true) := Lib.hid (by rw [HGB.out]; exact sfG_yes HXl.out HN3.out (fun y hy => Hall.out y (by omega)))
                      go_upto_region 25 with (fail)
                      refine wp_region_lit ?_
                      refine ls_ex (some 115) (.int .i64 t) rfl rfl (exec_move _ rfl (.int .i64 t) rfl) ?_
                      go_frame
                      refine ls_ex (some 116) (.pointer (some ⟨w.heap.size, 4, none⟩)) rfl rfl (exec_fieldAddr 28 _ 4 rfl _ (by kernel_rfl)) ?_
                      go_frame
                      refine ls_ex (some 117) (.slice (some ⟨bB, oB, none⟩) N c) rfl rfl (exec_load_one 22 _ rfl w.heap.size 4 rfl (.slice (some ⟨bB, oB, none⟩) N c) _ Try.underlying22 rfl (h1.at_ 4)) ?_
                      go_frame
                      refine ls_ex (some 118) (.int .i64 N) rfl rfl (exec_len _ 22 2 rfl ((some ⟨bB, oB, none⟩)) N c rfl Try.underlying22) ?_
                      go_frame
                      refine ls_ex (some 119) (.bool false) rfl rfl (exec_lss _ _ _ _ rfl t N rfl rfl false (decide_eq_false (by omega))) ?_
                      go_frame
                      refine wpList_nil ?_
                      go_upto_region 29 with (fail)
                      refine wp_region_lit ?_
                      refine ls_ex (some 160) (.slice (some ⟨gU, 0, none⟩) a cU) rfl rfl (exec_move _ rfl (.slice (some ⟨gU, 0, none⟩) a cU) rfl) ?_
                      go_frame
                      refine ls_ex (some 161) (.slice (some ⟨gV, 0, none⟩) b cV) rfl rfl (exec_move _ rfl (.slice (some ⟨gV, 0, none⟩) b cV) rfl) ?_
                      go_frame
                      refine ls_ex (some 162) (.slice (some ⟨gW, 0, none⟩) d cW) rfl rfl (exec_move _ rfl (.slice (some ⟨gW, 0, none⟩) d cW) rfl) ?_
                      go_frame
                      refine ls_op rfl (fun K' hK' => ?_)
                      have lz121 := hB.size
                      have lz122 := h1.lt
                      have lz123 := hzu.lt
                      have lz124 := hzv.lt
                      have lz125 := hzw.lt
                      refine wp_new (some 163) rfl (exec_bsM3 _ _ _ rfl ((some ⟨gU, 0, none⟩)) a cU ((some ⟨gV, 0, none⟩)) b cV ((some ⟨gW, 0, none⟩)) d cW rfl rfl rfl) (fun Wz126 nnz127 => ?_)
                      have bz128 := nnz127.below (Below.refl _ _) (Nat.le_refl _)
                      replace hB := below_after hB bz128
                      replace h1 := h1.after bz128
                      replace hzu := hzu.after bz128
                      replace hzv := hzv.after bz128
                      replace hzw := hzw.after bz128
                      have hz129 : At Wz126 wr.heap.size (.cells #[.slice (some ⟨gU, 0, none⟩) a cU, .slice (some ⟨gV, 0, none⟩) b cV, .slice (some ⟨gW, 0, none⟩) d cW] 22 (0, 0)) := nnz127.at_
                      refine hK' _ _ ?_
                      clear hK' K' nnz127 bz128
                      go_frame
                      refine ls_ex (some 2) (.slice (some ⟨wr.heap.size, 0, none⟩) 3 3) rfl rfl (exec_assign _ rfl (.slice (some ⟨wr.heap.size, 0, none⟩) 3 3) rfl) ?_
                      go_frame
                      refine ls_ex (some 3) (.bool true) rfl rfl (exec_assign _ rfl (.bool true) rfl) ?_
                      go_frame
                      refine wpList_nil ?_
                      go_wp2_with fail
                      have lsz := hB.size
                      go_ret2
                      exact .inr ⟨HF.out, wr.heap.size, gU, gV, gW, cU, cV, cW, curU, curV, curW, rfl, ⟨by omega, by omega, by omega, by omega⟩, ⟨nvu, nwu, nwv⟩, ⟨by omega, by omega, by omega⟩, hz129, hzu, hzv, hzw, HCu.out, HCv.out, HCw.out, hB⟩
    · obtain rfl : e = ((m : Nat) : Int) := by omega
      clear he
      have hmN : m < N := by omega
      obtain ⟨X9, hX9⟩ : ∃ z9, xs[m]? = some z9 := ⟨_, List.getElem?_eq_getElem (by rw [HXl.out]; exact hmN)⟩
      have HX9 := Lib.hid hX9
      by_cases hz : X9 = 0
      · have Hz : Hid ((X9 != 0) = false) := Lib.hid (by simp [hz])
        have hq2 : m ≤ t0 → q = (t0 : Int) := fun h => hq (by
          rcases Nat.lt_or_ge m t0 with h9 | h9
          · exact h9
          · have e9 : m = t0 := by omega
            exact absurd (by rw [← e9, hX9]; exact hz) Ht.out.2.1)
        clear hz hX9 hq
        go_upto_region 3 with (fail)
        refine wp_region_lit ?_
        refine ls_ex (some 21) (.int .i64 (m : Nat)) rfl rfl (exec_move _ rfl (.int .i64 (m : Nat)) rfl) ?_
        go_frame
        refine ls_ex (some 22) (.bool true) rfl rfl (exec_geq _ _ _ _ rfl ((m : Nat)) 0 rfl rfl true (decide_eq_true (by omega))) ?_
        go_frame
        refine wpList_nil ?_
        go_upto_region 5 with (fail)
        refine wp_region_lit ?_
        refine ls_ex (some 25) (.pointer (some ⟨w.heap.size, 4, none⟩)) rfl rfl (exec_fieldAddr 28 _ 4 rfl _ (by kernel_rfl)) ?_
        go_frame
        refine ls_ex (some 26) (.slice (some ⟨bB, oB, none⟩) N c) rfl rfl (exec_load_one 22 _ rfl w.heap.size 4 rfl (.slice (some ⟨bB, oB, none⟩) N c) _ Try.underlying22 rfl (h1.at_ 4)) ?_
        go_frame
        refine ls_ex (some 27) (.int .i64 (m : Nat)) rfl rfl (exec_move _ rfl (.int .i64 (m : Nat)) rfl) ?_
        go_frame
        refine ls_ex (some 28) (.pointer (some ⟨bB, oB + m * 1, none⟩)) rfl rfl (exec_index_slice _ 2 _ _ rfl bB oB N c m 1 rfl rfl Try.underlying22 (by kernel_rfl) hmN) ?_
        go_frame
        refine ls_ex (some 29) (.int .i64 X9) rfl rfl (exec_load_one 2 _ rfl bB (oB + m * 1) rfl (.int .i64 X9) _ Try.underlying2 rfl (RdI.c1S (hX.keep hB) HX9.out)) ?_
        go_frame
        refine ls_ex (some 30) (.bool false) rfl rfl (exec_neq _ _ _ _ rfl X9 0 rfl rfl false Hz.out) ?_
        go_frame
        refine wpList_nil ?_
        go_upto_region 4 with (fail)
        refine wp_region_lit ?_
        refine ls_ex (some 23) (.int .i64 (m : Nat)) rfl rfl (exec_move _ rfl (.int .i64 (m : Nat)) rfl) ?_
        go_frame
        refine ls_ex (some 24) (.int .i64 ((m : Int) - 1)) rfl rfl (exec_sub _ _ _ _ rfl (m : Int) 1 ((m : Int) - 1) rfl rfl (IntWalk.i64_in _ (by omega))) ?_
        go_frame
        refine ls_ex (some 5) (.int .i64 ((m : Int) - 1)) rfl rfl (exec_assign _ rfl (.int .i64 ((m : Int) - 1)) rfl) ?_
        go_frame
        refine wpList_nil ?_
        go_wp2_with fail
        go_roundw
        case rel => exact ⟨m, q, _, by omega, rfl, rfl, rfl, hq2, hB, h1⟩
        case measure => simp [intOf] <;> omega
      · have Hz : Hid ((X9 != 0) = true) := Lib.hid (by simp [hz])
        have hq2 : m ≤ t0 → ((m : Nat) : Int) = (t0 : Int) := fun h => by
          have : ¬ m < t0 := fun h9 => hz (by have := Ht.out.2.2 m h9; rw [hX9] at this; exact this)
          omega
        clear hz hX9 hq
        go_upto_region 3 with (fail)
        refine wp_region_lit ?_
        refine ls_ex (some 21) (.int .i64 (m : Nat)) rfl rfl (exec_move _ rfl (.int .i64 (m : Nat)) rfl) ?_
        go_frame
        refine ls_ex (some 22) (.bool true) rfl rfl (exec_geq _ _ _ _ rfl ((m : Nat)) 0 rfl rfl true (decide_eq_true (by omega))) ?_
        go_frame
        refine wpList_nil ?_
        go_upto_region 5 with (fail)
        refine wp_region_lit ?_
        refine ls_ex (some 25) (.pointer (some ⟨w.heap.size, 4, none⟩)) rfl rfl (exec_fieldAddr 28 _ 4 rfl _ (by kernel_rfl)) ?_
        go_frame
        refine ls_ex (some 26) (.slice (some ⟨bB, oB, none⟩) N c) rfl rfl (exec_load_one 22 _ rfl w.heap.size 4 rfl (.slice (some ⟨bB, oB, none⟩) N c) _ Try.underlying22 rfl (h1.at_ 4)) ?_
        go_frame
        refine ls_ex (some 27) (.int .i64 (m : Nat)) rfl rfl (exec_move _ rfl (.int .i64 (m : Nat)) rfl) ?_
        go_frame
        refine ls_ex (some 28) (.pointer (some ⟨bB, oB + m * 1, none⟩)) rfl rfl (exec_index_slice _ 2 _ _ rfl bB oB N c m 1 rfl rfl Try.underlying22 (by kernel_rfl) hmN) ?_
        go_frame
        refine ls_ex (some 29) (.int .i64 X9) rfl rfl (exec_load_one 2 _ rfl bB (oB + m * 1) rfl (.int .i64 X9) _ Try.underlying2 rfl (RdI.c1S (hX.keep hB) HX9.out)) ?_
        go_frame
        refine ls_ex (some 30) (.bool true) rfl rfl (exec_neq _ _ _ _ rfl X9 0 rfl rfl true Hz.out) ?_
        go_frame
        refine wpList_nil ?_
        go_upto_region 6 with (fail)
        refine wp_region_lit ?_
        refine ls_ex (some 31) (.int .i64 (m : Nat)) rfl rfl (exec_move _ rfl (.int .i64 (m : Nat)) rfl) ?_
        go_frame
        refine ls_ex (some 4) (.int .i64 (m : Nat)) rfl rfl (exec_assign _ rfl (.int .i64 (m : Nat)) rfl) ?_
        go_frame
        refine wpList_nil ?_
        go_upto_region 4 with (fail)
        refine wp_region_lit ?_
        refine ls_ex (some 23) (.int .i64 (m : Nat)) rfl rfl (exec_move _ rfl (.int .i64 (m : Nat)) rfl) ?_
        go_frame
        refine ls_ex (some 24) (.int .i64 ((m : Int) - 1)) rfl rfl (exec_sub _ _ _ _ rfl (m : Int) 1 ((m : Int) - 1) rfl rfl (IntWalk.i64_in _ (by omega))) ?_
        go_frame
        refine ls_ex (some 5) (.int .i64 ((m : Int) - 1)) rfl rfl (exec_assign _ rfl (.int .i64 ((m : Int) - 1)) rfl) ?_
        go_frame
        refine wpList_nil ?_
        go_wp2_with fail
        go_roundw
        case rel => exact ⟨m, _, _, by omega, rfl, rfl, rfl, hq2, hB, h1⟩
        case measure => simp [intOf] <;> omega
end Go.Proofs.Ytcfgpjkdonidgaa
