/-
  impl.simpleFactors. (Made by mksf1.py.)
-/
import Derived.Test.YtcfgpjkdonidgaaSf0
import Derived.Test.YtcfgpjkdonidgaaNrm4
import Derived.Test.YtcfgpjkdonidgaaHeldT
import Derived.Test.YtcfgpjkdonidgaaTen7Sf
import Derived.Test.YtcfgpjkdonidgaaMf
namespace Go.Proofs.Ytcfgpjkdonidgaa
open Go.RowKit
set_option maxRecDepth 100000
theorem wp_make_I {o : Oper} {a : Act} {w : World} {K : Act → World → Prop} {Q : Exit → Act → World → Prop} (d : Option Tmp) (hd : o.dst = d) (l c : Operand) (hop : o.op = Op.makeSlice 22 l c)
    (n : Nat) (hl : a.eval l = .int .i64 n) (hc : a.eval c = .int .i64 n) (hb : n ≤ 1000000)
    (h : ∀ w', New w w' (.cells (iar (List.replicate n 0)) 2 (0, 0)) → K (a.put d (.slice (some ⟨w.heap.size, 0, none⟩) n n)) w') : Oper.wp Try.prog o a w K Q := by
  subst hd
  obtain ⟨i, hi0, hz, h1, h2⟩ := info_parts infoI64
  have hr := run_make (P := Try.prog) w 22 2 i _ Try.underlying22 hi0 hz .i64 .i64 n n (by omega) (Int.le_refl _) (by rw [h2]; omega) (by omega)
  have hzc : (Value.int .i64 0).cells = #[Value.int .i64 0] := rfl
  simp only [Int.toNat_natCast, h1, hzc, made_one, iar_zero] at hr
  unfold Oper.wp
  simp [execOp, hop, hl, hc, hr, Result.andThen]
  exact h _ (New.alloc _ _)
theorem exec_mkfn3 {P : Program} {o : Oper} {a : Act} {w : World} (f : FuncId) (x y z : Operand) (ho : o.op = .makeFunc (.func f) #[] #[x, y, z]) (u v t : Value) (hx : a.eval x = u) (hy : a.eval y = v) (hz : a.eval z = t) : (execOp a.eval o).run P w = .ok (.value (.func (.func f) #[] #[u, v, t])) w := by
  subst hx hy hz
  unfold execOp
  simp only [ho]
  simp [go_sem]
theorem OwnI.away_new {w : World} {lo : Nat} {v : Value} {xs : List Int} (h : OwnI w lo v xs) : some w.heap.size ≠ v.ownBlock := fun e => by
  have := (h.lt e.symm).2
  omega
theorem OwnI.ne_lt {w : World} {lo g : Nat} {v : Value} {xs : List Int} (h : OwnI w lo v xs) (hg : g < lo) : some g ≠ v.ownBlock := fun e => by
  have := (h.lt e.symm).1
  omega
theorem RdI.c1S {w : World} {b off : Nat} {xs : List Int} {X : Int} {i : Nat} (h : RdI w (some ⟨b, off, none⟩) xs) (hi : xs[i]? = some X) : w.cell? ⟨b, off + i * 1, none⟩ = some (.int .i64 X) := by
  have hlt : i < xs.length := by
    rcases Nat.lt_or_ge i xs.length with h9 | h9
    · exact h9
    · rw [List.getElem?_eq_none h9] at hi; cases hi
  obtain ⟨b', off', hA0, hc⟩ := h.at_ hlt
  cases hA0
  rw [List.getElem?_eq_getElem hlt] at hi
  cases hi
  rw [Nat.mul_one]
  exact hc
theorem tqM_wrap {c M x : Nat} (h : c / M = x) (hc : c < 1000000) : IntKind.i64.wrap ((c : Int).tdiv (M : Int)) = (x : Int) := by
  have h1 := Nat.div_le_self c M
  rw [← Int.ofNat_tdiv, h]
  exact IntWalk.i64_in _ (by omega)
theorem tmM_cast {c M x : Nat} (h : c % M = x) : (c : Int).tmod (M : Int) = (x : Int) := by rw [← Int.ofNat_tmod, h]
theorem mwM_cast {a b c : Nat} (h : a * b = c) (hc : c < 1000000000000) : IntKind.i64.wrap ((a : Int) * (b : Int)) = (c : Int) := by
  rw [← Int.natCast_mul, h]
  exact IntWalk.i64_in _ (by omega)
theorem inB_of {p : Int} {xs : List Int} {t : Nat} {X : Int} (h : numsB p xs = true) (hX : xs[t]? = some X) : 0 ≤ X ∧ X < p := by
  unfold numsB at h
  have h9 := List.all_eq_true.1 h X (List.mem_of_getElem? hX)
  simpa [inB] using h9
theorem ten_parts {p : Int} {a b d : Nat} {xs : List Int} (h : tenB p a b d xs = true) : primeB p = true ∧ (1 ≤ a ∧ a ≤ 9) ∧ (1 ≤ b ∧ b ≤ 9) ∧ (1 ≤ d ∧ d ≤ 9) ∧ xs.length = a * b * d ∧ numsB p xs = true := by
  unfold tenB sideB at h
  simp only [Bool.and_eq_true, decide_eq_true_eq] at h
  obtain ⟨⟨⟨⟨⟨h1, h2⟩, h3⟩, h4⟩, h5⟩, h6⟩ := h
  refine ⟨h1, by omega, by omega, by omega, ?_, h6⟩
  rw [← Int.natCast_mul, ← Int.natCast_mul] at h5
  omega
theorem pl_idx {t a b d : Nat} (h : t < a * b * d) (hb : 0 < b) (hd : 0 < d) : t / (b * d) < a ∧ t / d % b < b ∧ t % d < d := by
  refine ⟨?_, Nat.mod_lt _ hb, Nat.mod_lt _ hd⟩
  exact Nat.div_lt_of_lt_mul (by rw [Nat.mul_comm, ← Nat.mul_assoc]; exact h)
attribute [local irreducible] wpList
theorem cut_worldS {n : Nat} {w wx : World} (_ : Below n w wx) : ∃ x : World, x = wx := ⟨_, rfl⟩
theorem al_sliceI {o : Oper} {a : Act} {w : World} (ho : o.op = .alloc 22) : (execOp a.eval o).run Try.prog w = .ok (.value (.pointer (some ⟨w.heap.size, 0, none⟩))) (w.alloc (.cells #[.slice none 0 0] 22 (0, 0))) := by
  unfold execOp
  rw [ho]
  kernel_rfl
def facL (f : Nat → Int) (n : Nat) : List Int := (List.range n).map f
theorem facL_len (f : Nat → Int) (n : Nat) : (facL f n).length = n := by simp [facL]
theorem fac_get {f : Nat → Int} {n t : Nat} (h : t < n) : (facL f n)[t]? = some (f t) := by simp [facL, h]
def mixS (new old : List Int) (c : Nat) : List Int := new.take c ++ old.drop c
theorem mixS_len {new old : List Int} {c N : Nat} (hn : new.length = N) (ho : old.length = N) (hc : c ≤ N) : (mixS new old c).length = N := by simp [mixS, hn, ho]; omega
theorem mixS_set {new old : List Int} {c N : Nat} {X : Int} (hn : new.length = N) (ho : old.length = N) (hc : c < N) (hX : new[c]? = some X) : (mixS new old c).set c X = mixS new old (c + 1) := by
  have hl : (new.take c).length = c := by simp [hn]; omega
  unfold mixS
  rw [List.set_append_right _ _ (by omega), hl, Nat.sub_self, List.drop_eq_getElem_cons (by omega), List.set_cons_zero, List.take_add_one, hX, List.append_assoc]
  rfl
theorem mixS_zero (new old : List Int) : mixS new old 0 = old := by simp [mixS]
theorem mixS_all {new old : List Int} {N : Nat} (hn : new.length = N) (ho : old.length = N) : mixS new old N = new := by
  rw [mixS, List.take_of_length_le (by omega), List.drop_eq_nil_of_le (by omega), List.append_nil]
theorem nth_in {p : Int} {xs : List Int} (h : numsB p xs = true) (hp : 0 < p) (t : Int) : 0 ≤ nthI xs t ∧ nthI xs t < p := by
  unfold nthI
  rcases hx : xs[t.toNat]? with _ | X
  · exact ⟨Int.le_refl _, hp⟩
  · exact inB_of h hx
theorem numberAtN_c (p : Int) (a b c : Nat) (A : Option Addr) (cap N : Nat) (xs : List Int) (i j k : Nat) (w : World) (hr : RdI w A xs) (hN : xs.length = N) (hl : a * b * c = N) (ha : a ≤ 9) (hb : b ≤ 9) (hc : c ≤ 9) (hi : i < a) (hj : j < b) (hk : k < c) :
    Calls Try.prog 37 #[.agg #[.int .i64 p, .int .i64 a, .int .i64 b, .int .i64 c, .slice A N cap], .int .i64 i, .int .i64 j, .int .i64 k] w fun e w' => e = .returned (.int .i64 (nthI xs ((((i : Nat) : Int) * b + (j : Nat)) * c + (k : Nat)))) ∧ Below w.heap.size w w' := by
  subst hN
  exact numberAt_c p a b c A cap xs i j k w hr (by rw [← hl]; simp) (by omega) (by omega) (by omega) (by omega) (by omega) (by omega) (by omega) (by omega) (by omega)
/-- The three lists through the first number other than 0, at t0. -/
def sfU (p : Int) (a b d : Nat) (xs : List Int) (t0 : Nat) : List Int := facL (fun t => inv p (xs[t0]?.getD 0) * nthI xs ((((t : Nat) : Int) * b + ((t0 / d % b : Nat) : Int)) * d + ((t0 % d : Nat) : Int)) % p) a
def sfV (p : Int) (b d : Nat) (xs : List Int) (t0 : Nat) : List Int := facL (fun t => inv p (xs[t0]?.getD 0) * nthI xs ((((t0 / (b * d) : Nat) : Int) * b + ((t : Nat) : Int)) * d + ((t0 % d : Nat) : Int)) % p) b
def sfW (b d : Nat) (xs : List Int) (t0 : Nat) : List Int := facL (fun t => nthI xs ((((t0 / (b * d) : Nat) : Int) * b + ((t0 / d % b : Nat) : Int)) * d + ((t : Nat) : Int))) d
def AllIn (p : Int) (l : List Int) : Prop := ∀ t : Nat, 0 ≤ l[t]?.getD 0 ∧ (l[t]?.getD 0 < p ∨ l[t]?.getD 0 = 0)
theorem facL_in {p : Int} {f : Nat → Int} (h : ∀ t, 0 ≤ f t ∧ f t < p) (n : Nat) : AllIn p (facL f n) := fun t => by
  by_cases ht : t < n
  · rw [fac_get ht]
    exact ⟨(h t).1, .inl (h t).2⟩
  · rw [List.getElem?_eq_none (by rw [facL_len]; omega)]
    exact ⟨Int.le_refl _, .inr rfl⟩
def sfM (u v w : List Int) (i j k : Nat) : Int := u[i]?.getD 0 * v[j]?.getD 0 * w[k]?.getD 0
theorem sfM_nn {p : Int} {u v w : List Int} (h : AllIn p u ∧ AllIn p v ∧ AllIn p w) (i j k : Nat) : 0 ≤ sfM u v w i j k := Int.mul_nonneg (Int.mul_nonneg (h.1 i).1 (h.2.1 j).1) (h.2.2 k).1
/-- Whether their products are the tensor. -/
def sfB (p : Int) (a b d : Nat) (xs : List Int) (t0 : Nat) : Bool := genL b d p (fun i j k => sfM (sfU p a b d xs t0) (sfV p b d xs t0) (sfW b d xs t0) i j k) (a * b * d) == xs
theorem exec_bsM3 {o : Oper} {a : Act} {w : World} (x y z : Operand) (ho : o.op = .buildSlice 32 3 #[(0, x), (1, y), (2, z)]) (A1 : Option Addr) (n1 c1 : Nat) (A2 : Option Addr) (n2 c2 : Nat) (A3 : Option Addr) (n3 c3 : Nat) (hx : a.eval x = .slice A1 n1 c1) (hy : a.eval y = .slice A2 n2 c2) (hz : a.eval z = .slice A3 n3 c3) :
    (execOp a.eval o).run Try.prog w = .ok (.value (.slice (some ⟨w.heap.size, 0, none⟩) 3 3)) (w.alloc (.cells #[.slice A1 n1 c1, .slice A2 n2 c2, .slice A3 n3 c3] 22 (0, 0))) := by
  obtain ⟨i, hi0, hz0, h1, h2⟩ := info_parts infoIS
  have h := run_buildSlice (P := Try.prog) w 32 22 3 #[(0, .slice A1 n1 c1), (1, .slice A2 n2 c2), (2, .slice A3 n3 c3)] #[.slice A1 n1 c1, .slice A2 n2 c2, .slice A3 n3 c3] i (.slice none 0 0) Try.underlying32 hi0 hz0 (by rw [h1]; omega) (by rw [h1]; omega) (by rw [h1]; kernel_rfl)
  unfold execOp
  simp [ho, hx, hy, hz, h]
theorem equalSf_c (A B : Option Addr) (c d : Nat) (xs ys : List Int) (N : Nat) (hN : ys.length = N) (w : World) (hA : RdI w A xs) (hR2 : RdI w B ys) (hl : N ≤ 1048576) :
    Calls Try.prog 40 #[.slice A xs.length c, .slice B N d] w (fun e w' => e = .returned (.bool (xs == ys)) ∧ Below w.heap.size w w') := by
  subst hN
  by_cases h : xs.length = ys.length
  · exact equal_y A B c d xs ys w hA hR2 h (by omega)
  · exact equal_n A B c d xs ys w hA hR2 h
theorem alSf_impl_Tensor {o : Oper} {a : Act} {w : World} (ho : o.op = .alloc 28) : (execOp a.eval o).run Try.prog w = .ok (.value (.pointer (some ⟨w.heap.size, 0, none⟩))) (w.alloc (.cells #[.int .i64 0, .int .i64 0, .int .i64 0, .int .i64 0, .slice none 0 0] 28 (0, 0))) := by
  unfold execOp
  rw [ho]
  kernel_rfl
set_option maxHeartbeats 4000000 in
theorem sfNo_c (p : Int) (a b d : Nat) (bB oB c N : Nat) (xs : List Int) (w : World) (hX : RdI w (some ⟨bB, oB, none⟩) xs) (hxl : xs.length = N) (hs : tenB p a b d xs = true) (hn : nzN xs) :
    Calls Try.prog 21 #[.agg #[.int .i64 p, .int .i64 a, .int .i64 b, .int .i64 d, .slice (some ⟨bB, oB, none⟩) N c]] w (fun e w' => e = .returned (.tuple #[.slice none 0 0, .bool false]) ∧ Below w.heap.size w w') := by
  have hB := Below.refl w.heap.size w
  have hpp := (ten_parts hs).1
  have hp5 := prime_le5 hpp
  have hdm := (ten_parts hs).2
  have ha0 : 1 ≤ a ∧ a ≤ 9 := hdm.1
  have hb0 : 1 ≤ b ∧ b ≤ 9 := hdm.2.1
  have hd0 : 1 ≤ d ∧ d ≤ 9 := hdm.2.2.1
  have HN3 : Hid (a * b * d = N) := Lib.hid (by rw [← hxl]; exact hdm.2.2.2.1.symm)
  have HNb := Lib.hid hdm.2.2.2.2
  have hNb : N ≤ 729 := by rw [← HN3.out]; exact Nat.le_trans (Nat.mul_le_mul (Nat.mul_le_mul ha0.2 hb0.2) hd0.2) (by decide)
  have HXl := Lib.hid hxl
  have HIX : Hid (((-1 : Int)) = -1 ∧ nzN xs ∨ ∃ t : Nat, (-1 : Int) = t ∧ nzP xs t) := Lib.hid (.inl ⟨rfl, hn⟩)
  clear hs hxl hdm hn
  go_enter Try.func21, Try.ntmps21
  go_upto_region 0 with (fail)
  refine wp_region_lit ?_
  refine ls_op rfl (fun K' hK' => ?_)
  have lz1 := hB.size
  refine wp_new (some 1) rfl (exec_box 28 _ rfl (#[.int .i64 p, .int .i64 a, .int .i64 b, .int .i64 d, .slice (some ⟨bB, oB, none⟩) N c]) rfl) (fun Wz2 nnz3 => ?_)
  have bz4 := nnz3.below (Below.refl _ _) (Nat.le_refl _)
  replace hB := below_after hB bz4
  have hz5 : At Wz2 w.heap.size (.cells #[.int .i64 p, .int .i64 a, .int .i64 b, .int .i64 d, .slice (some ⟨bB, oB, none⟩) N c] 28 (0, 0)) := nnz3.at_
  refine hK' _ _ ?_
  clear hK' K' nnz3 bz4
  go_frame
  refine ls_ex (some 2) (.slice none 0 0) rfl rfl (exec_assign _ rfl (.slice none 0 0) rfl) ?_
  go_frame
  refine ls_ex (some 3) (.bool false) rfl rfl (exec_assign _ rfl (.bool false) rfl) ?_
  go_frame
  refine wpList_nil ?_
  go_upto_region 1 with (fail)
  refine wp_region_lit ?_
  refine ls_ex (some 16) (.pointer (some ⟨w.heap.size, 4, none⟩)) rfl rfl (exec_fieldAddr 28 _ 4 rfl _ (by kernel_rfl)) ?_
  go_frame
  refine ls_ex (some 17) (.slice (some ⟨bB, oB, none⟩) N c) rfl rfl (exec_load_one 22 _ rfl w.heap.size 4 rfl (.slice (some ⟨bB, oB, none⟩) N c) _ Try.underlying22 rfl (hz5.at_ 4)) ?_
  go_frame
  refine ls_op rfl (fun K' hK' => ?_)
  have lz7 := hB.size
  have lz8 := hz5.lt
  refine wp_call2 (some 18) rfl 34 _ _ _ rfl (fun args w => by kernel_rfl) _ _ rfl rfl _ (indexSf_c (some ⟨bB, oB, none⟩) N c xs _ (hX.keep hB) HXl.out (by omega) (-1) HIX.out) (fun e Wz6 h => ?_)
  obtain ⟨rfl, rfl⟩ := h
  refine ⟨_, rfl, ?_⟩
  refine hK' _ _ ?_
  clear hK' K'
  go_frame
  refine ls_ex (some 4) (.int .i64 (-1)) rfl rfl (exec_assign _ rfl (.int .i64 (-1)) rfl) ?_
  go_frame
  refine wpList_nil ?_
  go_upto_region 2 with (fail)
  refine wp_region_lit ?_
  refine ls_ex (some 19) (.int .i64 (-1)) rfl rfl (exec_move _ rfl (.int .i64 (-1)) rfl) ?_
  go_frame
  refine ls_ex (some 20) (.bool true) rfl rfl (exec_lss _ _ _ _ rfl ((-1)) 0 rfl rfl true (decide_eq_true (by omega))) ?_
  go_frame
  refine wpList_nil ?_
  go_upto_region 3 with (fail)
  refine wp_region_lit ?_
  refine ls_ex (some 2) (.slice none 0 0) rfl rfl (exec_assign _ rfl (.slice none 0 0) rfl) ?_
  go_frame
  refine ls_ex (some 3) (.bool false) rfl rfl (exec_assign _ rfl (.bool false) rfl) ?_
  go_frame
  refine wpList_nil ?_
  go_wp2_with fail
  go_ret2
  exact ⟨rfl, hB⟩
set_option maxHeartbeats 4000000 in
theorem sf2_c (gu gv gw bu bv bw : Nat) (p : Int) (a b d : Nat) (UL VL WL : List Int) (i j k : Nat) (w : World) (hu : At w gu (.cells #[.slice (some ⟨bu, 0, none⟩) a a] 22 (0, 0))) (hv : At w gv (.cells #[.slice (some ⟨bv, 0, none⟩) b b] 22 (0, 0))) (hw : At w gw (.cells #[.slice (some ⟨bw, 0, none⟩) d d] 22 (0, 0))) (ku : At w bu (.cells (iar (UL)) 2 (0, 0))) (kv : At w bv (.cells (iar (VL)) 2 (0, 0))) (kw : At w bw (.cells (iar (WL)) 2 (0, 0))) (lu : UL.length = a) (lv : VL.length = b) (lw : WL.length = d) (hi : i < a) (hj : j < b) (hk : k < d) (hn : AllIn p UL ∧ AllIn p VL ∧ AllIn p WL) (hp : p ≤ 5) :
    Calls Try.prog 39 #[.int .i64 i, .int .i64 j, .int .i64 k, .pointer (some ⟨gu, 0, none⟩), .pointer (some ⟨gv, 0, none⟩), .pointer (some ⟨gw, 0, none⟩)] w (fun e w' => e = .returned (.int .i64 (sfM UL VL WL i j k)) ∧ Below w.heap.size w w') := by
  have hB := Below.refl w.heap.size w
  obtain ⟨U1, hU1⟩ : ∃ z9, UL[i]? = some z9 := ⟨_, List.getElem?_eq_getElem (by omega)⟩
  obtain ⟨V1, hV1⟩ : ∃ z9, VL[j]? = some z9 := ⟨_, List.getElem?_eq_getElem (by omega)⟩
  obtain ⟨W1, hW1⟩ : ∃ z9, WL[k]? = some z9 := ⟨_, List.getElem?_eq_getElem (by omega)⟩
  have b1 := hn.1 i
  have b2 := hn.2.1 j
  have b3 := hn.2.2 k
  rw [hU1, Option.getD_some] at b1
  rw [hV1, Option.getD_some] at b2
  rw [hW1, Option.getD_some] at b3
  obtain ⟨M1, hM1⟩ : ∃ z9, U1 * V1 = z9 := ⟨_, rfl⟩
  have hM1b : 0 ≤ M1 ∧ M1 ≤ 25 := by rw [← hM1]; exact ⟨Int.mul_nonneg b1.1 b2.1, (show U1 * V1 ≤ 5 * 5 from Int.mul_le_mul (by omega) (by omega) b2.1 (by omega))⟩
  obtain ⟨M2, hM2⟩ : ∃ z9, M1 * W1 = z9 := ⟨_, rfl⟩
  have hM2b : 0 ≤ M2 ∧ M2 ≤ 125 := by rw [← hM2]; exact ⟨Int.mul_nonneg hM1b.1 b3.1, (show M1 * W1 ≤ 25 * 5 from Int.mul_le_mul (by omega) (by omega) b3.1 (by omega))⟩
  have HR : Hid (sfM UL VL WL i j k = M2) := Lib.hid (by unfold sfM; rw [hU1, hV1, hW1, Option.getD_some, Option.getD_some, Option.getD_some, hM1, hM2])
  have HM1 : Hid (IntKind.i64.wrap (U1 * V1) = M1) := Lib.hid (by rw [hM1]; exact IntWalk.i64_in _ (by omega))
  have HM2 : Hid (IntKind.i64.wrap (M1 * W1) = M2) := Lib.hid (by rw [hM2]; exact IntWalk.i64_in _ (by omega))
  have HU1 := Lib.hid hU1
  have HV1 := Lib.hid hV1
  have HW1 := Lib.hid hW1
  clear hU1 hV1 hW1 hM1 hM2 hn
  go_enter Try.func39, Try.ntmps39
  go_upto_region 0 with (fail)
  refine wp_region_lit ?_
  refine ls_ex (some 9) (.int .i64 0) rfl rfl (exec_assign _ rfl (.int .i64 0) rfl) ?_
  go_frame
  refine wpList_nil ?_
  go_upto_region 1 with (fail)
  refine wp_region_y (zs := []) (S := fun w' => Below w.heap.size w w' ∧ At w' gu (.cells #[.slice (some ⟨bu, 0, none⟩) a a] 22 (0, 0)) ∧ At w' bu (.cells (iar (UL)) 2 (0, 0)) ∧ At w' gv (.cells #[.slice (some ⟨bv, 0, none⟩) b b] 22 (0, 0)) ∧ At w' bv (.cells (iar (VL)) 2 (0, 0)) ∧ At w' gw (.cells #[.slice (some ⟨bw, 0, none⟩) d d] 22 (0, 0)) ∧ At w' bw (.cells (iar (WL)) 2 (0, 0))) (S2 := fun w' => True) (by kernel_rfl) ?_
  change wpAnyY _ _ _ _ _ _ _ _ _ _ (World.drew _)
  generalize hwdz1 : World.drew _ = wdz1
  replace hB : Below w.heap.size w wdz1 := by rw [← hwdz1]; exact hB.drew
  replace hu : At wdz1 gu (.cells #[.slice (some ⟨bu, 0, none⟩) a a] 22 (0, 0)) := by rw [← hwdz1]; exact hu
  replace hv : At wdz1 gv (.cells #[.slice (some ⟨bv, 0, none⟩) b b] 22 (0, 0)) := by rw [← hwdz1]; exact hv
  replace hw : At wdz1 gw (.cells #[.slice (some ⟨bw, 0, none⟩) d d] 22 (0, 0)) := by rw [← hwdz1]; exact hw
  replace ku : At wdz1 bu (.cells (iar (UL)) 2 (0, 0)) := by rw [← hwdz1]; exact ku
  replace kv : At wdz1 bv (.cells (iar (VL)) 2 (0, 0)) := by rw [← hwdz1]; exact kv
  replace kw : At wdz1 bw (.cells (iar (WL)) 2 (0, 0)) := by rw [← hwdz1]; exact kw
  clear hwdz1
  refine y_yield 0 (some 10) (.slice (some ⟨bu, 0, none⟩) a a) rfl (by kernel_rfl) (by kernel_rfl) (by kernel_rfl) (fun _ _ _ h => h) rfl rfl ⟨hB, hu, ku, hv, kv, hw, kw⟩ (fun w' h' => exec_load_one 22 _ rfl gu 0 rfl (.slice (some ⟨bu, 0, none⟩) a a) _ Try.underlying22 rfl (h'.2.1.at_ 0)) ?_
  go_frame
  refine y_yield 1 (some 11) (.int .i64 i) rfl (by kernel_rfl) (by kernel_rfl) (by kernel_rfl) (fun _ _ _ h => h) rfl rfl ⟨hB, hu, ku, hv, kv, hw, kw⟩ (fun w' h' => exec_move _ rfl (.int .i64 i) rfl) ?_
  go_frame
  refine y_yield 2 (some 12) (.pointer (some ⟨bu, i * 1, none⟩)) rfl (by kernel_rfl) (by kernel_rfl) (by kernel_rfl) (fun _ _ _ h => h) rfl rfl ⟨hB, hu, ku, hv, kv, hw, kw⟩ (fun w' h' => exec_ix0 _ 2 _ _ rfl bu a a i 1 rfl rfl Try.underlying22 (by kernel_rfl) (by omega)) ?_
  go_frame
  refine y_yield 3 (some 13) (.int .i64 U1) rfl (by kernel_rfl) (by kernel_rfl) (by kernel_rfl) (fun _ _ _ h => h) rfl rfl ⟨hB, hu, ku, hv, kv, hw, kw⟩ (fun w' h' => exec_load_one 2 _ rfl bu (i * 1) rfl (.int .i64 U1) _ Try.underlying2 rfl (cell_iar h'.2.2.1 HU1.out)) ?_
  go_frame
  refine y_yield 4 (some 14) (.slice (some ⟨bv, 0, none⟩) b b) rfl (by kernel_rfl) (by kernel_rfl) (by kernel_rfl) (fun _ _ _ h => h) rfl rfl ⟨hB, hu, ku, hv, kv, hw, kw⟩ (fun w' h' => exec_load_one 22 _ rfl gv 0 rfl (.slice (some ⟨bv, 0, none⟩) b b) _ Try.underlying22 rfl (h'.2.2.2.1.at_ 0)) ?_
  go_frame
  refine y_yield 5 (some 15) (.int .i64 j) rfl (by kernel_rfl) (by kernel_rfl) (by kernel_rfl) (fun _ _ _ h => h) rfl rfl ⟨hB, hu, ku, hv, kv, hw, kw⟩ (fun w' h' => exec_move _ rfl (.int .i64 j) rfl) ?_
  go_frame
  refine y_yield 6 (some 16) (.pointer (some ⟨bv, j * 1, none⟩)) rfl (by kernel_rfl) (by kernel_rfl) (by kernel_rfl) (fun _ _ _ h => h) rfl rfl ⟨hB, hu, ku, hv, kv, hw, kw⟩ (fun w' h' => exec_ix0 _ 2 _ _ rfl bv b b j 1 rfl rfl Try.underlying22 (by kernel_rfl) (by omega)) ?_
  go_frame
  refine y_yield 7 (some 17) (.int .i64 V1) rfl (by kernel_rfl) (by kernel_rfl) (by kernel_rfl) (fun _ _ _ h => h) rfl rfl ⟨hB, hu, ku, hv, kv, hw, kw⟩ (fun w' h' => exec_load_one 2 _ rfl bv (j * 1) rfl (.int .i64 V1) _ Try.underlying2 rfl (cell_iar h'.2.2.2.2.1 HV1.out)) ?_
  go_frame
  refine y_yield 8 (some 18) (.int .i64 M1) rfl (by kernel_rfl) (by kernel_rfl) (by kernel_rfl) (fun _ _ _ h => h) rfl rfl ⟨hB, hu, ku, hv, kv, hw, kw⟩ (fun w' h' => exec_mul _ _ _ _ rfl U1 V1 M1 rfl rfl HM1.out) ?_
  go_frame
  refine y_yield 9 (some 19) (.slice (some ⟨bw, 0, none⟩) d d) rfl (by kernel_rfl) (by kernel_rfl) (by kernel_rfl) (fun _ _ _ h => h) rfl rfl ⟨hB, hu, ku, hv, kv, hw, kw⟩ (fun w' h' => exec_load_one 22 _ rfl gw 0 rfl (.slice (some ⟨bw, 0, none⟩) d d) _ Try.underlying22 rfl (h'.2.2.2.2.2.1.at_ 0)) ?_
  go_frame
  refine y_yield 10 (some 20) (.int .i64 k) rfl (by kernel_rfl) (by kernel_rfl) (by kernel_rfl) (fun _ _ _ h => h) rfl rfl ⟨hB, hu, ku, hv, kv, hw, kw⟩ (fun w' h' => exec_move _ rfl (.int .i64 k) rfl) ?_
  go_frame
  refine y_yield 11 (some 21) (.pointer (some ⟨bw, k * 1, none⟩)) rfl (by kernel_rfl) (by kernel_rfl) (by kernel_rfl) (fun _ _ _ h => h) rfl rfl ⟨hB, hu, ku, hv, kv, hw, kw⟩ (fun w' h' => exec_ix0 _ 2 _ _ rfl bw d d k 1 rfl rfl Try.underlying22 (by kernel_rfl) (by omega)) ?_
  go_frame
  refine y_yield 12 (some 22) (.int .i64 W1) rfl (by kernel_rfl) (by kernel_rfl) (by kernel_rfl) (fun _ _ _ h => h) rfl rfl ⟨hB, hu, ku, hv, kv, hw, kw⟩ (fun w' h' => exec_load_one 2 _ rfl bw (k * 1) rfl (.int .i64 W1) _ Try.underlying2 rfl (cell_iar h'.2.2.2.2.2.2 HW1.out)) ?_
  go_frame
  refine y_yield 13 (some 23) (.int .i64 M2) rfl (by kernel_rfl) (by kernel_rfl) (by kernel_rfl) (fun _ _ _ h => h) rfl rfl ⟨hB, hu, ku, hv, kv, hw, kw⟩ (fun w' h' => exec_mul _ _ _ _ rfl M1 W1 M2 rfl rfl HM2.out) ?_
  go_frame
  refine y_oper 14 (by kernel_rfl) rfl rfl (fun K' hK' => ?_)
  refine wp_exec (some 9) rfl (.int .i64 M2) (exec_assign _ rfl (.int .i64 M2) rfl) ?_
  refine hK' _ _ ⟨hB, hu, ku, hv, kv, hw, kw⟩ (fun _ => trivial) ?_
  clear hK' K'
  go_frame
  refine y_done (by kernel_rfl) ?_ _
  go_wp2_with fail
  go_ret
  exact ⟨by rw [HR.out]; rfl, hB⟩
set_option maxHeartbeats 12800000 in
theorem sfYes_c (p : Int) (a b d : Nat) (bB oB c N : Nat) (xs : List Int) (w : World) (hX : RdI w (some ⟨bB, oB, none⟩) xs) (hxl : xs.length = N) (hs : tenB p a b d xs = true) (t0 : Nat) (ht : nzP xs t0) :
    Calls Try.prog 21 #[.agg #[.int .i64 p, .int .i64 a, .int .i64 b, .int .i64 d, .slice (some ⟨bB, oB, none⟩) N c]] w (fun e w' => ∃ g gu gv gw : Nat, e = .returned (.tuple #[.slice (some ⟨g, 0, none⟩) 3 3, .bool (sfB p a b d xs t0)]) ∧ (w.heap.size ≤ g ∧ w.heap.size ≤ gu ∧ w.heap.size ≤ gv ∧ w.heap.size ≤ gw) ∧ (gu ≠ gv ∧ gu ≠ gw ∧ gv ≠ gw) ∧ (gu ≠ g ∧ gv ≠ g ∧ gw ≠ g) ∧ At w' g (.cells #[.slice (some ⟨gu, 0, none⟩) a a, .slice (some ⟨gv, 0, none⟩) b b, .slice (some ⟨gw, 0, none⟩) d d] 22 (0, 0)) ∧ At w' gu (.cells (iar (sfU p a b d xs t0)) 2 (0, 0)) ∧ At w' gv (.cells (iar (sfV p b d xs t0)) 2 (0, 0)) ∧ At w' gw (.cells (iar (sfW b d xs t0)) 2 (0, 0)) ∧ Below w.heap.size w w') := by
  have hB := Below.refl w.heap.size w
  have hpp := (ten_parts hs).1
  have hp5 := prime_le5 hpp
  have hdm := (ten_parts hs).2
  have ha0 : 1 ≤ a ∧ a ≤ 9 := hdm.1
  have hb0 : 1 ≤ b ∧ b ≤ 9 := hdm.2.1
  have hd0 : 1 ≤ d ∧ d ≤ 9 := hdm.2.2.1
  have HN3 : Hid (a * b * d = N) := Lib.hid (by rw [← hxl]; exact hdm.2.2.2.1.symm)
  have HNb := Lib.hid hdm.2.2.2.2
  have hNb : N ≤ 729 := by rw [← HN3.out]; exact Nat.le_trans (Nat.mul_le_mul (Nat.mul_le_mul ha0.2 hb0.2) hd0.2) (by decide)
  have HXl := Lib.hid hxl
  have HIX : Hid (((t0 : Nat) : Int) = -1 ∧ nzN xs ∨ ∃ t : Nat, ((t0 : Nat) : Int) = t ∧ nzP xs t) := Lib.hid (.inr ⟨t0, rfl, ht⟩)
  have ht0N : t0 < N := by rw [← hxl]; exact ht.1
  obtain ⟨X, hXg⟩ : ∃ z9, xs[t0]? = some z9 := ⟨_, List.getElem?_eq_getElem ht.1⟩
  have hXb := inB_of HNb.out hXg
  have hXn : X ≠ 0 := by have := ht.2.1; rw [hXg] at this; exact this
  have HXg := Lib.hid hXg
  have hib := inv_range hpp (show 1 ≤ X by omega) hXb.2
  obtain ⟨IV, hIV⟩ : ∃ z9, inv p X = z9 := ⟨_, rfl⟩
  rw [hIV] at hib
  obtain ⟨M, hM⟩ : ∃ z9 : Nat, b * d = z9 := ⟨_, rfl⟩
  obtain ⟨I, hIe⟩ : ∃ z9 : Nat, t0 / M = z9 := ⟨_, rfl⟩
  obtain ⟨K1, hK1⟩ : ∃ z9 : Nat, t0 / d = z9 := ⟨_, rfl⟩
  obtain ⟨J, hJe⟩ : ∃ z9 : Nat, K1 % b = z9 := ⟨_, rfl⟩
  obtain ⟨K, hKe⟩ : ∃ z9 : Nat, t0 % d = z9 := ⟨_, rfl⟩
  have hIJK := pl_idx (t := t0) (a := a) (b := b) (d := d) (by rw [HN3.out]; exact ht0N) (by omega) (by omega)
  rw [hM, hIe, hK1, hJe, hKe] at hIJK
  obtain ⟨hI, hJ, hK⟩ := hIJK
  have hMb : 1 ≤ M ∧ M ≤ 81 := by rw [← hM]; exact ⟨Nat.mul_pos (by omega) (by omega), Nat.le_trans (Nat.mul_le_mul hb0.2 hd0.2) (by decide)⟩
  have HM : Hid (IntKind.i64.wrap ((b : Int) * (d : Int)) = (M : Int)) := Lib.hid (mwM_cast hM (by omega))
  have HI : Hid (IntKind.i64.wrap ((t0 : Int).tdiv (M : Int)) = (I : Int)) := Lib.hid (tqM_wrap hIe (by omega))
  have HK1 : Hid (IntKind.i64.wrap ((t0 : Int).tdiv (d : Int)) = (K1 : Int)) := Lib.hid (tqM_wrap hK1 (by omega))
  have HJ : Hid ((K1 : Int).tmod (b : Int) = (J : Int)) := Lib.hid (tmM_cast hJe)
  have HK : Hid ((t0 : Int).tmod (d : Int) = (K : Int)) := Lib.hid (tmM_cast hKe)
  have HIV := Lib.hid hIV
  obtain ⟨UL, hUS⟩ : ∃ z9, sfU p a b d xs t0 = z9 := ⟨_, rfl⟩
  obtain ⟨VL, hVS⟩ : ∃ z9, sfV p b d xs t0 = z9 := ⟨_, rfl⟩
  obtain ⟨WL, hWS⟩ : ∃ z9, sfW b d xs t0 = z9 := ⟨_, rfl⟩
  have hUL : facL (fun t => IV * nthI xs ((((t : Nat) : Int) * b + (J : Nat)) * d + (K : Nat)) % p) a = UL := by rw [← hUS]; simp only [sfU, hXg, Option.getD_some, hIV, hK1, hJe, hKe]
  have hVL : facL (fun t => IV * nthI xs ((((I : Nat) : Int) * b + (t : Nat)) * d + (K : Nat)) % p) b = VL := by rw [← hVS]; simp only [sfV, hXg, Option.getD_some, hIV, hM, hIe, hKe]
  have hWL : facL (fun t => nthI xs ((((I : Nat) : Int) * b + (J : Nat)) * d + (t : Nat))) d = WL := by rw [← hWS]; simp only [sfW, hM, hIe, hK1, hJe]
  have HLu : Hid (UL.length = a) := Lib.hid (by rw [← hUL]; exact facL_len _ _)
  have HLv : Hid (VL.length = b) := Lib.hid (by rw [← hVL]; exact facL_len _ _)
  have HLw : Hid (WL.length = d) := Lib.hid (by rw [← hWL]; exact facL_len _ _)
  have Hnn : Hid (AllIn p UL ∧ AllIn p VL ∧ AllIn p WL) := Lib.hid ⟨by rw [← hUL]; exact facL_in (fun t => ⟨Int.emod_nonneg _ (by omega), Int.emod_lt_of_pos _ (by omega)⟩) _, by rw [← hVL]; exact facL_in (fun t => ⟨Int.emod_nonneg _ (by omega), Int.emod_lt_of_pos _ (by omega)⟩) _, by rw [← hWL]; exact facL_in (fun t => nth_in HNb.out (by omega) _) _⟩
  obtain ⟨GL, hGL⟩ : ∃ z9, genL b d p (fun i j k => sfM UL VL WL i j k) (a * b * d) = z9 := ⟨_, rfl⟩
  have HGL := Lib.hid hGL
  have HGB : Hid (sfB p a b d xs t0 = (GL == xs)) := Lib.hid (by unfold sfB; rw [hUS, hVS, hWS, hGL])
  have HUS := Lib.hid hUS
  have HVS := Lib.hid hVS
  have HWS := Lib.hid hWS
  have HSa : Hid (sideB (a : Int) = true) := Lib.hid (by simp [sideB]; omega)
  have HSb : Hid (sideB (b : Int) = true) := Lib.hid (by simp [sideB]; omega)
  have HSd : Hid (sideB (d : Int) = true) := Lib.hid (by simp [sideB]; omega)
  have HUL := Lib.hid hUL
  have HVL := Lib.hid hVL
  have HWL := Lib.hid hWL
  clear hs hxl hdm ht hXg hIV hM hIe hK1 hJe hKe hUL hVL hWL hGL hUS hVS hWS
  go_enter Try.func21, Try.ntmps21
  go_upto_region 0 with (fail)
  refine wp_region_lit ?_
  refine ls_op rfl (fun K' hK' => ?_)
  have lz1 := hB.size
  refine wp_new (some 1) rfl (exec_box 28 _ rfl (#[.int .i64 p, .int .i64 a, .int .i64 b, .int .i64 d, .slice (some ⟨bB, oB, none⟩) N c]) rfl) (fun Wz2 nnz3 => ?_)
  have bz4 := nnz3.below (Below.refl _ _) (Nat.le_refl _)
  replace hB := below_after hB bz4
  have hz5 : At Wz2 w.heap.size (.cells #[.int .i64 p, .int .i64 a, .int .i64 b, .int .i64 d, .slice (some ⟨bB, oB, none⟩) N c] 28 (0, 0)) := nnz3.at_
  refine hK' _ _ ?_
  clear hK' K' nnz3 bz4
  go_frame
  refine ls_ex (some 2) (.slice none 0 0) rfl rfl (exec_assign _ rfl (.slice none 0 0) rfl) ?_
  go_frame
  refine ls_ex (some 3) (.bool false) rfl rfl (exec_assign _ rfl (.bool false) rfl) ?_
  go_frame
  refine wpList_nil ?_
  go_upto_region 1 with (fail)
  refine wp_region_lit ?_
  refine ls_ex (some 16) (.pointer (some ⟨w.heap.size, 4, none⟩)) rfl rfl (exec_fieldAddr 28 _ 4 rfl _ (by kernel_rfl)) ?_
  go_frame
  refine ls_ex (some 17) (.slice (some ⟨bB, oB, none⟩) N c) rfl rfl (exec_load_one 22 _ rfl w.heap.size 4 rfl (.slice (some ⟨bB, oB, none⟩) N c) _ Try.underlying22 rfl (hz5.at_ 4)) ?_
  go_frame
  refine ls_op rfl (fun K' hK' => ?_)
  have lz7 := hB.size
  have lz8 := hz5.lt
  refine wp_call2 (some 18) rfl 34 _ _ _ rfl (fun args w => by kernel_rfl) _ _ rfl rfl _ (indexSf_c (some ⟨bB, oB, none⟩) N c xs _ (hX.keep hB) HXl.out (by omega) (t0 : Nat) HIX.out) (fun e Wz6 h => ?_)
  obtain ⟨rfl, rfl⟩ := h
  refine ⟨_, rfl, ?_⟩
  refine hK' _ _ ?_
  clear hK' K'
  go_frame
  refine ls_ex (some 4) (.int .i64 (t0 : Nat)) rfl rfl (exec_assign _ rfl (.int .i64 (t0 : Nat)) rfl) ?_
  go_frame
  refine wpList_nil ?_
  go_upto_region 2 with (fail)
  refine wp_region_lit ?_
  refine ls_ex (some 19) (.int .i64 (t0 : Nat)) rfl rfl (exec_move _ rfl (.int .i64 (t0 : Nat)) rfl) ?_
  go_frame
  refine ls_ex (some 20) (.bool false) rfl rfl (exec_lss _ _ _ _ rfl ((t0 : Nat)) 0 rfl rfl false (decide_eq_false (by omega))) ?_
  go_frame
  refine wpList_nil ?_
  go_upto_region 4 with (fail)
  refine wp_region_y (zs := []) (S := fun w' => Below w.heap.size w w' ∧ At w' w.heap.size (.cells #[.int .i64 p, .int .i64 a, .int .i64 b, .int .i64 d, .slice (some ⟨bB, oB, none⟩) N c] 28 (0, 0))) (S2 := fun w' => True) (by kernel_rfl) ?_
  change wpAnyY _ _ _ _ _ _ _ _ _ _ (World.drew _)
  generalize hwdz9 : World.drew _ = wdz9
  replace hB : Below w.heap.size w wdz9 := by rw [← hwdz9]; exact hB.drew
  replace hz5 : At wdz9 w.heap.size (.cells #[.int .i64 p, .int .i64 a, .int .i64 b, .int .i64 d, .slice (some ⟨bB, oB, none⟩) N c] 28 (0, 0)) := by rw [← hwdz9]; exact hz5
  clear hwdz9
  refine y_yield 0 (some 21) (.int .i64 (t0 : Nat)) rfl (by kernel_rfl) (by kernel_rfl) (by kernel_rfl) (fun _ _ _ h => h) rfl rfl ⟨hB, hz5⟩ (fun w' h' => exec_move _ rfl (.int .i64 (t0 : Nat)) rfl) ?_
  go_frame
  refine y_yield 1 (some 22) (.pointer (some ⟨w.heap.size, 2, none⟩)) rfl (by kernel_rfl) (by kernel_rfl) (by kernel_rfl) (fun _ _ _ h => h) rfl rfl ⟨hB, hz5⟩ (fun w' h' => exec_fieldAddr 28 _ 2 rfl _ (by kernel_rfl)) ?_
  go_frame
  refine y_yield 2 (some 23) (.int .i64 b) rfl (by kernel_rfl) (by kernel_rfl) (by kernel_rfl) (fun _ _ _ h => h) rfl rfl ⟨hB, hz5⟩ (fun w' h' => exec_load_one 2 _ rfl w.heap.size 2 rfl (.int .i64 b) _ Try.underlying2 rfl (h'.2.at_ 2)) ?_
  go_frame
  refine y_yield 3 (some 24) (.pointer (some ⟨w.heap.size, 3, none⟩)) rfl (by kernel_rfl) (by kernel_rfl) (by kernel_rfl) (fun _ _ _ h => h) rfl rfl ⟨hB, hz5⟩ (fun w' h' => exec_fieldAddr 28 _ 3 rfl _ (by kernel_rfl)) ?_
  go_frame
  refine y_yield 4 (some 25) (.int .i64 d) rfl (by kernel_rfl) (by kernel_rfl) (by kernel_rfl) (fun _ _ _ h => h) rfl rfl ⟨hB, hz5⟩ (fun w' h' => exec_load_one 2 _ rfl w.heap.size 3 rfl (.int .i64 d) _ Try.underlying2 rfl (h'.2.at_ 3)) ?_
  go_frame
  refine y_yield 5 (some 26) (.int .i64 M) rfl (by kernel_rfl) (by kernel_rfl) (by kernel_rfl) (fun _ _ _ h => h) rfl rfl ⟨hB, hz5⟩ (fun w' h' => exec_mul _ _ _ _ rfl b d M rfl rfl HM.out) ?_
  go_frame
  refine y_yield 6 (some 27) (.int .i64 I) rfl (by kernel_rfl) (by kernel_rfl) (by kernel_rfl) (fun _ _ _ h => h) rfl rfl ⟨hB, hz5⟩ (fun w' h' => exec_quo _ _ _ _ rfl t0 M I rfl rfl (by omega) HI.out) ?_
  go_frame
  refine y_yield 7 (some 28) (.int .i64 (t0 : Nat)) rfl (by kernel_rfl) (by kernel_rfl) (by kernel_rfl) (fun _ _ _ h => h) rfl rfl ⟨hB, hz5⟩ (fun w' h' => exec_move _ rfl (.int .i64 (t0 : Nat)) rfl) ?_
  go_frame
  refine y_yield 8 (some 29) (.pointer (some ⟨w.heap.size, 3, none⟩)) rfl (by kernel_rfl) (by kernel_rfl) (by kernel_rfl) (fun _ _ _ h => h) rfl rfl ⟨hB, hz5⟩ (fun w' h' => exec_fieldAddr 28 _ 3 rfl _ (by kernel_rfl)) ?_
  go_frame
  refine y_yield 9 (some 30) (.int .i64 d) rfl (by kernel_rfl) (by kernel_rfl) (by kernel_rfl) (fun _ _ _ h => h) rfl rfl ⟨hB, hz5⟩ (fun w' h' => exec_load_one 2 _ rfl w.heap.size 3 rfl (.int .i64 d) _ Try.underlying2 rfl (h'.2.at_ 3)) ?_
  go_frame
  refine y_yield 10 (some 31) (.int .i64 K1) rfl (by kernel_rfl) (by kernel_rfl) (by kernel_rfl) (fun _ _ _ h => h) rfl rfl ⟨hB, hz5⟩ (fun w' h' => exec_quo _ _ _ _ rfl t0 d K1 rfl rfl (by omega) HK1.out) ?_
  go_frame
  refine y_yield 11 (some 32) (.pointer (some ⟨w.heap.size, 2, none⟩)) rfl (by kernel_rfl) (by kernel_rfl) (by kernel_rfl) (fun _ _ _ h => h) rfl rfl ⟨hB, hz5⟩ (fun w' h' => exec_fieldAddr 28 _ 2 rfl _ (by kernel_rfl)) ?_
  go_frame
  refine y_yield 12 (some 33) (.int .i64 b) rfl (by kernel_rfl) (by kernel_rfl) (by kernel_rfl) (fun _ _ _ h => h) rfl rfl ⟨hB, hz5⟩ (fun w' h' => exec_load_one 2 _ rfl w.heap.size 2 rfl (.int .i64 b) _ Try.underlying2 rfl (h'.2.at_ 2)) ?_
  go_frame
  refine y_yield 13 (some 34) (.int .i64 J) rfl (by kernel_rfl) (by kernel_rfl) (by kernel_rfl) (fun _ _ _ h => h) rfl rfl ⟨hB, hz5⟩ (fun w' h' => exec_rem _ _ _ _ rfl K1 b J rfl rfl (by omega) HJ.out) ?_
  go_frame
  refine y_yield 14 (some 35) (.int .i64 (t0 : Nat)) rfl (by kernel_rfl) (by kernel_rfl) (by kernel_rfl) (fun _ _ _ h => h) rfl rfl ⟨hB, hz5⟩ (fun w' h' => exec_move _ rfl (.int .i64 (t0 : Nat)) rfl) ?_
  go_frame
  refine y_yield 15 (some 36) (.pointer (some ⟨w.heap.size, 3, none⟩)) rfl (by kernel_rfl) (by kernel_rfl) (by kernel_rfl) (fun _ _ _ h => h) rfl rfl ⟨hB, hz5⟩ (fun w' h' => exec_fieldAddr 28 _ 3 rfl _ (by kernel_rfl)) ?_
  go_frame
  refine y_yield 16 (some 37) (.int .i64 d) rfl (by kernel_rfl) (by kernel_rfl) (by kernel_rfl) (fun _ _ _ h => h) rfl rfl ⟨hB, hz5⟩ (fun w' h' => exec_load_one 2 _ rfl w.heap.size 3 rfl (.int .i64 d) _ Try.underlying2 rfl (h'.2.at_ 3)) ?_
  go_frame
  refine y_yield 17 (some 38) (.int .i64 K) rfl (by kernel_rfl) (by kernel_rfl) (by kernel_rfl) (fun _ _ _ h => h) rfl rfl ⟨hB, hz5⟩ (fun w' h' => exec_rem _ _ _ _ rfl t0 d K rfl rfl (by omega) HK.out) ?_
  go_frame
  refine y_oper 18 (by kernel_rfl) rfl rfl (fun K' hK' => ?_)
  refine wp_exec (some 5) rfl (.int .i64 I) (exec_assign _ rfl (.int .i64 I) rfl) ?_
  refine hK' _ _ ⟨hB, hz5⟩ (fun _ => trivial) ?_
  clear hK' K'
  go_frame
  refine y_oper 19 (by kernel_rfl) rfl rfl (fun K' hK' => ?_)
  refine wp_exec (some 6) rfl (.int .i64 J) (exec_assign _ rfl (.int .i64 J) rfl) ?_
  refine hK' _ _ ⟨hB, hz5⟩ (fun _ => trivial) ?_
  clear hK' K'
  go_frame
  refine y_oper 20 (by kernel_rfl) rfl rfl (fun K' hK' => ?_)
  refine wp_exec (some 7) rfl (.int .i64 K) (exec_assign _ rfl (.int .i64 K) rfl) ?_
  refine hK' _ _ ⟨hB, hz5⟩ (fun _ => trivial) ?_
  clear hK' K'
  go_frame
  refine y_done (by kernel_rfl) ?_ _
  go_upto_region 5 with (fail)
  refine wp_region_y (zs := []) (S := fun w' => Below w.heap.size w w' ∧ At w' w.heap.size (.cells #[.int .i64 p, .int .i64 a, .int .i64 b, .int .i64 d, .slice (some ⟨bB, oB, none⟩) N c] 28 (0, 0))) (S2 := fun w' => True) (by kernel_rfl) ?_
  change wpAnyY _ _ _ _ _ _ _ _ _ _ (World.drew _)
  generalize hwdz10 : World.drew _ = wdz10
  replace hB : Below w.heap.size w wdz10 := by rw [← hwdz10]; exact hB.drew
  replace hz5 : At wdz10 w.heap.size (.cells #[.int .i64 p, .int .i64 a, .int .i64 b, .int .i64 d, .slice (some ⟨bB, oB, none⟩) N c] 28 (0, 0)) := by rw [← hwdz10]; exact hz5
  clear hwdz10
  refine y_yield 0 (some 39) (.pointer (some ⟨w.heap.size, 0, none⟩)) rfl (by kernel_rfl) (by kernel_rfl) (by kernel_rfl) (fun _ _ _ h => h) rfl rfl ⟨hB, hz5⟩ (fun w' h' => exec_fieldAddr 28 _ 0 rfl _ (by kernel_rfl)) ?_
  go_frame
  refine y_yield 1 (some 40) (.int .i64 p) rfl (by kernel_rfl) (by kernel_rfl) (by kernel_rfl) (fun _ _ _ h => h) rfl rfl ⟨hB, hz5⟩ (fun w' h' => exec_load_one 2 _ rfl w.heap.size 0 rfl (.int .i64 p) _ Try.underlying2 rfl (h'.2.at_ 0)) ?_
  go_frame
  refine y_yield 2 (some 41) (.pointer (some ⟨w.heap.size, 4, none⟩)) rfl (by kernel_rfl) (by kernel_rfl) (by kernel_rfl) (fun _ _ _ h => h) rfl rfl ⟨hB, hz5⟩ (fun w' h' => exec_fieldAddr 28 _ 4 rfl _ (by kernel_rfl)) ?_
  go_frame
  refine y_yield 3 (some 42) (.slice (some ⟨bB, oB, none⟩) N c) rfl (by kernel_rfl) (by kernel_rfl) (by kernel_rfl) (fun _ _ _ h => h) rfl rfl ⟨hB, hz5⟩ (fun w' h' => exec_load_one 22 _ rfl w.heap.size 4 rfl (.slice (some ⟨bB, oB, none⟩) N c) _ Try.underlying22 rfl (h'.2.at_ 4)) ?_
  go_frame
  refine y_yield 4 (some 43) (.int .i64 (t0 : Nat)) rfl (by kernel_rfl) (by kernel_rfl) (by kernel_rfl) (fun _ _ _ h => h) rfl rfl ⟨hB, hz5⟩ (fun w' h' => exec_move _ rfl (.int .i64 (t0 : Nat)) rfl) ?_
  go_frame
  refine y_yield 5 (some 44) (.pointer (some ⟨bB, oB + t0 * 1, none⟩)) rfl (by kernel_rfl) (by kernel_rfl) (by kernel_rfl) (fun _ _ _ h => h) rfl rfl ⟨hB, hz5⟩ (fun w' h' => exec_index_slice _ 2 _ _ rfl bB oB N c t0 1 rfl rfl Try.underlying22 (by kernel_rfl) ht0N) ?_
  go_frame
  refine y_yield 6 (some 45) (.int .i64 X) rfl (by kernel_rfl) (by kernel_rfl) (by kernel_rfl) (fun _ _ _ h => h) rfl rfl ⟨hB, hz5⟩ (fun w' h' => exec_load_one 2 _ rfl bB (oB + t0 * 1) rfl (.int .i64 X) _ Try.underlying2 rfl (RdI.c1S (hX.keep h'.1) HXg.out)) ?_
  go_frame
  refine y_oper 7 (by kernel_rfl) rfl rfl (fun K' hK' => ?_)
  have lz13 := hB.size
  have lz14 := hz5.lt
  refine wp_call2 (some 46) rfl 36 _ _ _ rfl (fun args w => by kernel_rfl) _ _ rfl rfl _ (inverseOf_c p X _ hpp (by omega) (by omega)) (fun e Wz11 h => ?_)
  obtain ⟨rfl, rfl⟩ := h
  rw [HIV.out]
  refine ⟨_, rfl, ?_⟩
  refine hK' _ _ ⟨hB, hz5⟩ (fun _ => trivial) ?_
  clear hK' K'
  go_frame
  refine y_oper 8 (by kernel_rfl) rfl rfl (fun K' hK' => ?_)
  refine wp_exec (some 8) rfl (.int .i64 IV) (exec_assign _ rfl (.int .i64 IV) rfl) ?_
  refine hK' _ _ ⟨hB, hz5⟩ (fun _ => trivial) ?_
  clear hK' K'
  go_frame
  refine y_done (by kernel_rfl) ?_ _
  go_upto_region 6 with (fail)
  have lz15 := hB.size
  have lz16 := hz5.lt
  have hBC : BC (fun W => Below wdz10.heap.size wdz10 W) (wdz10.heap.size) := bc_below wdz10
  have hJ : InjA (alOf2 [(2, { s := 1000, z := .cells (iar (List.replicate a 0)) 2 (0, 0), j := 2, f := fun _ => .cells (iar (List.replicate a 0)) 2 (0, 0), m := fun bq => .slice (some ⟨bq, 0, none⟩) a a }), (5, { s := 1000, z := .cells (iar (List.replicate b 0)) 2 (0, 0), j := 5, f := fun _ => .cells (iar (List.replicate b 0)) 2 (0, 0), m := fun bq => .slice (some ⟨bq, 0, none⟩) b b }), (8, { s := 1000, z := .cells (iar (List.replicate d 0)) 2 (0, 0), j := 8, f := fun _ => .cells (iar (List.replicate d 0)) 2 (0, 0), m := fun bq => .slice (some ⟨bq, 0, none⟩) d d }), (9, { s := 12, z := .cells #[.slice none 0 0] 22 (0, 0), j := 2, f := fun v => .cells #[v] 22 (0, 0), m := fun bq => .pointer (some ⟨bq, 0, none⟩) }), (10, { s := 13, z := .cells #[.slice none 0 0] 22 (0, 0), j := 5, f := fun v => .cells #[v] 22 (0, 0), m := fun bq => .pointer (some ⟨bq, 0, none⟩) }), (11, { s := 14, z := .cells #[.slice none 0 0] 22 (0, 0), j := 8, f := fun v => .cells #[v] 22 (0, 0), m := fun bq => .pointer (some ⟨bq, 0, none⟩) })]) := fun i a h bq bq2 e => by
    have h9 := alOf2_mem h
    simp only [List.mem_cons, Prod.mk.injEq, List.not_mem_nil, or_false] at h9
    rcases h9 with ⟨_, rfl⟩ | ⟨_, rfl⟩ | ⟨_, rfl⟩ | ⟨_, rfl⟩ | ⟨_, rfl⟩ | ⟨_, rfl⟩
    all_goals first | exact inj_ptr e | exact inj_slice e
  refine wp_region_inv (by kernel_rfl) (by kernel_rfl) (by kernel_rfl) (RI2 (fun W => Below wdz10.heap.size wdz10 W) (wdz10.heap.size) (valOf [(0, .pointer (some ⟨w.heap.size, 1, none⟩)), (1, .int .i64 a), (3, .pointer (some ⟨w.heap.size, 2, none⟩)), (4, .int .i64 b), (6, .pointer (some ⟨w.heap.size, 3, none⟩)), (7, .int .i64 d)]) (alOf2 [(2, { s := 1000, z := .cells (iar (List.replicate a 0)) 2 (0, 0), j := 2, f := fun _ => .cells (iar (List.replicate a 0)) 2 (0, 0), m := fun bq => .slice (some ⟨bq, 0, none⟩) a a }), (5, { s := 1000, z := .cells (iar (List.replicate b 0)) 2 (0, 0), j := 5, f := fun _ => .cells (iar (List.replicate b 0)) 2 (0, 0), m := fun bq => .slice (some ⟨bq, 0, none⟩) b b }), (8, { s := 1000, z := .cells (iar (List.replicate d 0)) 2 (0, 0), j := 8, f := fun _ => .cells (iar (List.replicate d 0)) 2 (0, 0), m := fun bq => .slice (some ⟨bq, 0, none⟩) d d }), (9, { s := 12, z := .cells #[.slice none 0 0] 22 (0, 0), j := 2, f := fun v => .cells #[v] 22 (0, 0), m := fun bq => .pointer (some ⟨bq, 0, none⟩) }), (10, { s := 13, z := .cells #[.slice none 0 0] 22 (0, 0), j := 5, f := fun v => .cells #[v] 22 (0, 0), m := fun bq => .pointer (some ⟨bq, 0, none⟩) }), (11, { s := 14, z := .cells #[.slice none 0 0] 22 (0, 0), j := 8, f := fun v => .cells #[v] 22 (0, 0), m := fun bq => .pointer (some ⟨bq, 0, none⟩) })])) (RI2.start (Below.refl _ _).drew) 15 rfl ?_ ?_
  case refine_1 =>
    refine StepsOK.succ (StepsOK.succ (StepsOK.succ (StepsOK.succ (StepsOK.succ (StepsOK.succ (StepsOK.succ (StepsOK.succ (StepsOK.succ (StepsOK.succ (StepsOK.succ (StepsOK.succ (StepsOK.succ (StepsOK.succ (StepsOK.succ (StepsOK.zero) ?_) ?_) ?_) ?_) ?_) ?_) ?_) ?_) ?_) ?_) ?_) ?_) ?_) ?_) ?_
    · exact step_pure2 hBC 0 (by decide) _ rfl rfl [] (by kernel_rfl) (.pointer (some ⟨w.heap.size, 1, none⟩)) rfl rfl (notStore2_of rfl) (fun L vals W hd hI => exec_fieldAddr_x 28 _ 1 rfl _ (slot_old (by kernel_rfl) rfl) _ (by kernel_rfl))
    · exact step_pure2 hBC 1 (by decide) _ rfl rfl [0] (by kernel_rfl) (.int .i64 a) rfl rfl (notStore2_of rfl) (fun L vals W hd hI => exec_load_one 2 _ rfl w.heap.size 1 (hI.slot (by kernel_rfl) (j := 0) (t := 47) (by kernel_rfl) (hd 0 (by simp)) (of_decide_eq_true rfl) (of_decide_eq_true (by kernel_rfl)) rfl) (.int .i64 a) _ Try.underlying2 rfl ((hz5.after hI.base).at_ 1))
    · exact step_alloc2 hBC hJ 2 (by decide) _ rfl rfl [1, 1] (by kernel_rfl) { s := 1000, z := .cells (iar (List.replicate a 0)) 2 (0, 0), j := 2, f := fun _ => .cells (iar (List.replicate a 0)) 2 (0, 0), m := fun bq => .slice (some ⟨bq, 0, none⟩) a a } rfl rfl (show (1000 : Nat) ≠ 2 by decide) (.inr (show (500 : Nat) ≤ 1000 by decide)) (notStore2_of rfl) (fun L vals W K hd hI hK => wp_make_I (some 49) rfl _ _ rfl a (hI.slot (by kernel_rfl) (j := 1) (t := 48) (by kernel_rfl) (hd 1 (by simp)) (of_decide_eq_true rfl) (of_decide_eq_true (by kernel_rfl)) rfl) (hI.slot (by kernel_rfl) (j := 1) (t := 48) (by kernel_rfl) (hd 1 (by simp)) (of_decide_eq_true rfl) (of_decide_eq_true (by kernel_rfl)) rfl) (by omega) hK)
    · exact step_pure2 hBC 3 (by decide) _ rfl rfl [] (by kernel_rfl) (.pointer (some ⟨w.heap.size, 2, none⟩)) rfl rfl (notStore2_of rfl) (fun L vals W hd hI => exec_fieldAddr_x 28 _ 2 rfl _ (slot_old (by kernel_rfl) rfl) _ (by kernel_rfl))
    · exact step_pure2 hBC 4 (by decide) _ rfl rfl [3] (by kernel_rfl) (.int .i64 b) rfl rfl (notStore2_of rfl) (fun L vals W hd hI => exec_load_one 2 _ rfl w.heap.size 2 (hI.slot (by kernel_rfl) (j := 3) (t := 50) (by kernel_rfl) (hd 3 (by simp)) (of_decide_eq_true rfl) (of_decide_eq_true (by kernel_rfl)) rfl) (.int .i64 b) _ Try.underlying2 rfl ((hz5.after hI.base).at_ 2))
    · exact step_alloc2 hBC hJ 5 (by decide) _ rfl rfl [4, 4] (by kernel_rfl) { s := 1000, z := .cells (iar (List.replicate b 0)) 2 (0, 0), j := 5, f := fun _ => .cells (iar (List.replicate b 0)) 2 (0, 0), m := fun bq => .slice (some ⟨bq, 0, none⟩) b b } rfl rfl (show (1000 : Nat) ≠ 5 by decide) (.inr (show (500 : Nat) ≤ 1000 by decide)) (notStore2_of rfl) (fun L vals W K hd hI hK => wp_make_I (some 52) rfl _ _ rfl b (hI.slot (by kernel_rfl) (j := 4) (t := 51) (by kernel_rfl) (hd 4 (by simp)) (of_decide_eq_true rfl) (of_decide_eq_true (by kernel_rfl)) rfl) (hI.slot (by kernel_rfl) (j := 4) (t := 51) (by kernel_rfl) (hd 4 (by simp)) (of_decide_eq_true rfl) (of_decide_eq_true (by kernel_rfl)) rfl) (by omega) hK)
    · exact step_pure2 hBC 6 (by decide) _ rfl rfl [] (by kernel_rfl) (.pointer (some ⟨w.heap.size, 3, none⟩)) rfl rfl (notStore2_of rfl) (fun L vals W hd hI => exec_fieldAddr_x 28 _ 3 rfl _ (slot_old (by kernel_rfl) rfl) _ (by kernel_rfl))
    · exact step_pure2 hBC 7 (by decide) _ rfl rfl [6] (by kernel_rfl) (.int .i64 d) rfl rfl (notStore2_of rfl) (fun L vals W hd hI => exec_load_one 2 _ rfl w.heap.size 3 (hI.slot (by kernel_rfl) (j := 6) (t := 53) (by kernel_rfl) (hd 6 (by simp)) (of_decide_eq_true rfl) (of_decide_eq_true (by kernel_rfl)) rfl) (.int .i64 d) _ Try.underlying2 rfl ((hz5.after hI.base).at_ 3))
    · exact step_alloc2 hBC hJ 8 (by decide) _ rfl rfl [7, 7] (by kernel_rfl) { s := 1000, z := .cells (iar (List.replicate d 0)) 2 (0, 0), j := 8, f := fun _ => .cells (iar (List.replicate d 0)) 2 (0, 0), m := fun bq => .slice (some ⟨bq, 0, none⟩) d d } rfl rfl (show (1000 : Nat) ≠ 8 by decide) (.inr (show (500 : Nat) ≤ 1000 by decide)) (notStore2_of rfl) (fun L vals W K hd hI hK => wp_make_I (some 55) rfl _ _ rfl d (hI.slot (by kernel_rfl) (j := 7) (t := 54) (by kernel_rfl) (hd 7 (by simp)) (of_decide_eq_true rfl) (of_decide_eq_true (by kernel_rfl)) rfl) (hI.slot (by kernel_rfl) (j := 7) (t := 54) (by kernel_rfl) (hd 7 (by simp)) (of_decide_eq_true rfl) (of_decide_eq_true (by kernel_rfl)) rfl) (by omega) hK)
    · exact step_alloc2 hBC hJ 9 (by decide) _ rfl rfl [] (by kernel_rfl) { s := 12, z := .cells #[.slice none 0 0] 22 (0, 0), j := 2, f := fun v => .cells #[v] 22 (0, 0), m := fun bq => .pointer (some ⟨bq, 0, none⟩) } rfl rfl (show (12 : Nat) ≠ 9 by decide) (.inl (by kernel_rfl)) (notStore2_of rfl) (fun L vals W K hd hI hK => wp_new (some 9) rfl (al_sliceI rfl) hK)
    · exact step_alloc2 hBC hJ 10 (by decide) _ rfl rfl [] (by kernel_rfl) { s := 13, z := .cells #[.slice none 0 0] 22 (0, 0), j := 5, f := fun v => .cells #[v] 22 (0, 0), m := fun bq => .pointer (some ⟨bq, 0, none⟩) } rfl rfl (show (13 : Nat) ≠ 10 by decide) (.inl (by kernel_rfl)) (notStore2_of rfl) (fun L vals W K hd hI hK => wp_new (some 10) rfl (al_sliceI rfl) hK)
    · exact step_alloc2 hBC hJ 11 (by decide) _ rfl rfl [] (by kernel_rfl) { s := 14, z := .cells #[.slice none 0 0] 22 (0, 0), j := 8, f := fun v => .cells #[v] 22 (0, 0), m := fun bq => .pointer (some ⟨bq, 0, none⟩) } rfl rfl (show (14 : Nat) ≠ 11 by decide) (.inl (by kernel_rfl)) (notStore2_of rfl) (fun L vals W K hd hI hK => wp_new (some 11) rfl (al_sliceI rfl) hK)
    · refine step_store2 hBC 12 (by decide) _ rfl rfl [9, 2, 0, 1, 2, 9, 10, 11] (by kernel_rfl) rfl 9 (by simp) { s := 12, z := .cells #[.slice none 0 0] 22 (0, 0), j := 2, f := fun v => .cells #[v] 22 (0, 0), m := fun bq => .pointer (some ⟨bq, 0, none⟩) } rfl (show (2 : Nat) ∈ [9, 2, 0, 1, 2, 9, 10, 11] by simp) rfl rfl rfl (uniq2_of rfl) (fun L vals W bq K hd hI hb hAt hK => ?_)
      obtain ⟨b2, e2, _, _⟩ := hI.blk 2 _ (hd 2 (by simp)) rfl
      refine wp_store_one 22 _ _ rfl rfl bq 0 (slot_al (by kernel_rfl) (j := 9) (t := 9) (by kernel_rfl) (hd 9 (by simp)) (of_decide_eq_true rfl) (of_decide_eq_true (by kernel_rfl)) hb) (.slice (some ⟨b2, 0, none⟩) a a) (slot_al (by kernel_rfl) (j := 2) (t := 49) (by kernel_rfl) (hd 2 (by simp)) (of_decide_eq_true rfl) (of_decide_eq_true (by kernel_rfl)) e2) rfl rfl _ _ hAt (by kernel_rfl) (by simp) (fun w' p => hK w' ?_)
      show Put W w' bq (.cells #[vals 2] 22 (0, 0))
      rw [e2]
      exact p
    · refine step_store2 hBC 13 (by decide) _ rfl rfl [10, 5, 12, 0, 1, 2, 3, 4, 5, 9, 10, 11, 12] (by kernel_rfl) rfl 10 (by simp) { s := 13, z := .cells #[.slice none 0 0] 22 (0, 0), j := 5, f := fun v => .cells #[v] 22 (0, 0), m := fun bq => .pointer (some ⟨bq, 0, none⟩) } rfl (show (5 : Nat) ∈ [10, 5, 12, 0, 1, 2, 3, 4, 5, 9, 10, 11, 12] by simp) rfl rfl rfl (uniq2_of rfl) (fun L vals W bq K hd hI hb hAt hK => ?_)
      obtain ⟨b2, e2, _, _⟩ := hI.blk 5 _ (hd 5 (by simp)) rfl
      refine wp_store_one 22 _ _ rfl rfl bq 0 (slot_al (by kernel_rfl) (j := 10) (t := 10) (by kernel_rfl) (hd 10 (by simp)) (of_decide_eq_true rfl) (of_decide_eq_true (by kernel_rfl)) hb) (.slice (some ⟨b2, 0, none⟩) b b) (slot_al (by kernel_rfl) (j := 5) (t := 52) (by kernel_rfl) (hd 5 (by simp)) (of_decide_eq_true rfl) (of_decide_eq_true (by kernel_rfl)) e2) rfl rfl _ _ hAt (by kernel_rfl) (by simp) (fun w' p => hK w' ?_)
      show Put W w' bq (.cells #[vals 5] 22 (0, 0))
      rw [e2]
      exact p
    · refine step_store2 hBC 14 (by decide) _ rfl rfl [11, 8, 13, 0, 1, 2, 3, 4, 5, 6, 7, 8, 9, 10, 11, 12, 13] (by kernel_rfl) rfl 11 (by simp) { s := 14, z := .cells #[.slice none 0 0] 22 (0, 0), j := 8, f := fun v => .cells #[v] 22 (0, 0), m := fun bq => .pointer (some ⟨bq, 0, none⟩) } rfl (show (8 : Nat) ∈ [11, 8, 13, 0, 1, 2, 3, 4, 5, 6, 7, 8, 9, 10, 11, 12, 13] by simp) rfl rfl rfl (uniq2_of rfl) (fun L vals W bq K hd hI hb hAt hK => ?_)
      obtain ⟨b2, e2, _, _⟩ := hI.blk 8 _ (hd 8 (by simp)) rfl
      refine wp_store_one 22 _ _ rfl rfl bq 0 (slot_al (by kernel_rfl) (j := 11) (t := 11) (by kernel_rfl) (hd 11 (by simp)) (of_decide_eq_true rfl) (of_decide_eq_true (by kernel_rfl)) hb) (.slice (some ⟨b2, 0, none⟩) d d) (slot_al (by kernel_rfl) (j := 8) (t := 55) (by kernel_rfl) (hd 8 (by simp)) (of_decide_eq_true rfl) (of_decide_eq_true (by kernel_rfl)) e2) rfl rfl _ _ hAt (by kernel_rfl) (by simp) (fun w' p => hK w' ?_)
      show Put W w' bq (.cells #[vals 8] 22 (0, 0))
      rw [e2]
      exact p
  case refine_2 =>
  intro L vals wz hall hI
  obtain ⟨br49, er49, lr49, hr49⟩ := hI.blk 2 _ (hall 2 (by omega)) rfl
  dsimp only at er49 hr49
  rw [ite_self] at hr49
  obtain ⟨br52, er52, lr52, hr52⟩ := hI.blk 5 _ (hall 5 (by omega)) rfl
  dsimp only at er52 hr52
  rw [ite_self] at hr52
  obtain ⟨br55, er55, lr55, hr55⟩ := hI.blk 8 _ (hall 8 (by omega)) rfl
  dsimp only at er55 hr55
  rw [ite_self] at hr55
  obtain ⟨br9, er9, lr9, hr9⟩ := hI.blk 9 _ (hall 9 (by omega)) rfl
  dsimp only at er9 hr9
  rw [if_pos (hall 12 (by omega)), er49] at hr9
  obtain ⟨br10, er10, lr10, hr10⟩ := hI.blk 10 _ (hall 10 (by omega)) rfl
  dsimp only at er10 hr10
  rw [if_pos (hall 13 (by omega)), er52] at hr10
  obtain ⟨br11, er11, lr11, hr11⟩ := hI.blk 11 _ (hall 11 (by omega)) rfl
  dsimp only at er11 hr11
  rw [if_pos (hall 14 (by omega)), er55] at hr11
  have nr49_52 : br49 ≠ br52 := hI.dis 2 5 _ _ _ _ (by omega) (hall 2 (by omega)) (hall 5 (by omega)) rfl rfl er49 er52
  have nr49_55 : br49 ≠ br55 := hI.dis 2 8 _ _ _ _ (by omega) (hall 2 (by omega)) (hall 8 (by omega)) rfl rfl er49 er55
  have nr49_9 : br49 ≠ br9 := hI.dis 2 9 _ _ _ _ (by omega) (hall 2 (by omega)) (hall 9 (by omega)) rfl rfl er49 er9
  have nr49_10 : br49 ≠ br10 := hI.dis 2 10 _ _ _ _ (by omega) (hall 2 (by omega)) (hall 10 (by omega)) rfl rfl er49 er10
  have nr49_11 : br49 ≠ br11 := hI.dis 2 11 _ _ _ _ (by omega) (hall 2 (by omega)) (hall 11 (by omega)) rfl rfl er49 er11
  have nr52_55 : br52 ≠ br55 := hI.dis 5 8 _ _ _ _ (by omega) (hall 5 (by omega)) (hall 8 (by omega)) rfl rfl er52 er55
  have nr52_9 : br52 ≠ br9 := hI.dis 5 9 _ _ _ _ (by omega) (hall 5 (by omega)) (hall 9 (by omega)) rfl rfl er52 er9
  have nr52_10 : br52 ≠ br10 := hI.dis 5 10 _ _ _ _ (by omega) (hall 5 (by omega)) (hall 10 (by omega)) rfl rfl er52 er10
  have nr52_11 : br52 ≠ br11 := hI.dis 5 11 _ _ _ _ (by omega) (hall 5 (by omega)) (hall 11 (by omega)) rfl rfl er52 er11
  have nr55_9 : br55 ≠ br9 := hI.dis 8 9 _ _ _ _ (by omega) (hall 8 (by omega)) (hall 9 (by omega)) rfl rfl er55 er9
  have nr55_10 : br55 ≠ br10 := hI.dis 8 10 _ _ _ _ (by omega) (hall 8 (by omega)) (hall 10 (by omega)) rfl rfl er55 er10
  have nr55_11 : br55 ≠ br11 := hI.dis 8 11 _ _ _ _ (by omega) (hall 8 (by omega)) (hall 11 (by omega)) rfl rfl er55 er11
  have nr9_10 : br9 ≠ br10 := hI.dis 9 10 _ _ _ _ (by omega) (hall 9 (by omega)) (hall 10 (by omega)) rfl rfl er9 er10
  have nr9_11 : br9 ≠ br11 := hI.dis 9 11 _ _ _ _ (by omega) (hall 9 (by omega)) (hall 11 (by omega)) rfl rfl er9 er11
  have nr10_11 : br10 ≠ br11 := hI.dis 10 11 _ _ _ _ (by omega) (hall 10 (by omega)) (hall 11 (by omega)) rfl rfl er10 er11
  rw [putAll_step (n := 14) rfl (hall 14 (by omega)) (d := none) rfl rfl, putAll_step (n := 13) rfl (hall 13 (by omega)) (d := none) rfl rfl, putAll_step (n := 12) rfl (hall 12 (by omega)) (d := none) rfl rfl, putAll_step (n := 11) rfl (hall 11 (by omega)) (d := (some 11)) rfl er11, putAll_step (n := 10) rfl (hall 10 (by omega)) (d := (some 10)) rfl er10, putAll_step (n := 9) rfl (hall 9 (by omega)) (d := (some 9)) rfl er9, putAll_step (n := 8) rfl (hall 8 (by omega)) (d := (some 55)) rfl er55, putAll_step (n := 7) rfl (hall 7 (by omega)) (d := (some 54)) rfl (hI.val_ 7 _ (hall 7 (by omega)) rfl), putAll_step (n := 6) rfl (hall 6 (by omega)) (d := (some 53)) rfl (hI.val_ 6 _ (hall 6 (by omega)) rfl), putAll_step (n := 5) rfl (hall 5 (by omega)) (d := (some 52)) rfl er52, putAll_step (n := 4) rfl (hall 4 (by omega)) (d := (some 51)) rfl (hI.val_ 4 _ (hall 4 (by omega)) rfl), putAll_step (n := 3) rfl (hall 3 (by omega)) (d := (some 50)) rfl (hI.val_ 3 _ (hall 3 (by omega)) rfl), putAll_step (n := 2) rfl (hall 2 (by omega)) (d := (some 49)) rfl er49, putAll_step (n := 1) rfl (hall 1 (by omega)) (d := (some 48)) rfl (hI.val_ 1 _ (hall 1 (by omega)) rfl), putAll_step (n := 0) rfl (hall 0 (by omega)) (d := (some 47)) rfl (hI.val_ 0 _ (hall 0 (by omega)) rfl), putAll_zero]
  have hbase := hI.base
  clear hI hall hBC hJ er49 er52 er55 er9 er10 er11
  go_frame
  replace hB := below_after hB hbase
  replace hz5 := hz5.after hbase
  clear hbase
  go_upto_region 7 with (fail)
  refine wp_region_lit ?_
  refine ls_ex (some 56) (.slice (some ⟨br49, 0, none⟩) a a) rfl rfl (exec_load_one 22 _ rfl br9 0 rfl (.slice (some ⟨br49, 0, none⟩) a a) _ Try.underlying22 rfl (hr9.at_ 0)) ?_
  go_frame
  refine ls_ex (some 57) (.int .i64 a) rfl rfl (exec_len _ 22 2 rfl ((some ⟨br49, 0, none⟩)) a a rfl Try.underlying22) ?_
  go_frame
  refine ls_ex (some 58) (.int .i64 0) rfl rfl (exec_move _ rfl (.int .i64 0) rfl) ?_
  go_frame
  refine wpList_nil ?_
  go_wp2_with fail
  go_loopw [58] (fun s58 wr => ∃ t : Nat, t ≤ a ∧ s58 = .int .i64 t ∧ Below w.heap.size w wr ∧ At wr w.heap.size (.cells #[.int .i64 p, .int .i64 a, .int .i64 b, .int .i64 d, .slice (some ⟨bB, oB, none⟩) N c] 28 (0, 0)) ∧ At wr br9 (.cells #[.slice (some ⟨br49, 0, none⟩) a a] 22 (0, 0)) ∧ At wr br10 (.cells #[.slice (some ⟨br52, 0, none⟩) b b] 22 (0, 0)) ∧ At wr br11 (.cells #[.slice (some ⟨br55, 0, none⟩) d d] 22 (0, 0)) ∧ At wr br49 (.cells (iar (mixS UL (List.replicate a 0) t)) 2 (0, 0)) ∧ At wr br52 (.cells (iar (List.replicate b 0)) 2 (0, 0)) ∧ At wr br55 (.cells (iar (List.replicate d 0)) 2 (0, 0))) (fun s58 _ => a - (intOf s58).toNat)
  case atStart => exact ⟨0, by omega, rfl, hB, hz5, hr9, hr10, hr11, by rw [mixS_zero]; exact hr49, hr52, hr55⟩
  case round =>
    clear hB hz5 hr49 hr52 hr55 hr9 hr10 hr11
    obtain ⟨t, hle, rfl, hB, h1, hbr9, hbr10, hbr11, hbr49, hbr52, hbr55⟩ := hrel
    by_cases hlt : t < a
    · obtain ⟨V, hV⟩ : ∃ z9, nthI xs ((((t : Nat) : Int) * b + (J : Nat)) * d + (K : Nat)) = z9 := ⟨_, rfl⟩
      have hVb : 0 ≤ V ∧ V < p := by rw [← hV]; exact nth_in HNb.out (by omega) _
      obtain ⟨M2, hM2⟩ : ∃ z9, IV * V = z9 := ⟨_, rfl⟩
      have hM2b : 0 ≤ M2 ∧ M2 ≤ 25 := by rw [← hM2]; exact ⟨Int.mul_nonneg (by omega) hVb.1, (show IV * V ≤ 5 * 5 from Int.mul_le_mul (by omega) (by omega) hVb.1 (by omega))⟩
      have HM2 : Hid (IntKind.i64.wrap (IV * V) = M2) := Lib.hid (by rw [hM2]; exact IntWalk.i64_in _ (by omega))
      obtain ⟨R2, hR2⟩ : ∃ z9, M2 % p = z9 := ⟨_, rfl⟩
      have HR2 : Hid (M2.tmod p = R2) := Lib.hid (by rw [Int.tmod_eq_emod_of_nonneg hM2b.1]; exact hR2)
      have HSet : Hid ((mixS UL (List.replicate a 0) t).set t R2 = mixS UL (List.replicate a 0) (t + 1)) := Lib.hid (mixS_set HLu.out (by simp) hlt (by rw [← HUL.out, fac_get hlt, ← hR2, ← hM2, ← hV]))
      have HLen : Hid ((mixS UL (List.replicate a 0) t).length = a) := Lib.hid (mixS_len HLu.out (by simp) (by omega))
      have HV := Lib.hid hV
      clear hV hM2 hR2
      go_upto_region 8 with (fail)
      refine wp_region_lit ?_
      refine ls_ex (some 59) (.bool true) rfl rfl (exec_lss _ _ _ _ rfl t a rfl rfl true (decide_eq_true (by omega))) ?_
      go_frame
      refine wpList_nil ?_
      go_upto_region 9 with (fail)
      refine wp_region_lit ?_
      refine ls_ex (some 60) (.int .i64 t) rfl rfl (exec_move _ rfl (.int .i64 t) rfl) ?_
      go_frame
      refine ls_ex (some 12) (.int .i64 t) rfl rfl (exec_assign _ rfl (.int .i64 t) rfl) ?_
      go_frame
      refine wpList_nil ?_
      go_upto_region 10 with (fail)
      refine wp_region_y (zs := [13]) (S := fun w' => Below w.heap.size w w' ∧ At w' br9 (.cells #[.slice (some ⟨br49, 0, none⟩) a a] 22 (0, 0)) ∧ At w' w.heap.size (.cells #[.int .i64 p, .int .i64 a, .int .i64 b, .int .i64 d, .slice (some ⟨bB, oB, none⟩) N c] 28 (0, 0))) (S2 := fun w' => True) (by kernel_rfl) ?_
      change wpAnyY _ _ _ _ _ _ _ _ _ _ (World.drew _)
      generalize hwdz17 : World.drew _ = wdz17
      replace hB : Below w.heap.size w wdz17 := by rw [← hwdz17]; exact hB.drew
      replace h1 : At wdz17 w.heap.size (.cells #[.int .i64 p, .int .i64 a, .int .i64 b, .int .i64 d, .slice (some ⟨bB, oB, none⟩) N c] 28 (0, 0)) := by rw [← hwdz17]; exact h1
      replace hbr9 : At wdz17 br9 (.cells #[.slice (some ⟨br49, 0, none⟩) a a] 22 (0, 0)) := by rw [← hwdz17]; exact hbr9
      replace hbr10 : At wdz17 br10 (.cells #[.slice (some ⟨br52, 0, none⟩) b b] 22 (0, 0)) := by rw [← hwdz17]; exact hbr10
      replace hbr11 : At wdz17 br11 (.cells #[.slice (some ⟨br55, 0, none⟩) d d] 22 (0, 0)) := by rw [← hwdz17]; exact hbr11
      replace hbr49 : At wdz17 br49 (.cells (iar (mixS UL (List.replicate a 0) t)) 2 (0, 0)) := by rw [← hwdz17]; exact hbr49
      replace hbr52 : At wdz17 br52 (.cells (iar (List.replicate b 0)) 2 (0, 0)) := by rw [← hwdz17]; exact hbr52
      replace hbr55 : At wdz17 br55 (.cells (iar (List.replicate d 0)) 2 (0, 0)) := by rw [← hwdz17]; exact hbr55
      clear hwdz17
      refine y_yield 0 (some 61) (.slice (some ⟨br49, 0, none⟩) a a) rfl (by kernel_rfl) (by kernel_rfl) (by kernel_rfl) (fun _ _ _ h => h) rfl rfl ⟨hB, hbr9, h1⟩ (fun w' h' => exec_load_one 22 _ rfl br9 0 rfl (.slice (some ⟨br49, 0, none⟩) a a) _ Try.underlying22 rfl (h'.2.1.at_ 0)) ?_
      go_frame
      refine y_yield 1 (some 62) (.int .i64 t) rfl (by kernel_rfl) (by kernel_rfl) (by kernel_rfl) (fun _ _ _ h => h) rfl rfl ⟨hB, hbr9, h1⟩ (fun w' h' => exec_move _ rfl (.int .i64 t) rfl) ?_
      go_frame
      refine y_yield 2 (some 63) (.int .i64 IV) rfl (by kernel_rfl) (by kernel_rfl) (by kernel_rfl) (fun _ _ _ h => h) rfl rfl ⟨hB, hbr9, h1⟩ (fun w' h' => exec_move _ rfl (.int .i64 IV) rfl) ?_
      go_frame
      refine y_yield 3 (some 64) (.agg #[.int .i64 p, .int .i64 a, .int .i64 b, .int .i64 d, .slice (some ⟨bB, oB, none⟩) N c]) rfl (by kernel_rfl) (by kernel_rfl) (by kernel_rfl) (fun _ _ _ h => h) rfl rfl ⟨hB, hbr9, h1⟩ (fun w' h' => exec_load_all 28 _ rfl w.heap.size rfl _ _ _ h'.2.2 Try.underlying28 rfl 5 (by kernel_rfl) rfl) ?_
      go_frame
      refine y_yield 4 (some 65) (.int .i64 t) rfl (by kernel_rfl) (by kernel_rfl) (by kernel_rfl) (fun _ _ _ h => h) rfl rfl ⟨hB, hbr9, h1⟩ (fun w' h' => exec_move _ rfl (.int .i64 t) rfl) ?_
      go_frame
      refine y_yield 5 (some 66) (.int .i64 J) rfl (by kernel_rfl) (by kernel_rfl) (by kernel_rfl) (fun _ _ _ h => h) rfl rfl ⟨hB, hbr9, h1⟩ (fun w' h' => exec_move _ rfl (.int .i64 J) rfl) ?_
      go_frame
      refine y_yield 6 (some 67) (.int .i64 K) rfl (by kernel_rfl) (by kernel_rfl) (by kernel_rfl) (fun _ _ _ h => h) rfl rfl ⟨hB, hbr9, h1⟩ (fun w' h' => exec_move _ rfl (.int .i64 K) rfl) ?_
      go_frame
      refine y_yield 9 (some 70) (.pointer (some ⟨w.heap.size, 0, none⟩)) rfl (by kernel_rfl) (by kernel_rfl) (by kernel_rfl) (fun _ _ _ h => h) rfl rfl ⟨hB, hbr9, h1⟩ (fun w' h' => exec_fieldAddr 28 _ 0 rfl _ (by kernel_rfl)) ?_
      go_frame
      refine y_yield 10 (some 71) (.int .i64 p) rfl (by kernel_rfl) (by kernel_rfl) (by kernel_rfl) (fun _ _ _ h => h) rfl rfl ⟨hB, hbr9, h1⟩ (fun w' h' => exec_load_one 2 _ rfl w.heap.size 0 rfl (.int .i64 p) _ Try.underlying2 rfl (h'.2.2.at_ 0)) ?_
      go_frame
      refine y_oper 7 (by kernel_rfl) rfl rfl (fun K' hK' => ?_)
      have lz20 := hB.size
      have lz21 := h1.lt
      have lz22 := hbr9.lt
      have lz23 := hbr10.lt
      have lz24 := hbr11.lt
      have lz25 := hbr49.lt
      have lz26 := hbr52.lt
      have lz27 := hbr55.lt
      refine wp_call4 (some 68) rfl 37 _ _ _ _ _ rfl (fun args w => by kernel_rfl) _ _ _ _ rfl rfl rfl rfl _ (numberAtN_c p a b d (some ⟨bB, oB, none⟩) c N xs t J K _ (hX.keep hB) HXl.out HN3.out ha0.2 hb0.2 hd0.2 hlt hJ hK) (fun e Wz18 h => ?_)
      obtain ⟨rfl, bz19⟩ := h
      replace hB := below_after hB bz19
      replace h1 := h1.after bz19
      replace hbr9 := hbr9.after bz19
      replace hbr10 := hbr10.after bz19
      replace hbr11 := hbr11.after bz19
      replace hbr49 := hbr49.after bz19
      replace hbr52 := hbr52.after bz19
      replace hbr55 := hbr55.after bz19
      rw [HV.out]
      clear bz19
      refine ⟨_, rfl, ?_⟩
      refine hK' _ _ ⟨hB, hbr9, h1⟩ (fun _ => trivial) ?_
      clear hK' K'
      go_frame
      refine y_yield 8 (some 69) (.int .i64 M2) rfl (by kernel_rfl) (by kernel_rfl) (by kernel_rfl) (fun _ _ _ h => h) rfl rfl ⟨hB, hbr9, h1⟩ (fun w' h' => exec_mul _ _ _ _ rfl IV V M2 rfl rfl HM2.out) ?_
      go_frame
      refine y_yield 11 (some 72) (.int .i64 R2) rfl (by kernel_rfl) (by kernel_rfl) (by kernel_rfl) (fun _ _ _ h => h) rfl rfl ⟨hB, hbr9, h1⟩ (fun w' h' => exec_rem _ _ _ _ rfl M2 p R2 rfl rfl (by omega) HR2.out) ?_
      go_frame
      refine y_yield 12 (some 73) (.pointer (some ⟨br49, t * 1, none⟩)) rfl (by kernel_rfl) (by kernel_rfl) (by kernel_rfl) (fun _ _ _ h => h) rfl rfl ⟨hB, hbr9, h1⟩ (fun w' h' => exec_ix0 _ 2 _ _ rfl br49 a a t 1 rfl rfl Try.underlying22 (by kernel_rfl) (by omega)) ?_
      go_frame
      refine y_oper 13 (by kernel_rfl) rfl rfl (fun K' hK' => ?_)
      refine wp_store_one 2 _ _ rfl rfl br49 (t * 1) rfl (.int .i64 R2) rfl rfl rfl _ _ hbr49 (by kernel_rfl) (by rw [iar_size, HLen.out]; omega) (fun Wz28 pz29 => ?_)
      replace hB := pz29.below hB (by omega)
      replace h1 := pz29.other h1 (by omega)
      replace hbr9 := pz29.other hbr9 (by omega)
      replace hbr10 := pz29.other hbr10 (by omega)
      replace hbr11 := pz29.other hbr11 (by omega)
      replace hbr52 := pz29.other hbr52 (by omega)
      replace hbr55 := pz29.other hbr55 (by omega)
      replace hbr49 : At Wz28 br49 (.cells (iar (mixS UL (List.replicate a 0) (t + 1))) 2 (0, 0)) := by have h9 := pz29.at_; rwa [Nat.mul_one, iar_set, HSet.out] at h9
      refine hK' _ _ ⟨hB, hbr9, h1⟩ (fun h => absurd (by decide) h) ?_
      clear hK' K' pz29
      refine y_done (by kernel_rfl) ?_ _
      go_upto_region 11 with (fail)
      refine wp_region_lit ?_
      refine ls_ex (some 74) (.int .i64 (t + 1)) rfl rfl (exec_add _ _ _ _ rfl t 1 (t + 1) rfl rfl (IntWalk.i64_in _ (by omega))) ?_
      go_frame
      refine ls_ex (some 58) (.int .i64 (t + 1)) rfl rfl (exec_move _ rfl (.int .i64 (t + 1)) rfl) ?_
      go_frame
      refine wpList_nil ?_
      go_wp2_with fail
      go_roundw
      case rel => exact ⟨t + 1, by omega, by go_num, hB, h1, hbr9, hbr10, hbr11, hbr49, hbr52, hbr55⟩
      case measure => simp [intOf]; omega
    · obtain ⟨wk, rfl⟩ : ∃ z : World, z = wr := ⟨_, rfl⟩
      rw [show mixS UL (List.replicate a 0) t = UL by rw [show t = a by omega]; exact mixS_all HLu.out (by simp)] at hbr49
      go_upto_region 8 with (fail)
      refine wp_region_lit ?_
      refine ls_ex (some 59) (.bool false) rfl rfl (exec_lss _ _ _ _ rfl t a rfl rfl false (decide_eq_false (by omega))) ?_
      go_frame
      refine wpList_nil ?_
      go_upto_region 12 with (fail)
      refine wp_region_lit ?_
      refine ls_ex (some 75) (.slice (some ⟨br52, 0, none⟩) b b) rfl rfl (exec_load_one 22 _ rfl br10 0 rfl (.slice (some ⟨br52, 0, none⟩) b b) _ Try.underlying22 rfl (hbr10.at_ 0)) ?_
      go_frame
      refine ls_ex (some 76) (.int .i64 b) rfl rfl (exec_len _ 22 2 rfl ((some ⟨br52, 0, none⟩)) b b rfl Try.underlying22) ?_
      go_frame
      refine ls_ex (some 77) (.int .i64 0) rfl rfl (exec_move _ rfl (.int .i64 0) rfl) ?_
      go_frame
      refine wpList_nil ?_
      go_wp2_with fail
      go_loopw [77] (fun s77 wr => ∃ t : Nat, t ≤ b ∧ s77 = .int .i64 t ∧ Below w.heap.size w wr ∧ At wr w.heap.size (.cells #[.int .i64 p, .int .i64 a, .int .i64 b, .int .i64 d, .slice (some ⟨bB, oB, none⟩) N c] 28 (0, 0)) ∧ At wr br9 (.cells #[.slice (some ⟨br49, 0, none⟩) a a] 22 (0, 0)) ∧ At wr br10 (.cells #[.slice (some ⟨br52, 0, none⟩) b b] 22 (0, 0)) ∧ At wr br11 (.cells #[.slice (some ⟨br55, 0, none⟩) d d] 22 (0, 0)) ∧ At wr br49 (.cells (iar (UL)) 2 (0, 0)) ∧ At wr br52 (.cells (iar (mixS VL (List.replicate b 0) t)) 2 (0, 0)) ∧ At wr br55 (.cells (iar (List.replicate d 0)) 2 (0, 0))) (fun s77 _ => b - (intOf s77).toNat)
      case atStart => exact ⟨0, by omega, rfl, hB, h1, hbr9, hbr10, hbr11, hbr49, by rw [mixS_zero]; exact hbr52, hbr55⟩
      case round =>
        clear hB h1 hbr9 hbr10 hbr11 hbr49 hbr52 hbr55
        obtain ⟨t, hle, rfl, hB, h1, hbr9, hbr10, hbr11, hbr49, hbr52, hbr55⟩ := hrel
        by_cases hlt : t < b
        · obtain ⟨V, hV⟩ : ∃ z9, nthI xs ((((I : Nat) : Int) * b + (t : Nat)) * d + (K : Nat)) = z9 := ⟨_, rfl⟩
          have hVb : 0 ≤ V ∧ V < p := by rw [← hV]; exact nth_in HNb.out (by omega) _
          obtain ⟨M2, hM2⟩ : ∃ z9, IV * V = z9 := ⟨_, rfl⟩
          have hM2b : 0 ≤ M2 ∧ M2 ≤ 25 := by rw [← hM2]; exact ⟨Int.mul_nonneg (by omega) hVb.1, (show IV * V ≤ 5 * 5 from Int.mul_le_mul (by omega) (by omega) hVb.1 (by omega))⟩
          have HM2 : Hid (IntKind.i64.wrap (IV * V) = M2) := Lib.hid (by rw [hM2]; exact IntWalk.i64_in _ (by omega))
          obtain ⟨R2, hR2⟩ : ∃ z9, M2 % p = z9 := ⟨_, rfl⟩
          have HR2 : Hid (M2.tmod p = R2) := Lib.hid (by rw [Int.tmod_eq_emod_of_nonneg hM2b.1]; exact hR2)
          have HSet : Hid ((mixS VL (List.replicate b 0) t).set t R2 = mixS VL (List.replicate b 0) (t + 1)) := Lib.hid (mixS_set HLv.out (by simp) hlt (by rw [← HVL.out, fac_get hlt, ← hR2, ← hM2, ← hV]))
          have HLen : Hid ((mixS VL (List.replicate b 0) t).length = b) := Lib.hid (mixS_len HLv.out (by simp) (by omega))
          have HV := Lib.hid hV
          clear hV hM2 hR2
          go_upto_region 13 with (fail)
          refine wp_region_lit ?_
          refine ls_ex (some 78) (.bool true) rfl rfl (exec_lss _ _ _ _ rfl t b rfl rfl true (decide_eq_true (by omega))) ?_
          go_frame
          refine wpList_nil ?_
          go_upto_region 14 with (fail)
          refine wp_region_lit ?_
          refine ls_ex (some 79) (.int .i64 t) rfl rfl (exec_move _ rfl (.int .i64 t) rfl) ?_
          go_frame
          refine ls_ex (some 13) (.int .i64 t) rfl rfl (exec_assign _ rfl (.int .i64 t) rfl) ?_
          go_frame
          refine wpList_nil ?_
          go_upto_region 15 with (fail)
          refine wp_region_y (zs := [13]) (S := fun w' => Below w.heap.size w w' ∧ At w' br10 (.cells #[.slice (some ⟨br52, 0, none⟩) b b] 22 (0, 0)) ∧ At w' w.heap.size (.cells #[.int .i64 p, .int .i64 a, .int .i64 b, .int .i64 d, .slice (some ⟨bB, oB, none⟩) N c] 28 (0, 0))) (S2 := fun w' => True) (by kernel_rfl) ?_
          change wpAnyY _ _ _ _ _ _ _ _ _ _ (World.drew _)
          generalize hwdz30 : World.drew _ = wdz30
          replace hB : Below w.heap.size w wdz30 := by rw [← hwdz30]; exact hB.drew
          replace h1 : At wdz30 w.heap.size (.cells #[.int .i64 p, .int .i64 a, .int .i64 b, .int .i64 d, .slice (some ⟨bB, oB, none⟩) N c] 28 (0, 0)) := by rw [← hwdz30]; exact h1
          replace hbr9 : At wdz30 br9 (.cells #[.slice (some ⟨br49, 0, none⟩) a a] 22 (0, 0)) := by rw [← hwdz30]; exact hbr9
          replace hbr10 : At wdz30 br10 (.cells #[.slice (some ⟨br52, 0, none⟩) b b] 22 (0, 0)) := by rw [← hwdz30]; exact hbr10
          replace hbr11 : At wdz30 br11 (.cells #[.slice (some ⟨br55, 0, none⟩) d d] 22 (0, 0)) := by rw [← hwdz30]; exact hbr11
          replace hbr49 : At wdz30 br49 (.cells (iar (UL)) 2 (0, 0)) := by rw [← hwdz30]; exact hbr49
          replace hbr52 : At wdz30 br52 (.cells (iar (mixS VL (List.replicate b 0) t)) 2 (0, 0)) := by rw [← hwdz30]; exact hbr52
          replace hbr55 : At wdz30 br55 (.cells (iar (List.replicate d 0)) 2 (0, 0)) := by rw [← hwdz30]; exact hbr55
          clear hwdz30
          refine y_yield 0 (some 80) (.slice (some ⟨br52, 0, none⟩) b b) rfl (by kernel_rfl) (by kernel_rfl) (by kernel_rfl) (fun _ _ _ h => h) rfl rfl ⟨hB, hbr10, h1⟩ (fun w' h' => exec_load_one 22 _ rfl br10 0 rfl (.slice (some ⟨br52, 0, none⟩) b b) _ Try.underlying22 rfl (h'.2.1.at_ 0)) ?_
          go_frame
          refine y_yield 1 (some 81) (.int .i64 t) rfl (by kernel_rfl) (by kernel_rfl) (by kernel_rfl) (fun _ _ _ h => h) rfl rfl ⟨hB, hbr10, h1⟩ (fun w' h' => exec_move _ rfl (.int .i64 t) rfl) ?_
          go_frame
          refine y_yield 2 (some 82) (.int .i64 IV) rfl (by kernel_rfl) (by kernel_rfl) (by kernel_rfl) (fun _ _ _ h => h) rfl rfl ⟨hB, hbr10, h1⟩ (fun w' h' => exec_move _ rfl (.int .i64 IV) rfl) ?_
          go_frame
          refine y_yield 3 (some 83) (.agg #[.int .i64 p, .int .i64 a, .int .i64 b, .int .i64 d, .slice (some ⟨bB, oB, none⟩) N c]) rfl (by kernel_rfl) (by kernel_rfl) (by kernel_rfl) (fun _ _ _ h => h) rfl rfl ⟨hB, hbr10, h1⟩ (fun w' h' => exec_load_all 28 _ rfl w.heap.size rfl _ _ _ h'.2.2 Try.underlying28 rfl 5 (by kernel_rfl) rfl) ?_
          go_frame
          refine y_yield 4 (some 84) (.int .i64 I) rfl (by kernel_rfl) (by kernel_rfl) (by kernel_rfl) (fun _ _ _ h => h) rfl rfl ⟨hB, hbr10, h1⟩ (fun w' h' => exec_move _ rfl (.int .i64 I) rfl) ?_
          go_frame
          refine y_yield 5 (some 85) (.int .i64 t) rfl (by kernel_rfl) (by kernel_rfl) (by kernel_rfl) (fun _ _ _ h => h) rfl rfl ⟨hB, hbr10, h1⟩ (fun w' h' => exec_move _ rfl (.int .i64 t) rfl) ?_
          go_frame
          refine y_yield 6 (some 86) (.int .i64 K) rfl (by kernel_rfl) (by kernel_rfl) (by kernel_rfl) (fun _ _ _ h => h) rfl rfl ⟨hB, hbr10, h1⟩ (fun w' h' => exec_move _ rfl (.int .i64 K) rfl) ?_
          go_frame
          refine y_yield 9 (some 89) (.pointer (some ⟨w.heap.size, 0, none⟩)) rfl (by kernel_rfl) (by kernel_rfl) (by kernel_rfl) (fun _ _ _ h => h) rfl rfl ⟨hB, hbr10, h1⟩ (fun w' h' => exec_fieldAddr 28 _ 0 rfl _ (by kernel_rfl)) ?_
          go_frame
          refine y_yield 10 (some 90) (.int .i64 p) rfl (by kernel_rfl) (by kernel_rfl) (by kernel_rfl) (fun _ _ _ h => h) rfl rfl ⟨hB, hbr10, h1⟩ (fun w' h' => exec_load_one 2 _ rfl w.heap.size 0 rfl (.int .i64 p) _ Try.underlying2 rfl (h'.2.2.at_ 0)) ?_
          go_frame
          refine y_oper 7 (by kernel_rfl) rfl rfl (fun K' hK' => ?_)
          have lz33 := hB.size
          have lz34 := h1.lt
          have lz35 := hbr9.lt
          have lz36 := hbr10.lt
          have lz37 := hbr11.lt
          have lz38 := hbr49.lt
          have lz39 := hbr52.lt
          have lz40 := hbr55.lt
          refine wp_call4 (some 87) rfl 37 _ _ _ _ _ rfl (fun args w => by kernel_rfl) _ _ _ _ rfl rfl rfl rfl _ (numberAtN_c p a b d (some ⟨bB, oB, none⟩) c N xs I t K _ (hX.keep hB) HXl.out HN3.out ha0.2 hb0.2 hd0.2 hI hlt hK) (fun e Wz31 h => ?_)
          obtain ⟨rfl, bz32⟩ := h
          replace hB := below_after hB bz32
          replace h1 := h1.after bz32
          replace hbr9 := hbr9.after bz32
          replace hbr10 := hbr10.after bz32
          replace hbr11 := hbr11.after bz32
          replace hbr49 := hbr49.after bz32
          replace hbr52 := hbr52.after bz32
          replace hbr55 := hbr55.after bz32
          rw [HV.out]
          clear bz32
          refine ⟨_, rfl, ?_⟩
          refine hK' _ _ ⟨hB, hbr10, h1⟩ (fun _ => trivial) ?_
          clear hK' K'
          go_frame
          refine y_yield 8 (some 88) (.int .i64 M2) rfl (by kernel_rfl) (by kernel_rfl) (by kernel_rfl) (fun _ _ _ h => h) rfl rfl ⟨hB, hbr10, h1⟩ (fun w' h' => exec_mul _ _ _ _ rfl IV V M2 rfl rfl HM2.out) ?_
          go_frame
          refine y_yield 11 (some 91) (.int .i64 R2) rfl (by kernel_rfl) (by kernel_rfl) (by kernel_rfl) (fun _ _ _ h => h) rfl rfl ⟨hB, hbr10, h1⟩ (fun w' h' => exec_rem _ _ _ _ rfl M2 p R2 rfl rfl (by omega) HR2.out) ?_
          go_frame
          refine y_yield 12 (some 92) (.pointer (some ⟨br52, t * 1, none⟩)) rfl (by kernel_rfl) (by kernel_rfl) (by kernel_rfl) (fun _ _ _ h => h) rfl rfl ⟨hB, hbr10, h1⟩ (fun w' h' => exec_ix0 _ 2 _ _ rfl br52 b b t 1 rfl rfl Try.underlying22 (by kernel_rfl) (by omega)) ?_
          go_frame
          refine y_oper 13 (by kernel_rfl) rfl rfl (fun K' hK' => ?_)
          refine wp_store_one 2 _ _ rfl rfl br52 (t * 1) rfl (.int .i64 R2) rfl rfl rfl _ _ hbr52 (by kernel_rfl) (by rw [iar_size, HLen.out]; omega) (fun Wz41 pz42 => ?_)
          replace hB := pz42.below hB (by omega)
          replace h1 := pz42.other h1 (by omega)
          replace hbr9 := pz42.other hbr9 (by omega)
          replace hbr10 := pz42.other hbr10 (by omega)
          replace hbr11 := pz42.other hbr11 (by omega)
          replace hbr49 := pz42.other hbr49 (by omega)
          replace hbr55 := pz42.other hbr55 (by omega)
          replace hbr52 : At Wz41 br52 (.cells (iar (mixS VL (List.replicate b 0) (t + 1))) 2 (0, 0)) := by have h9 := pz42.at_; rwa [Nat.mul_one, iar_set, HSet.out] at h9
          refine hK' _ _ ⟨hB, hbr10, h1⟩ (fun h => absurd (by decide) h) ?_
          clear hK' K' pz42
          refine y_done (by kernel_rfl) ?_ _
          go_upto_region 16 with (fail)
          refine wp_region_lit ?_
          refine ls_ex (some 93) (.int .i64 (t + 1)) rfl rfl (exec_add _ _ _ _ rfl t 1 (t + 1) rfl rfl (IntWalk.i64_in _ (by omega))) ?_
          go_frame
          refine ls_ex (some 77) (.int .i64 (t + 1)) rfl rfl (exec_move _ rfl (.int .i64 (t + 1)) rfl) ?_
          go_frame
          refine wpList_nil ?_
          go_wp2_with fail
          go_roundw
          case rel => exact ⟨t + 1, by omega, by go_num, hB, h1, hbr9, hbr10, hbr11, hbr49, hbr52, hbr55⟩
          case measure => simp [intOf]; omega
        · obtain ⟨wk, rfl⟩ : ∃ z : World, z = wr := ⟨_, rfl⟩
          rw [show mixS VL (List.replicate b 0) t = VL by rw [show t = b by omega]; exact mixS_all HLv.out (by simp)] at hbr52
          go_upto_region 13 with (fail)
          refine wp_region_lit ?_
          refine ls_ex (some 78) (.bool false) rfl rfl (exec_lss _ _ _ _ rfl t b rfl rfl false (decide_eq_false (by omega))) ?_
          go_frame
          refine wpList_nil ?_
          go_upto_region 17 with (fail)
          refine wp_region_lit ?_
          refine ls_ex (some 94) (.slice (some ⟨br55, 0, none⟩) d d) rfl rfl (exec_load_one 22 _ rfl br11 0 rfl (.slice (some ⟨br55, 0, none⟩) d d) _ Try.underlying22 rfl (hbr11.at_ 0)) ?_
          go_frame
          refine ls_ex (some 95) (.int .i64 d) rfl rfl (exec_len _ 22 2 rfl ((some ⟨br55, 0, none⟩)) d d rfl Try.underlying22) ?_
          go_frame
          refine ls_ex (some 96) (.int .i64 0) rfl rfl (exec_move _ rfl (.int .i64 0) rfl) ?_
          go_frame
          refine wpList_nil ?_
          go_wp2_with fail
          go_loopw [96] (fun s96 wr => ∃ t : Nat, t ≤ d ∧ s96 = .int .i64 t ∧ Below w.heap.size w wr ∧ At wr w.heap.size (.cells #[.int .i64 p, .int .i64 a, .int .i64 b, .int .i64 d, .slice (some ⟨bB, oB, none⟩) N c] 28 (0, 0)) ∧ At wr br9 (.cells #[.slice (some ⟨br49, 0, none⟩) a a] 22 (0, 0)) ∧ At wr br10 (.cells #[.slice (some ⟨br52, 0, none⟩) b b] 22 (0, 0)) ∧ At wr br11 (.cells #[.slice (some ⟨br55, 0, none⟩) d d] 22 (0, 0)) ∧ At wr br49 (.cells (iar (UL)) 2 (0, 0)) ∧ At wr br52 (.cells (iar (VL)) 2 (0, 0)) ∧ At wr br55 (.cells (iar (mixS WL (List.replicate d 0) t)) 2 (0, 0))) (fun s96 _ => d - (intOf s96).toNat)
          case atStart => exact ⟨0, by omega, rfl, hB, h1, hbr9, hbr10, hbr11, hbr49, hbr52, by rw [mixS_zero]; exact hbr55⟩
          case round =>
            clear hB h1 hbr9 hbr10 hbr11 hbr49 hbr52 hbr55
            obtain ⟨t, hle, rfl, hB, h1, hbr9, hbr10, hbr11, hbr49, hbr52, hbr55⟩ := hrel
            by_cases hlt : t < d
            · obtain ⟨V, hV⟩ : ∃ z9, nthI xs ((((I : Nat) : Int) * b + (J : Nat)) * d + (t : Nat)) = z9 := ⟨_, rfl⟩
              have hVb : 0 ≤ V ∧ V < p := by rw [← hV]; exact nth_in HNb.out (by omega) _
              have HSet : Hid ((mixS WL (List.replicate d 0) t).set t V = mixS WL (List.replicate d 0) (t + 1)) := Lib.hid (mixS_set HLw.out (by simp) hlt (by rw [← HWL.out, fac_get hlt, ← hV]))
              have HLen : Hid ((mixS WL (List.replicate d 0) t).length = d) := Lib.hid (mixS_len HLw.out (by simp) (by omega))
              have HV := Lib.hid hV
              clear hV
              go_upto_region 18 with (fail)
              refine wp_region_lit ?_
              refine ls_ex (some 97) (.bool true) rfl rfl (exec_lss _ _ _ _ rfl t d rfl rfl true (decide_eq_true (by omega))) ?_
              go_frame
              refine wpList_nil ?_
              go_upto_region 19 with (fail)
              refine wp_region_lit ?_
              refine ls_ex (some 98) (.int .i64 t) rfl rfl (exec_move _ rfl (.int .i64 t) rfl) ?_
              go_frame
              refine ls_ex (some 14) (.int .i64 t) rfl rfl (exec_assign _ rfl (.int .i64 t) rfl) ?_
              go_frame
              refine wpList_nil ?_
              go_upto_region 20 with (fail)
              refine wp_region_y (zs := [8]) (S := fun w' => Below w.heap.size w w' ∧ At w' br11 (.cells #[.slice (some ⟨br55, 0, none⟩) d d] 22 (0, 0)) ∧ At w' w.heap.size (.cells #[.int .i64 p, .int .i64 a, .int .i64 b, .int .i64 d, .slice (some ⟨bB, oB, none⟩) N c] 28 (0, 0))) (S2 := fun w' => True) (by kernel_rfl) ?_
              change wpAnyY _ _ _ _ _ _ _ _ _ _ (World.drew _)
              generalize hwdz43 : World.drew _ = wdz43
              replace hB : Below w.heap.size w wdz43 := by rw [← hwdz43]; exact hB.drew
              replace h1 : At wdz43 w.heap.size (.cells #[.int .i64 p, .int .i64 a, .int .i64 b, .int .i64 d, .slice (some ⟨bB, oB, none⟩) N c] 28 (0, 0)) := by rw [← hwdz43]; exact h1
              replace hbr9 : At wdz43 br9 (.cells #[.slice (some ⟨br49, 0, none⟩) a a] 22 (0, 0)) := by rw [← hwdz43]; exact hbr9
              replace hbr10 : At wdz43 br10 (.cells #[.slice (some ⟨br52, 0, none⟩) b b] 22 (0, 0)) := by rw [← hwdz43]; exact hbr10
              replace hbr11 : At wdz43 br11 (.cells #[.slice (some ⟨br55, 0, none⟩) d d] 22 (0, 0)) := by rw [← hwdz43]; exact hbr11
              replace hbr49 : At wdz43 br49 (.cells (iar (UL)) 2 (0, 0)) := by rw [← hwdz43]; exact hbr49
              replace hbr52 : At wdz43 br52 (.cells (iar (VL)) 2 (0, 0)) := by rw [← hwdz43]; exact hbr52
              replace hbr55 : At wdz43 br55 (.cells (iar (mixS WL (List.replicate d 0) t)) 2 (0, 0)) := by rw [← hwdz43]; exact hbr55
              clear hwdz43
              refine y_yield 0 (some 99) (.slice (some ⟨br55, 0, none⟩) d d) rfl (by kernel_rfl) (by kernel_rfl) (by kernel_rfl) (fun _ _ _ h => h) rfl rfl ⟨hB, hbr11, h1⟩ (fun w' h' => exec_load_one 22 _ rfl br11 0 rfl (.slice (some ⟨br55, 0, none⟩) d d) _ Try.underlying22 rfl (h'.2.1.at_ 0)) ?_
              go_frame
              refine y_yield 1 (some 100) (.int .i64 t) rfl (by kernel_rfl) (by kernel_rfl) (by kernel_rfl) (fun _ _ _ h => h) rfl rfl ⟨hB, hbr11, h1⟩ (fun w' h' => exec_move _ rfl (.int .i64 t) rfl) ?_
              go_frame
              refine y_yield 2 (some 101) (.agg #[.int .i64 p, .int .i64 a, .int .i64 b, .int .i64 d, .slice (some ⟨bB, oB, none⟩) N c]) rfl (by kernel_rfl) (by kernel_rfl) (by kernel_rfl) (fun _ _ _ h => h) rfl rfl ⟨hB, hbr11, h1⟩ (fun w' h' => exec_load_all 28 _ rfl w.heap.size rfl _ _ _ h'.2.2 Try.underlying28 rfl 5 (by kernel_rfl) rfl) ?_
              go_frame
              refine y_yield 3 (some 102) (.int .i64 I) rfl (by kernel_rfl) (by kernel_rfl) (by kernel_rfl) (fun _ _ _ h => h) rfl rfl ⟨hB, hbr11, h1⟩ (fun w' h' => exec_move _ rfl (.int .i64 I) rfl) ?_
              go_frame
              refine y_yield 4 (some 103) (.int .i64 J) rfl (by kernel_rfl) (by kernel_rfl) (by kernel_rfl) (fun _ _ _ h => h) rfl rfl ⟨hB, hbr11, h1⟩ (fun w' h' => exec_move _ rfl (.int .i64 J) rfl) ?_
              go_frame
              refine y_yield 5 (some 104) (.int .i64 t) rfl (by kernel_rfl) (by kernel_rfl) (by kernel_rfl) (fun _ _ _ h => h) rfl rfl ⟨hB, hbr11, h1⟩ (fun w' h' => exec_move _ rfl (.int .i64 t) rfl) ?_
              go_frame
              refine y_oper 6 (by kernel_rfl) rfl rfl (fun K' hK' => ?_)
              have lz46 := hB.size
              have lz47 := h1.lt
              have lz48 := hbr9.lt
              have lz49 := hbr10.lt
              have lz50 := hbr11.lt
              have lz51 := hbr49.lt
              have lz52 := hbr52.lt
              have lz53 := hbr55.lt
              refine wp_call4 (some 105) rfl 37 _ _ _ _ _ rfl (fun args w => by kernel_rfl) _ _ _ _ rfl rfl rfl rfl _ (numberAtN_c p a b d (some ⟨bB, oB, none⟩) c N xs I J t _ (hX.keep hB) HXl.out HN3.out ha0.2 hb0.2 hd0.2 hI hJ hlt) (fun e Wz44 h => ?_)
              obtain ⟨rfl, bz45⟩ := h
              replace hB := below_after hB bz45
              replace h1 := h1.after bz45
              replace hbr9 := hbr9.after bz45
              replace hbr10 := hbr10.after bz45
              replace hbr11 := hbr11.after bz45
              replace hbr49 := hbr49.after bz45
              replace hbr52 := hbr52.after bz45
              replace hbr55 := hbr55.after bz45
              rw [HV.out]
              clear bz45
              refine ⟨_, rfl, ?_⟩
              refine hK' _ _ ⟨hB, hbr11, h1⟩ (fun _ => trivial) ?_
              clear hK' K'
              go_frame
              refine y_yield 7 (some 106) (.pointer (some ⟨br55, t * 1, none⟩)) rfl (by kernel_rfl) (by kernel_rfl) (by kernel_rfl) (fun _ _ _ h => h) rfl rfl ⟨hB, hbr11, h1⟩ (fun w' h' => exec_ix0 _ 2 _ _ rfl br55 d d t 1 rfl rfl Try.underlying22 (by kernel_rfl) (by omega)) ?_
              go_frame
              refine y_oper 8 (by kernel_rfl) rfl rfl (fun K' hK' => ?_)
              refine wp_store_one 2 _ _ rfl rfl br55 (t * 1) rfl (.int .i64 V) rfl rfl rfl _ _ hbr55 (by kernel_rfl) (by rw [iar_size, HLen.out]; omega) (fun Wz54 pz55 => ?_)
              replace hB := pz55.below hB (by omega)
              replace h1 := pz55.other h1 (by omega)
              replace hbr9 := pz55.other hbr9 (by omega)
              replace hbr10 := pz55.other hbr10 (by omega)
              replace hbr11 := pz55.other hbr11 (by omega)
              replace hbr49 := pz55.other hbr49 (by omega)
              replace hbr52 := pz55.other hbr52 (by omega)
              replace hbr55 : At Wz54 br55 (.cells (iar (mixS WL (List.replicate d 0) (t + 1))) 2 (0, 0)) := by have h9 := pz55.at_; rwa [Nat.mul_one, iar_set, HSet.out] at h9
              refine hK' _ _ ⟨hB, hbr11, h1⟩ (fun h => absurd (by decide) h) ?_
              clear hK' K' pz55
              refine y_done (by kernel_rfl) ?_ _
              go_upto_region 21 with (fail)
              refine wp_region_lit ?_
              refine ls_ex (some 107) (.int .i64 (t + 1)) rfl rfl (exec_add _ _ _ _ rfl t 1 (t + 1) rfl rfl (IntWalk.i64_in _ (by omega))) ?_
              go_frame
              refine ls_ex (some 96) (.int .i64 (t + 1)) rfl rfl (exec_move _ rfl (.int .i64 (t + 1)) rfl) ?_
              go_frame
              refine wpList_nil ?_
              go_wp2_with fail
              go_roundw
              case rel => exact ⟨t + 1, by omega, by go_num, hB, h1, hbr9, hbr10, hbr11, hbr49, hbr52, hbr55⟩
              case measure => simp [intOf]; omega
            · obtain ⟨wk, rfl⟩ : ∃ z : World, z = wr := ⟨_, rfl⟩
              rw [show mixS WL (List.replicate d 0) t = WL by rw [show t = d by omega]; exact mixS_all HLw.out (by simp)] at hbr55
              go_upto_region 18 with (fail)
              refine wp_region_lit ?_
              refine ls_ex (some 97) (.bool false) rfl rfl (exec_lss _ _ _ _ rfl t d rfl rfl false (decide_eq_false (by omega))) ?_
              go_frame
              refine wpList_nil ?_
              go_upto_region 22 with (fail)
              go_cut [15] from 108 to 114 (fun s15 wx => ∃ (B15 : Nat) (A5 : Option Addr) (c5 : Nat), s15 = .pointer (some ⟨B15, 0, none⟩) ∧ At wx B15 (.cells #[.int .i64 p, .int .i64 a, .int .i64 b, .int .i64 d, .slice A5 GL.length c5] 28 (0, 0)) ∧ OwnI wx w.heap.size (.slice A5 GL.length c5) GL ∧ Below w.heap.size w wx ∧ At wx w.heap.size (.cells #[.int .i64 p, .int .i64 a, .int .i64 b, .int .i64 d, .slice (some ⟨bB, oB, none⟩) N c] 28 (0, 0)) ∧ At wx br9 (.cells #[.slice (some ⟨br49, 0, none⟩) a a] 22 (0, 0)) ∧ At wx br10 (.cells #[.slice (some ⟨br52, 0, none⟩) b b] 22 (0, 0)) ∧ At wx br11 (.cells #[.slice (some ⟨br55, 0, none⟩) d d] 22 (0, 0)) ∧ At wx br49 (.cells (iar (UL)) 2 (0, 0)) ∧ At wx br52 (.cells (iar (VL)) 2 (0, 0)) ∧ At wx br55 (.cells (iar (WL)) 2 (0, 0)))
              case first =>
                refine wp_region_y (zs := []) (S := fun w' => Below w.heap.size w w' ∧ At w' w.heap.size (.cells #[.int .i64 p, .int .i64 a, .int .i64 b, .int .i64 d, .slice (some ⟨bB, oB, none⟩) N c] 28 (0, 0))) (S2 := fun w' => True) (by kernel_rfl) ?_
                change wpAnyY _ _ _ _ _ _ _ _ _ _ (World.drew _)
                generalize hwdz56 : World.drew _ = wdz56
                replace hB : Below w.heap.size w wdz56 := by rw [← hwdz56]; exact hB.drew
                replace h1 : At wdz56 w.heap.size (.cells #[.int .i64 p, .int .i64 a, .int .i64 b, .int .i64 d, .slice (some ⟨bB, oB, none⟩) N c] 28 (0, 0)) := by rw [← hwdz56]; exact h1
                replace hbr9 : At wdz56 br9 (.cells #[.slice (some ⟨br49, 0, none⟩) a a] 22 (0, 0)) := by rw [← hwdz56]; exact hbr9
                replace hbr10 : At wdz56 br10 (.cells #[.slice (some ⟨br52, 0, none⟩) b b] 22 (0, 0)) := by rw [← hwdz56]; exact hbr10
                replace hbr11 : At wdz56 br11 (.cells #[.slice (some ⟨br55, 0, none⟩) d d] 22 (0, 0)) := by rw [← hwdz56]; exact hbr11
                replace hbr49 : At wdz56 br49 (.cells (iar (UL)) 2 (0, 0)) := by rw [← hwdz56]; exact hbr49
                replace hbr52 : At wdz56 br52 (.cells (iar (VL)) 2 (0, 0)) := by rw [← hwdz56]; exact hbr52
                replace hbr55 : At wdz56 br55 (.cells (iar (WL)) 2 (0, 0)) := by rw [← hwdz56]; exact hbr55
                clear hwdz56
                refine y_yield 0 (some 108) (.pointer (some ⟨w.heap.size, 0, none⟩)) rfl (by kernel_rfl) (by kernel_rfl) (by kernel_rfl) (fun _ _ _ h => h) rfl rfl ⟨hB, h1⟩ (fun w' h' => exec_fieldAddr 28 _ 0 rfl _ (by kernel_rfl)) ?_
                go_frame
                refine y_yield 1 (some 109) (.int .i64 p) rfl (by kernel_rfl) (by kernel_rfl) (by kernel_rfl) (fun _ _ _ h => h) rfl rfl ⟨hB, h1⟩ (fun w' h' => exec_load_one 2 _ rfl w.heap.size 0 rfl (.int .i64 p) _ Try.underlying2 rfl (h'.2.at_ 0)) ?_
                go_frame
                refine y_yield 2 (some 110) (.agg #[.int .i64 p, .int .i64 a, .int .i64 b, .int .i64 d, .slice (some ⟨bB, oB, none⟩) N c]) rfl (by kernel_rfl) (by kernel_rfl) (by kernel_rfl) (fun _ _ _ h => h) rfl rfl ⟨hB, h1⟩ (fun w' h' => exec_load_all 28 _ rfl w.heap.size rfl _ _ _ h'.2 Try.underlying28 rfl 5 (by kernel_rfl) rfl) ?_
                go_frame
                refine y_yield 4 (some 112) (.func (.func 39) #[] #[.pointer (some ⟨br9, 0, none⟩), .pointer (some ⟨br10, 0, none⟩), .pointer (some ⟨br11, 0, none⟩)]) rfl (by kernel_rfl) (by kernel_rfl) (by kernel_rfl) (fun _ _ _ h => h) rfl rfl ⟨hB, h1⟩ (fun w' h' => exec_mkfn3 _ _ _ _ rfl _ _ _ rfl rfl rfl) ?_
                go_frame
                refine y_two 3 6 (by kernel_rfl) rfl rfl rfl rfl (fun K' hK' => ?_) (fun K' hK' => ?_)
                · have lz59 := hB.size
                  have lz60 := h1.lt
                  have lz61 := hbr9.lt
                  have lz62 := hbr10.lt
                  have lz63 := hbr11.lt
                  have lz64 := hbr49.lt
                  have lz65 := hbr52.lt
                  have lz66 := hbr55.lt
                  refine wp_call1 (some 111) rfl 29 _ _ rfl (fun args w => by kernel_rfl) _ rfl _ (boxOf_c p a b d _ _) (fun e Wz57 h => ?_)
                  obtain ⟨rfl, bz58⟩ := h
                  replace hB := below_after hB bz58
                  replace h1 := h1.after bz58
                  replace hbr9 := hbr9.after bz58
                  replace hbr10 := hbr10.after bz58
                  replace hbr11 := hbr11.after bz58
                  replace hbr49 := hbr49.after bz58
                  replace hbr52 := hbr52.after bz58
                  replace hbr55 := hbr55.after bz58
                  clear bz58
                  refine ⟨_, rfl, ?_⟩
                  refine hK' _ _ ⟨hB, h1⟩ (fun _ => trivial) ?_
                  clear hK' K'
                  go_frame
                  refine y_two 5 6 (by kernel_rfl) rfl rfl rfl rfl (fun K' hK' => ?_) (fun K' hK' => ?_)
                  · have lz69 := hB.size
                    have lz70 := h1.lt
                    have lz71 := hbr9.lt
                    have lz72 := hbr10.lt
                    have lz73 := hbr11.lt
                    have lz74 := hbr49.lt
                    have lz75 := hbr52.lt
                    have lz76 := hbr55.lt
                    have lo9 := hB.size
                    refine wp_call3 (some 113) rfl 38 _ _ _ _ rfl (fun args w => by kernel_rfl) _ _ _ rfl rfl rfl _ (tensorWithSf_c p a b d br9 br10 br11 (fun i j k => sfM UL VL WL i j k) _ (by omega) HSa.out HSb.out HSd.out (fun i j k w1 hi hj hk hb => ⟨sfM_nn Hnn.out i j k, sf2_c br9 br10 br11 br49 br52 br55 p a b d UL VL WL i j k w1 (hbr9.after hb) (hbr10.after hb) (hbr11.after hb) (hbr49.after hb) (hbr52.after hb) (hbr55.after hb) HLu.out HLv.out HLw.out hi hj hk Hnn.out (by omega)⟩)) (fun e Wz67 h => ?_)
                    obtain ⟨v5, rfl, ho, bz68⟩ := h
                    replace hB := below_after hB bz68
                    replace h1 := h1.after bz68
                    replace hbr9 := hbr9.after bz68
                    replace hbr10 := hbr10.after bz68
                    replace hbr11 := hbr11.after bz68
                    replace hbr49 := hbr49.after bz68
                    replace hbr52 := hbr52.after bz68
                    replace hbr55 := hbr55.after bz68
                    rw [HGL.out] at ho
                    obtain ⟨A5, c5, rfl, _⟩ := ho.rd
                    clear bz68
                    refine ⟨_, rfl, ?_⟩
                    refine hK' _ _ ⟨hB, h1⟩ (fun _ => trivial) ?_
                    clear hK' K'
                    go_frame
                    refine y_oper 6 (by kernel_rfl) rfl rfl (fun K' hK' => ?_)
                    have lz77 := hB.size
                    have lz78 := h1.lt
                    have lz79 := hbr9.lt
                    have lz80 := hbr10.lt
                    have lz81 := hbr11.lt
                    have lz82 := hbr49.lt
                    have lz83 := hbr52.lt
                    have lz84 := hbr55.lt
                    have naz89 := ho.away_new
                    refine wp_new (some 15) rfl (alSf_impl_Tensor rfl) (fun Wz85 nnz86 => ?_)
                    have bz87 := nnz86.below (Below.refl _ _) (Nat.le_refl _)
                    replace hB := below_after hB bz87
                    replace h1 := h1.after bz87
                    replace hbr9 := hbr9.after bz87
                    replace hbr10 := hbr10.after bz87
                    replace hbr11 := hbr11.after bz87
                    replace hbr49 := hbr49.after bz87
                    replace hbr52 := hbr52.after bz87
                    replace hbr55 := hbr55.after bz87
                    replace ho := ho.below bz87
                    have hz88 : At Wz85 Wz67.heap.size (.cells #[.int .i64 0, .int .i64 0, .int .i64 0, .int .i64 0, .slice none 0 0] 28 (0, 0)) := nnz86.at_
                    refine hK' _ _ ⟨hB, h1⟩ (fun _ => trivial) ?_
                    clear hK' K' nnz86 bz87
                    go_frame
                    refine y_oper 7 (by kernel_rfl) rfl rfl (fun K' hK' => ?_)
                    refine wp_store_all 28 _ _ rfl rfl Wz67.heap.size rfl #[.int .i64 p, .int .i64 a, .int .i64 b, .int .i64 d, .slice A5 GL.length c5] rfl _ _ hz88 5 (by kernel_rfl) rfl rfl (one5 _ _ _ _ _ _ _) (fun Wz90 pz91 => ?_)
                    replace hB := pz91.below hB (by omega)
                    replace h1 := pz91.other h1 (by omega)
                    replace hbr9 := pz91.other hbr9 (by omega)
                    replace hbr10 := pz91.other hbr10 (by omega)
                    replace hbr11 := pz91.other hbr11 (by omega)
                    replace hbr49 := pz91.other hbr49 (by omega)
                    replace hbr52 := pz91.other hbr52 (by omega)
                    replace hbr55 := pz91.other hbr55 (by omega)
                    replace ho := ho.put pz91 naz89
                    replace hz88 : At Wz90 Wz67.heap.size (.cells #[.int .i64 p, .int .i64 a, .int .i64 b, .int .i64 d, .slice A5 GL.length c5] 28 (0, 0)) := pz91.at_
                    refine hK' _ _ ⟨hB, h1⟩ (fun _ => trivial) ?_
                    clear hK' K' pz91
                    refine y_done (by kernel_rfl) ?_ _
                    go_wp2_with fail
                    go_meet
                    exact ⟨_, _, _, rfl, hz88, ho.mono (by omega), hB, h1, hbr9, hbr10, hbr11, hbr49, hbr52, hbr55⟩
                  · have lz92 := hB.size
                    have lz93 := h1.lt
                    have lz94 := hbr9.lt
                    have lz95 := hbr10.lt
                    have lz96 := hbr11.lt
                    have lz97 := hbr49.lt
                    have lz98 := hbr52.lt
                    have lz99 := hbr55.lt
                    refine wp_new (some 15) rfl (alSf_impl_Tensor rfl) (fun Wz100 nnz101 => ?_)
                    have bz102 := nnz101.below (Below.refl _ _) (Nat.le_refl _)
                    replace hB := below_after hB bz102
                    replace h1 := h1.after bz102
                    replace hbr9 := hbr9.after bz102
                    replace hbr10 := hbr10.after bz102
                    replace hbr11 := hbr11.after bz102
                    replace hbr49 := hbr49.after bz102
                    replace hbr52 := hbr52.after bz102
                    replace hbr55 := hbr55.after bz102
                    have hz103 : At Wz100 Wz57.heap.size (.cells #[.int .i64 0, .int .i64 0, .int .i64 0, .int .i64 0, .slice none 0 0] 28 (0, 0)) := nnz101.at_
                    refine hK' _ _ ⟨hB, h1⟩ (fun _ => trivial) ?_
                    clear hK' K' nnz101 bz102
                    go_frame
                    refine y_oper 5 (by kernel_rfl) rfl rfl (fun K' hK' => ?_)
                    have lz106 := hB.size
                    have lz107 := h1.lt
                    have lz108 := hbr9.lt
                    have lz109 := hbr10.lt
                    have lz110 := hbr11.lt
                    have lz111 := hbr49.lt
                    have lz112 := hbr52.lt
                    have lz113 := hbr55.lt
                    have lz114 := hz103.lt
                    have lo9 := hB.size
                    refine wp_call3 (some 113) rfl 38 _ _ _ _ rfl (fun args w => by kernel_rfl) _ _ _ rfl rfl rfl _ (tensorWithSf_c p a b d br9 br10 br11 (fun i j k => sfM UL VL WL i j k) _ (by omega) HSa.out HSb.out HSd.out (fun i j k w1 hi hj hk hb => ⟨sfM_nn Hnn.out i j k, sf2_c br9 br10 br11 br49 br52 br55 p a b d UL VL WL i j k w1 (hbr9.after hb) (hbr10.after hb) (hbr11.after hb) (hbr49.after hb) (hbr52.after hb) (hbr55.after hb) HLu.out HLv.out HLw.out hi hj hk Hnn.out (by omega)⟩)) (fun e Wz104 h => ?_)
                    obtain ⟨v5, rfl, ho, bz105⟩ := h
                    replace hB := below_after hB bz105
                    replace h1 := h1.after bz105
                    replace hbr9 := hbr9.after bz105
                    replace hbr10 := hbr10.after bz105
                    replace hbr11 := hbr11.after bz105
                    replace hbr49 := hbr49.after bz105
                    replace hbr52 := hbr52.after bz105
                    replace hbr55 := hbr55.after bz105
                    replace hz103 := hz103.after bz105
                    rw [HGL.out] at ho
                    obtain ⟨A5, c5, rfl, _⟩ := ho.rd
                    clear bz105
                    refine ⟨_, rfl, ?_⟩
                    refine hK' _ _ ⟨hB, h1⟩ (fun _ => trivial) ?_
                    clear hK' K'
                    go_frame
                    refine y_oper 7 (by kernel_rfl) rfl rfl (fun K' hK' => ?_)
                    refine wp_store_all 28 _ _ rfl rfl Wz57.heap.size rfl #[.int .i64 p, .int .i64 a, .int .i64 b, .int .i64 d, .slice A5 GL.length c5] rfl _ _ hz103 5 (by kernel_rfl) rfl rfl (one5 _ _ _ _ _ _ _) (fun Wz115 pz116 => ?_)
                    replace hB := pz116.below hB (by omega)
                    replace h1 := pz116.other h1 (by omega)
                    replace hbr9 := pz116.other hbr9 (by omega)
                    replace hbr10 := pz116.other hbr10 (by omega)
                    replace hbr11 := pz116.other hbr11 (by omega)
                    replace hbr49 := pz116.other hbr49 (by omega)
                    replace hbr52 := pz116.other hbr52 (by omega)
                    replace hbr55 := pz116.other hbr55 (by omega)
                    replace ho := ho.put pz116 (ho.ne_lt (by omega))
                    replace hz103 : At Wz115 Wz57.heap.size (.cells #[.int .i64 p, .int .i64 a, .int .i64 b, .int .i64 d, .slice A5 GL.length c5] 28 (0, 0)) := pz116.at_
                    refine hK' _ _ ⟨hB, h1⟩ (fun _ => trivial) ?_
                    clear hK' K' pz116
                    refine y_done (by kernel_rfl) ?_ _
                    go_wp2_with fail
                    go_meet
                    exact ⟨_, _, _, rfl, hz103, ho.mono (by omega), hB, h1, hbr9, hbr10, hbr11, hbr49, hbr52, hbr55⟩
                · have lz117 := hB.size
                  have lz118 := h1.lt
                  have lz119 := hbr9.lt
                  have lz120 := hbr10.lt
                  have lz121 := hbr11.lt
                  have lz122 := hbr49.lt
                  have lz123 := hbr52.lt
                  have lz124 := hbr55.lt
                  refine wp_new (some 15) rfl (alSf_impl_Tensor rfl) (fun Wz125 nnz126 => ?_)
                  have bz127 := nnz126.below (Below.refl _ _) (Nat.le_refl _)
                  replace hB := below_after hB bz127
                  replace h1 := h1.after bz127
                  replace hbr9 := hbr9.after bz127
                  replace hbr10 := hbr10.after bz127
                  replace hbr11 := hbr11.after bz127
                  replace hbr49 := hbr49.after bz127
                  replace hbr52 := hbr52.after bz127
                  replace hbr55 := hbr55.after bz127
                  have hz128 : At Wz125 wdz56.heap.size (.cells #[.int .i64 0, .int .i64 0, .int .i64 0, .int .i64 0, .slice none 0 0] 28 (0, 0)) := nnz126.at_
                  refine hK' _ _ ⟨hB, h1⟩ (fun _ => trivial) ?_
                  clear hK' K' nnz126 bz127
                  go_frame
                  refine y_oper 3 (by kernel_rfl) rfl rfl (fun K' hK' => ?_)
                  have lz131 := hB.size
                  have lz132 := h1.lt
                  have lz133 := hbr9.lt
                  have lz134 := hbr10.lt
                  have lz135 := hbr11.lt
                  have lz136 := hbr49.lt
                  have lz137 := hbr52.lt
                  have lz138 := hbr55.lt
                  have lz139 := hz128.lt
                  refine wp_call1 (some 111) rfl 29 _ _ rfl (fun args w => by kernel_rfl) _ rfl _ (boxOf_c p a b d _ _) (fun e Wz129 h => ?_)
                  obtain ⟨rfl, bz130⟩ := h
                  replace hB := below_after hB bz130
                  replace h1 := h1.after bz130
                  replace hbr9 := hbr9.after bz130
                  replace hbr10 := hbr10.after bz130
                  replace hbr11 := hbr11.after bz130
                  replace hbr49 := hbr49.after bz130
                  replace hbr52 := hbr52.after bz130
                  replace hbr55 := hbr55.after bz130
                  replace hz128 := hz128.after bz130
                  clear bz130
                  refine ⟨_, rfl, ?_⟩
                  refine hK' _ _ ⟨hB, h1⟩ (fun _ => trivial) ?_
                  clear hK' K'
                  go_frame
                  refine y_oper 5 (by kernel_rfl) rfl rfl (fun K' hK' => ?_)
                  have lz142 := hB.size
                  have lz143 := h1.lt
                  have lz144 := hbr9.lt
                  have lz145 := hbr10.lt
                  have lz146 := hbr11.lt
                  have lz147 := hbr49.lt
                  have lz148 := hbr52.lt
                  have lz149 := hbr55.lt
                  have lz150 := hz128.lt
                  have lo9 := hB.size
                  refine wp_call3 (some 113) rfl 38 _ _ _ _ rfl (fun args w => by kernel_rfl) _ _ _ rfl rfl rfl _ (tensorWithSf_c p a b d br9 br10 br11 (fun i j k => sfM UL VL WL i j k) _ (by omega) HSa.out HSb.out HSd.out (fun i j k w1 hi hj hk hb => ⟨sfM_nn Hnn.out i j k, sf2_c br9 br10 br11 br49 br52 br55 p a b d UL VL WL i j k w1 (hbr9.after hb) (hbr10.after hb) (hbr11.after hb) (hbr49.after hb) (hbr52.after hb) (hbr55.after hb) HLu.out HLv.out HLw.out hi hj hk Hnn.out (by omega)⟩)) (fun e Wz140 h => ?_)
                  obtain ⟨v5, rfl, ho, bz141⟩ := h
                  replace hB := below_after hB bz141
                  replace h1 := h1.after bz141
                  replace hbr9 := hbr9.after bz141
                  replace hbr10 := hbr10.after bz141
                  replace hbr11 := hbr11.after bz141
                  replace hbr49 := hbr49.after bz141
                  replace hbr52 := hbr52.after bz141
                  replace hbr55 := hbr55.after bz141
                  replace hz128 := hz128.after bz141
                  rw [HGL.out] at ho
                  obtain ⟨A5, c5, rfl, _⟩ := ho.rd
                  clear bz141
                  refine ⟨_, rfl, ?_⟩
                  refine hK' _ _ ⟨hB, h1⟩ (fun _ => trivial) ?_
                  clear hK' K'
                  go_frame
                  refine y_oper 7 (by kernel_rfl) rfl rfl (fun K' hK' => ?_)
                  refine wp_store_all 28 _ _ rfl rfl wdz56.heap.size rfl #[.int .i64 p, .int .i64 a, .int .i64 b, .int .i64 d, .slice A5 GL.length c5] rfl _ _ hz128 5 (by kernel_rfl) rfl rfl (one5 _ _ _ _ _ _ _) (fun Wz151 pz152 => ?_)
                  replace hB := pz152.below hB (by omega)
                  replace h1 := pz152.other h1 (by omega)
                  replace hbr9 := pz152.other hbr9 (by omega)
                  replace hbr10 := pz152.other hbr10 (by omega)
                  replace hbr11 := pz152.other hbr11 (by omega)
                  replace hbr49 := pz152.other hbr49 (by omega)
                  replace hbr52 := pz152.other hbr52 (by omega)
                  replace hbr55 := pz152.other hbr55 (by omega)
                  replace ho := ho.put pz152 (ho.ne_lt (by omega))
                  replace hz128 : At Wz151 wdz56.heap.size (.cells #[.int .i64 p, .int .i64 a, .int .i64 b, .int .i64 d, .slice A5 GL.length c5] 28 (0, 0)) := pz152.at_
                  refine hK' _ _ ⟨hB, h1⟩ (fun _ => trivial) ?_
                  clear hK' K' pz152
                  refine y_done (by kernel_rfl) ?_ _
                  go_wp2_with fail
                  go_meet
                  exact ⟨_, _, _, rfl, hz128, ho.mono (by omega), hB, h1, hbr9, hbr10, hbr11, hbr49, hbr52, hbr55⟩
              case rest =>
              clear hB h1 hbr9 hbr10 hbr11 hbr49 hbr52 hbr55
              obtain ⟨B15, A5, c5, rfl, h15, ho, hB, h1, hbr9, hbr10, hbr11, hbr49, hbr52, hbr55⟩ := hcut
              obtain ⟨wc, rfl⟩ := cut_worldS hB
              go_upto_region 23 with (fail)
              refine wp_region_y (zs := []) (S := fun w' => Below w.heap.size w w' ∧ At w' br9 (.cells #[.slice (some ⟨br49, 0, none⟩) a a] 22 (0, 0)) ∧ At w' br10 (.cells #[.slice (some ⟨br52, 0, none⟩) b b] 22 (0, 0)) ∧ At w' br11 (.cells #[.slice (some ⟨br55, 0, none⟩) d d] 22 (0, 0)) ∧ At w' B15 (.cells #[.int .i64 p, .int .i64 a, .int .i64 b, .int .i64 d, .slice A5 GL.length c5] 28 (0, 0)) ∧ At w' w.heap.size (.cells #[.int .i64 p, .int .i64 a, .int .i64 b, .int .i64 d, .slice (some ⟨bB, oB, none⟩) N c] 28 (0, 0))) (S2 := fun w' => True) (by kernel_rfl) ?_
              change wpAnyY _ _ _ _ _ _ _ _ _ _ (World.drew _)
              generalize hwdz153 : World.drew _ = wdz153
              replace hB : Below w.heap.size w wdz153 := by rw [← hwdz153]; exact hB.drew
              replace h1 : At wdz153 w.heap.size (.cells #[.int .i64 p, .int .i64 a, .int .i64 b, .int .i64 d, .slice (some ⟨bB, oB, none⟩) N c] 28 (0, 0)) := by rw [← hwdz153]; exact h1
              replace hbr9 : At wdz153 br9 (.cells #[.slice (some ⟨br49, 0, none⟩) a a] 22 (0, 0)) := by rw [← hwdz153]; exact hbr9
              replace hbr10 : At wdz153 br10 (.cells #[.slice (some ⟨br52, 0, none⟩) b b] 22 (0, 0)) := by rw [← hwdz153]; exact hbr10
              replace hbr11 : At wdz153 br11 (.cells #[.slice (some ⟨br55, 0, none⟩) d d] 22 (0, 0)) := by rw [← hwdz153]; exact hbr11
              replace hbr49 : At wdz153 br49 (.cells (iar (UL)) 2 (0, 0)) := by rw [← hwdz153]; exact hbr49
              replace hbr52 : At wdz153 br52 (.cells (iar (VL)) 2 (0, 0)) := by rw [← hwdz153]; exact hbr52
              replace hbr55 : At wdz153 br55 (.cells (iar (WL)) 2 (0, 0)) := by rw [← hwdz153]; exact hbr55
              replace h15 : At wdz153 B15 (.cells #[.int .i64 p, .int .i64 a, .int .i64 b, .int .i64 d, .slice A5 GL.length c5] 28 (0, 0)) := by rw [← hwdz153]; exact h15
              replace ho : OwnI wdz153 w.heap.size (.slice A5 GL.length c5) GL := by rw [← hwdz153]; exact ho.drew
              clear hwdz153
              refine y_yield 0 (some 114) (.slice (some ⟨br49, 0, none⟩) a a) rfl (by kernel_rfl) (by kernel_rfl) (by kernel_rfl) (fun _ _ _ h => h) rfl rfl ⟨hB, hbr9, hbr10, hbr11, h15, h1⟩ (fun w' h' => exec_load_one 22 _ rfl br9 0 rfl (.slice (some ⟨br49, 0, none⟩) a a) _ Try.underlying22 rfl (h'.2.1.at_ 0)) ?_
              go_frame
              refine y_yield 1 (some 115) (.slice (some ⟨br52, 0, none⟩) b b) rfl (by kernel_rfl) (by kernel_rfl) (by kernel_rfl) (fun _ _ _ h => h) rfl rfl ⟨hB, hbr9, hbr10, hbr11, h15, h1⟩ (fun w' h' => exec_load_one 22 _ rfl br10 0 rfl (.slice (some ⟨br52, 0, none⟩) b b) _ Try.underlying22 rfl (h'.2.2.1.at_ 0)) ?_
              go_frame
              refine y_yield 2 (some 116) (.slice (some ⟨br55, 0, none⟩) d d) rfl (by kernel_rfl) (by kernel_rfl) (by kernel_rfl) (fun _ _ _ h => h) rfl rfl ⟨hB, hbr9, hbr10, hbr11, h15, h1⟩ (fun w' h' => exec_load_one 22 _ rfl br11 0 rfl (.slice (some ⟨br55, 0, none⟩) d d) _ Try.underlying22 rfl (h'.2.2.2.1.at_ 0)) ?_
              go_frame
              refine y_yield 4 (some 118) (.pointer (some ⟨B15, 4, none⟩)) rfl (by kernel_rfl) (by kernel_rfl) (by kernel_rfl) (fun _ _ _ h => h) rfl rfl ⟨hB, hbr9, hbr10, hbr11, h15, h1⟩ (fun w' h' => exec_fieldAddr 28 _ 4 rfl _ (by kernel_rfl)) ?_
              go_frame
              refine y_yield 5 (some 119) (.slice A5 GL.length c5) rfl (by kernel_rfl) (by kernel_rfl) (by kernel_rfl) (fun _ _ _ h => h) rfl rfl ⟨hB, hbr9, hbr10, hbr11, h15, h1⟩ (fun w' h' => exec_load_one 22 _ rfl B15 4 rfl (.slice A5 GL.length c5) _ Try.underlying22 rfl (h'.2.2.2.2.1.at_ 4)) ?_
              go_frame
              refine y_yield 6 (some 120) (.pointer (some ⟨w.heap.size, 4, none⟩)) rfl (by kernel_rfl) (by kernel_rfl) (by kernel_rfl) (fun _ _ _ h => h) rfl rfl ⟨hB, hbr9, hbr10, hbr11, h15, h1⟩ (fun w' h' => exec_fieldAddr 28 _ 4 rfl _ (by kernel_rfl)) ?_
              go_frame
              refine y_yield 7 (some 121) (.slice (some ⟨bB, oB, none⟩) N c) rfl (by kernel_rfl) (by kernel_rfl) (by kernel_rfl) (fun _ _ _ h => h) rfl rfl ⟨hB, hbr9, hbr10, hbr11, h15, h1⟩ (fun w' h' => exec_load_one 22 _ rfl w.heap.size 4 rfl (.slice (some ⟨bB, oB, none⟩) N c) _ Try.underlying22 rfl (h'.2.2.2.2.2.at_ 4)) ?_
              go_frame
              refine y_two 3 8 (by kernel_rfl) rfl rfl rfl rfl (fun K' hK' => ?_) (fun K' hK' => ?_)
              · have lz154 := hB.size
                have lz155 := h1.lt
                have lz156 := hbr9.lt
                have lz157 := hbr10.lt
                have lz158 := hbr11.lt
                have lz159 := hbr49.lt
                have lz160 := hbr52.lt
                have lz161 := hbr55.lt
                have lz162 := h15.lt
                have naz167 := ho.away_new
                refine wp_new (some 117) rfl (exec_bsM3 _ _ _ rfl ((some ⟨br49, 0, none⟩)) a a ((some ⟨br52, 0, none⟩)) b b ((some ⟨br55, 0, none⟩)) d d rfl rfl rfl) (fun Wz163 nnz164 => ?_)
                have bz165 := nnz164.below (Below.refl _ _) (Nat.le_refl _)
                replace hB := below_after hB bz165
                replace h1 := h1.after bz165
                replace hbr9 := hbr9.after bz165
                replace hbr10 := hbr10.after bz165
                replace hbr11 := hbr11.after bz165
                replace hbr49 := hbr49.after bz165
                replace hbr52 := hbr52.after bz165
                replace hbr55 := hbr55.after bz165
                replace h15 := h15.after bz165
                replace ho := ho.below bz165
                have hz166 : At Wz163 wdz153.heap.size (.cells #[.slice (some ⟨br49, 0, none⟩) a a, .slice (some ⟨br52, 0, none⟩) b b, .slice (some ⟨br55, 0, none⟩) d d] 22 (0, 0)) := nnz164.at_
                refine hK' _ _ ⟨hB, hbr9, hbr10, hbr11, h15, h1⟩ (fun _ => trivial) ?_
                clear hK' K' nnz164 bz165
                go_frame
                refine y_oper 8 (by kernel_rfl) rfl rfl (fun K' hK' => ?_)
                have lz170 := hB.size
                have lz171 := h1.lt
                have lz172 := hbr9.lt
                have lz173 := hbr10.lt
                have lz174 := hbr11.lt
                have lz175 := hbr49.lt
                have lz176 := hbr52.lt
                have lz177 := hbr55.lt
                have lz178 := h15.lt
                have lz179 := hz166.lt
                refine wp_call2 (some 122) rfl 40 _ _ _ rfl (fun args w => by kernel_rfl) _ _ rfl rfl _ (equalSf_c A5 (some ⟨bB, oB, none⟩) c5 c GL xs N HXl.out _ ho.rd' (hX.keep hB) (by omega)) (fun e Wz168 h => ?_)
                obtain ⟨rfl, bz169⟩ := h
                replace hB := below_after hB bz169
                replace h1 := h1.after bz169
                replace hbr9 := hbr9.after bz169
                replace hbr10 := hbr10.after bz169
                replace hbr11 := hbr11.after bz169
                replace hbr49 := hbr49.after bz169
                replace hbr52 := hbr52.after bz169
                replace hbr55 := hbr55.after bz169
                replace h15 := h15.after bz169
                replace ho := ho.below bz169
                replace hz166 := hz166.after bz169
                clear bz169
                refine ⟨_, rfl, ?_⟩
                refine hK' _ _ ⟨hB, hbr9, hbr10, hbr11, h15, h1⟩ (fun _ => trivial) ?_
                clear hK' K'
                go_frame
                refine y_oper 9 (by kernel_rfl) rfl rfl (fun K' hK' => ?_)
                refine wp_exec (some 2) rfl (.slice (some ⟨wdz153.heap.size, 0, none⟩) 3 3) (exec_assign _ rfl (.slice (some ⟨wdz153.heap.size, 0, none⟩) 3 3) rfl) ?_
                refine hK' _ _ ⟨hB, hbr9, hbr10, hbr11, h15, h1⟩ (fun _ => trivial) ?_
                clear hK' K'
                go_frame
                refine y_oper 10 (by kernel_rfl) rfl rfl (fun K' hK' => ?_)
                refine wp_exec (some 3) rfl (.bool (GL == xs)) (exec_assign _ rfl (.bool (GL == xs)) rfl) ?_
                refine hK' _ _ ⟨hB, hbr9, hbr10, hbr11, h15, h1⟩ (fun _ => trivial) ?_
                clear hK' K'
                go_frame
                refine y_done (by kernel_rfl) ?_ _
                go_wp2_with fail
                go_ret2
                exact ⟨wdz153.heap.size, br49, br52, br55, by rw [HGB.out]; rfl, ⟨by omega, by omega, by omega, by omega⟩, ⟨nr49_52, nr49_55, nr52_55⟩, ⟨by omega, by omega, by omega⟩, hz166, by rw [HUS.out]; exact hbr49, by rw [HVS.out]; exact hbr52, by rw [HWS.out]; exact hbr55, hB⟩
              · have lz182 := hB.size
                have lz183 := h1.lt
                have lz184 := hbr9.lt
                have lz185 := hbr10.lt
                have lz186 := hbr11.lt
                have lz187 := hbr49.lt
                have lz188 := hbr52.lt
                have lz189 := hbr55.lt
                have lz190 := h15.lt
                refine wp_call2 (some 122) rfl 40 _ _ _ rfl (fun args w => by kernel_rfl) _ _ rfl rfl _ (equalSf_c A5 (some ⟨bB, oB, none⟩) c5 c GL xs N HXl.out _ ho.rd' (hX.keep hB) (by omega)) (fun e Wz180 h => ?_)
                obtain ⟨rfl, bz181⟩ := h
                replace hB := below_after hB bz181
                replace h1 := h1.after bz181
                replace hbr9 := hbr9.after bz181
                replace hbr10 := hbr10.after bz181
                replace hbr11 := hbr11.after bz181
                replace hbr49 := hbr49.after bz181
                replace hbr52 := hbr52.after bz181
                replace hbr55 := hbr55.after bz181
                replace h15 := h15.after bz181
                replace ho := ho.below bz181
                clear bz181
                refine ⟨_, rfl, ?_⟩
                refine hK' _ _ ⟨hB, hbr9, hbr10, hbr11, h15, h1⟩ (fun _ => trivial) ?_
                clear hK' K'
                go_frame
                refine y_oper 3 (by kernel_rfl) rfl rfl (fun K' hK' => ?_)
                have lz191 := hB.size
                have lz192 := h1.lt
                have lz193 := hbr9.lt
                have lz194 := hbr10.lt
                have lz195 := hbr11.lt
                have lz196 := hbr49.lt
                have lz197 := hbr52.lt
                have lz198 := hbr55.lt
                have lz199 := h15.lt
                have naz204 := ho.away_new
                refine wp_new (some 117) rfl (exec_bsM3 _ _ _ rfl ((some ⟨br49, 0, none⟩)) a a ((some ⟨br52, 0, none⟩)) b b ((some ⟨br55, 0, none⟩)) d d rfl rfl rfl) (fun Wz200 nnz201 => ?_)
                have bz202 := nnz201.below (Below.refl _ _) (Nat.le_refl _)
                replace hB := below_after hB bz202
                replace h1 := h1.after bz202
                replace hbr9 := hbr9.after bz202
                replace hbr10 := hbr10.after bz202
                replace hbr11 := hbr11.after bz202
                replace hbr49 := hbr49.after bz202
                replace hbr52 := hbr52.after bz202
                replace hbr55 := hbr55.after bz202
                replace h15 := h15.after bz202
                replace ho := ho.below bz202
                have hz203 : At Wz200 Wz180.heap.size (.cells #[.slice (some ⟨br49, 0, none⟩) a a, .slice (some ⟨br52, 0, none⟩) b b, .slice (some ⟨br55, 0, none⟩) d d] 22 (0, 0)) := nnz201.at_
                refine hK' _ _ ⟨hB, hbr9, hbr10, hbr11, h15, h1⟩ (fun _ => trivial) ?_
                clear hK' K' nnz201 bz202
                go_frame
                refine y_oper 9 (by kernel_rfl) rfl rfl (fun K' hK' => ?_)
                refine wp_exec (some 2) rfl (.slice (some ⟨Wz180.heap.size, 0, none⟩) 3 3) (exec_assign _ rfl (.slice (some ⟨Wz180.heap.size, 0, none⟩) 3 3) rfl) ?_
                refine hK' _ _ ⟨hB, hbr9, hbr10, hbr11, h15, h1⟩ (fun _ => trivial) ?_
                clear hK' K'
                go_frame
                refine y_oper 10 (by kernel_rfl) rfl rfl (fun K' hK' => ?_)
                refine wp_exec (some 3) rfl (.bool (GL == xs)) (exec_assign _ rfl (.bool (GL == xs)) rfl) ?_
                refine hK' _ _ ⟨hB, hbr9, hbr10, hbr11, h15, h1⟩ (fun _ => trivial) ?_
                clear hK' K'
                go_frame
                refine y_done (by kernel_rfl) ?_ _
                go_wp2_with fail
                go_ret2
                exact ⟨Wz180.heap.size, br49, br52, br55, by rw [HGB.out]; rfl, ⟨by omega, by omega, by omega, by omega⟩, ⟨nr49_52, nr49_55, nr52_55⟩, ⟨by omega, by omega, by omega⟩, hz203, by rw [HUS.out]; exact hbr49, by rw [HVS.out]; exact hbr52, by rw [HWS.out]; exact hbr55, hB⟩
end Go.Proofs.Ytcfgpjkdonidgaa
