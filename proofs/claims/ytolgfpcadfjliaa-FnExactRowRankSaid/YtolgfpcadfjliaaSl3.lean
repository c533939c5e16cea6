/-
  slices.Clone of int64, impl.sliceAt. (Made by mksl3.py.)
-/
import Derived.Test.YtolgfpcadfjliaaSl2
namespace Go.Proofs.Ytolgfpcadfjliaa
open Go.RowKit
set_option maxRecDepth 100000
theorem exec_eqnil {P : Program} {o : Oper} {a : Act} {w : World} (t rt e : TypeId) (x y : Operand) (ho : o.op = .binOp .eql t x y rt) (hu : P.underlying t = some (.slice e)) (A : Option Addr) (n c : Nat) (hx : a.eval x = .slice A n c) (hy : a.eval y = .slice none 0 0) :
    (execOp a.eval o).run P w = .ok (.value (.bool A.isNone)) w := by
  have h := Lib.run_eql_slice_nil (P := P) w t e A n c 0 0 hu
  unfold execOp
  simp only [ho, hx, hy]
  simp [eqGuard, h]
attribute [local irreducible] wpList
theorem exec_bs0S {o : Oper} {a : Act} {w : World} (ho : o.op = .buildSlice 22 0 #[]) : (execOp a.eval o).run Try.prog w = .ok (.value (.slice (some ⟨w.heap.size, 0, none⟩) 0 0)) (w.alloc (.cells #[] 2 (0, 0))) := by
  unfold execOp
  rw [ho]
  kernel_rfl
theorem own_nilS {w : World} {lo b : Nat} (h : At w b (.cells #[] 2 (0, 0))) (hl : lo ≤ b) : OwnI w lo (.slice (some ⟨b, 0, none⟩) 0 0) [] := ⟨by simp [i64s], .inr ⟨b, 0, #[], rfl, hl, h, by simp, by simp, by simp, by simp [i64s]⟩⟩
theorem i64s_get {ys : List Int} {j : Nat} {u : Value} (h : (i64s ys)[j]? = some u) : ∃ X, ys[j]? = some X ∧ u = .int .i64 X := by
  unfold i64s at h
  rw [List.getElem?_map] at h
  rcases hy : ys[j]? with _ | X
  · rw [hy] at h
    cases h
  · rw [hy, Option.map_some] at h
    exact ⟨X, rfl, by simpa using h.symm⟩
theorem wp_appL {o : Oper} {a : Act} {w : World} {K : Act → World → Prop} {Q : Exit → Act → World → Prop} (d : Option Tmp) (hd : o.dst = d) (s x : Operand) (ho : o.op = .call { callee := .builtin .append, args := #[s, x], argTypes := #[22, 22] })
    {lo : Nat} (v : Value) (ys : List Int) (hs : a.eval s = v) (hown : OwnI w lo v []) (b off N c : Nat) (hx : a.eval x = .slice (some ⟨b, off, none⟩) N c) (hr : RdI w (some ⟨b, off, none⟩) ys) (hl : ys.length = N) (hle : N ≤ 1000000) (hlo : lo ≤ w.heap.size)
    (h : ∀ v' w', OwnI w' lo v' ys → w.grownBy w' v.ownBlock → K (a.put d v') w') : Oper.wp Try.prog o a w K Q := by
  obtain ⟨i0, hi, hz0, hz1, hz2⟩ := info_parts infoI64
  refine wp_append' d hd s x 22 ho lo 2 i0 (.int .i64 0) 1 8 Try.underlying22 hi hz0 hz1 hz2 rfl (by decide) v _ _ hs hown ⟨b, off, none⟩ N c (i64s ys) hx (by simp [i64s, hl]) ?_ (i64s_ones _) (by unfold maxLen; simp; omega) (by simp; omega) hlo ?_
  · intro j u hj
    obtain ⟨X, hX, rfl⟩ := i64s_get hj
    rcases hr with rfl | ⟨b', off', e, hc⟩
    · cases hX
    · simp only [Option.some.injEq, Addr.mk.injEq, and_true] at e
      obtain ⟨rfl, rfl⟩ := e
      have h5 := hc j X hX
      simp only [Addr.add]
      split
      · next e0 =>
        subst e0
        simpa using h5
      · exact h5
  · intro v1 w8 own8 gr8 _
    refine h v1 w8 ?_ gr8
    unfold OwnI
    rw [hl]
    simpa [i64s] using own8
theorem exec_slice2 {o : Oper} {a : Act} {w : World} (x y z : Operand) (ho : o.op = .slice 22 x (some y) (some z) none) (b off N c P M : Nat) (h1 : P + M ≤ N) (h2 : 0 < M ∧ N ≤ c) (hx : a.eval x = .slice (some ⟨b, off, none⟩) N c) (hy : a.eval y = .int .i64 (P : Int)) (hz : a.eval z = .int .i64 ((P + M : Nat) : Int)) :
    (execOp a.eval o).run Try.prog w = .ok (.value (.slice (some ⟨b, off + P, none⟩) M (c - P))) w := by
  have h := run_slice_lh (P := Try.prog) (w := w) 22 (some ⟨b, off, none⟩) N c elem_i64 .i64 .i64 (P : Int) ((P + M : Nat) : Int) (by omega) (by omega) (by omega)
  rw [size_i64] at h
  unfold execOp
  simp only [ho, Option.map_some, Option.map_none, hx, hy, hz, Instr.sliceAt, Sem.run_bind, run_underlying elem_i64, Result.andThen_ok, h]
  simp only [sliced, Int.toNat_natCast]
  rw [if_neg (by omega)]
  simp only [Option.map_some, Addr.add, Nat.mul_one, Nat.add_sub_cancel_left]
  split
  · next e0 =>
    subst e0
    simp
  · rfl
theorem ownI_openC {w : World} {lo n : Nat} {v : Value} {xs : List Int} (h : OwnI w lo v xs) (hn : xs.length = n) (hp : 0 < n) :
    ∃ g c cur, v = .slice (some ⟨g, 0, none⟩) n c ∧ lo ≤ g ∧ n ≤ c ∧ At w g (.cells cur 2 (0, 0)) ∧ n ≤ cur.size ∧ ∀ (t : Nat) (X : Int), xs[t]? = some X → cur[t]? = some (.int .i64 X) := by
  rcases h.2 with ⟨_, h0⟩ | ⟨g, cap, cur, rfl, hb, hgg, hle, hcap, hsz, ht⟩
  · omega
  · refine ⟨g, cap, cur, by rw [hn], hb, by omega, hgg, by omega, fun t X hX => ?_⟩
    have h1 : (i64s xs)[t]? = some (.int .i64 X) := by simp [i64s, hX]
    rw [← ht, List.getElem?_take] at h1
    split at h1
    · rwa [Array.getElem?_toList] at h1
    · cases h1
theorem OwnS.mono {w : World} {lo lo' : Nat} {v : Value} {vs : List Value} (h : OwnS w lo v vs) (hl : lo' ≤ lo) : OwnS w lo' v vs := by
  refine ⟨h.1, ?_⟩
  rcases h.2 with hn | ⟨g, cap, cur, hv, hb, rest⟩
  · exact .inl hn
  · exact .inr ⟨g, cap, cur, hv, Nat.le_trans hl hb, rest⟩
/-- The rows of d numbers of a list. -/
def slR (d : Nat) (ys : List Int) (i : Nat) : List Int := (ys.drop (i * d)).take d
theorem slR_len {b d i : Nat} {ys : List Int} (h : ys.length = b * d) (hi : i < b) : (slR d ys i).length = d := by
  have h1 : (i + 1) * d ≤ b * d := Nat.mul_le_mul_right _ hi
  rw [Nat.succ_mul] at h1
  simp only [slR, List.length_take, List.length_drop]
  omega
theorem slR_tot {b d i : Nat} {ys : List Int} (h : ys.length = b * d) (hi : i ≤ b) : tot (slR d ys) i = i * d := by
  induction i with
  | zero => simp [tot]
  | succ i ih => simp only [tot]; rw [ih (by omega), slR_len h (by omega), Nat.succ_mul]
theorem own_R {w : World} {lo G b d : Nat} {v : Value} {D : Array Value} {ys : List Int} (hS : OwnS w lo v (rowVs G d b)) (hG : At w G (.cells D 2 (0, 0))) (hl : lo ≤ G) (hy : ys.length = b * d) (hD : b * d ≤ D.size) (hb : 0 < b)
    (hn : ∀ (t : Nat) (X : Int), ys[t]? = some X → D[t]? = some (.int .i64 X)) : OwnR w lo w.heap.size v b (slR d ys) := by
  have hlen : (rowVs G d b).length = b := by simp [rowVs]
  rcases hS.2 with ⟨_, h0⟩ | ⟨g, cap, cur, rfl, hlo, hgg, hle, hcap, hsz, ht⟩
  · omega
  · rw [hlen]
    refine .inr ⟨g, cap, cur, G, D, rfl, hgg, ⟨hlo, (Array.getElem?_eq_some_iff.1 hgg).1⟩, fun i hi => ?_, hG, ⟨hl, hG.lt⟩, by rw [slR_tot hy (Nat.le_refl _)]; exact hD, fun i hi t X hX => ?_⟩
    · rw [slR_tot hy (by omega), slR_len hy hi]
      have h1 : (rowVs G d b)[i]? = some (.slice (some ⟨G, i * d, none⟩) d d) := by simp [rowVs, hi]
      rw [← ht, List.getElem?_take] at h1
      split at h1
      · rwa [Array.getElem?_toList] at h1
      · cases h1
    · rw [slR_tot hy (by omega)]
      refine hn _ _ ?_
      simp only [slR, List.getElem?_take, List.getElem?_drop] at hX
      split at hX
      · exact hX
      · cases hX
theorem RdI.part {w : World} {b off P M : Nat} {xs : List Int} (h : RdI w (some ⟨b, off, none⟩) xs) : RdI w (some ⟨b, off + P, none⟩) ((xs.drop P).take M) := by
  rcases h with rfl | ⟨b', off', e, hc⟩
  · left
    simp
  · simp only [Option.some.injEq, Addr.mk.injEq, and_true] at e
    obtain ⟨rfl, rfl⟩ := e
    refine .inr ⟨b, off + P, rfl, fun i x hi => ?_⟩
    rw [Nat.add_assoc]
    refine hc _ _ ?_
    simp only [List.getElem?_take, List.getElem?_drop] at hi
    split at hi
    · exact hi
    · cases hi
set_option maxHeartbeats 4000000 in
theorem cloneI_c (b off N c : Nat) (ys : List Int) (w : World) (hX : RdI w (some ⟨b, off, none⟩) ys) (hxl : ys.length = N) (hN : N ≤ 1000000) :
    Calls Try.prog 53 #[.slice (some ⟨b, off, none⟩) N c] w (fun e w' => ∃ v, e = .returned v ∧ OwnI w' w.heap.size v ys ∧ Below w.heap.size w w') := by
  have hB := Below.refl w.heap.size w
  have hN9 : 0 ≤ N := by omega
  go_enter Try.func53, Try.ntmps53
  go_upto_region 0 with (fail)
  refine wp_region_lit ?_
  refine ls_ex (some 2) (.slice none 0 0) rfl rfl (exec_assign _ rfl (.slice none 0 0) rfl) ?_
  go_frame
  refine wpList_nil ?_
  go_upto_region 1 with (fail)
  refine wp_region_lit ?_
  refine ls_ex (some 3) (.slice (some ⟨b, off, none⟩) N c) rfl rfl (exec_move _ rfl (.slice (some ⟨b, off, none⟩) N c) rfl) ?_
  go_frame
  refine ls_ex (some 4) (.bool false) rfl rfl (exec_eqnil 22 22 2 _ _ rfl Try.underlying22 (some ⟨b, off, none⟩) N c rfl rfl) ?_
  go_frame
  refine wpList_nil ?_
  go_upto_region 3 with (fail)
  refine wp_region_lit ?_
  refine ls_op rfl (fun K' hK' => ?_)
  have lz1 := hB.size
  refine wp_new (some 5) rfl (exec_bs0S rfl) (fun Wz2 nnz3 => ?_)
  have bz4 := nnz3.below (Below.refl _ _) (Nat.le_refl _)
  replace hB := below_after hB bz4
  have hk : At Wz2 w.heap.size (.cells #[] 2 (0, 0)) := nnz3.at_
  refine hK' _ _ ?_
  clear hK' K' nnz3 bz4
  go_frame
  refine ls_ex (some 6) (.slice (some ⟨b, off, none⟩) N c) rfl rfl (exec_move _ rfl (.slice (some ⟨b, off, none⟩) N c) rfl) ?_
  go_frame
  refine ls_op rfl (fun K' hK' => ?_)
  have lz8 := hB.size
  have lz9 := hk.lt
  have o0 := own_nilS hk (by have := hB.size; omega)
  refine wp_appL (some 7) rfl _ _ rfl _ ys rfl o0 b off N c rfl (hX.keep hB) hxl hN (by omega) (fun v8 Wz5 noz7 grz6 => ?_)
  replace hB := below_grownI hB grz6 o0 (by omega)
  have ho := noz7
  refine hK' _ _ ?_
  clear hK' K' grz6 hk noz7 o0
  go_frame
  refine ls_ex (some 2) (v8) rfl rfl (exec_assign _ rfl (v8) rfl) ?_
  go_frame
  refine wpList_nil ?_
  go_wp2_with fail
  go_ret
  exact ⟨v8, rfl, ho, hB⟩
set_option maxHeartbeats 4000000 in
theorem sliceAt_c (p : Int) (a b d T : Nat) (bB oB c0 N : Nat) (xs : List Int) (w : World) (hX : RdI w (some ⟨bB, oB, none⟩) xs) (hxl : xs.length = N) (hs : tenB p a b d xs = true) (hT : T < a) (hc0 : N ≤ c0) :
    Calls Try.prog 33 #[.agg #[.int .i64 p, .int .i64 a, .int .i64 b, .int .i64 d, .slice (some ⟨bB, oB, none⟩) N c0], .int .i64 T] w (fun e w' => ∃ v, e = .returned v ∧ OwnR w' w.heap.size w'.heap.size v b (slR d ((xs.drop (T * (b * d))).take (b * d))) ∧ Below w.heap.size w w') := by
  have hB := Below.refl w.heap.size w
  obtain ⟨M, hM⟩ : ∃ z9 : Nat, b * d = z9 := ⟨_, rfl⟩
  obtain ⟨Q, hQ⟩ : ∃ z9 : Nat, T * M = z9 := ⟨_, rfl⟩
  have hdm := (ten_parts hs).2
  have ha0 := hdm.1
  have hb0 := hdm.2.1
  have hd0 := hdm.2.2.1
  have hMb : 1 ≤ M ∧ M ≤ 81 := by rw [← hM]; exact ⟨Nat.mul_pos (by omega) (by omega), Nat.le_trans (Nat.mul_le_mul hb0.2 hd0.2) (by decide)⟩
  have hN : N = a * M := by rw [← hxl, hdm.2.2.2.1, ← hM, Nat.mul_assoc]
  have hQM : Q + M ≤ N := by rw [← hQ, hN, ← Nat.succ_mul]; exact Nat.mul_le_mul_right _ hT
  have hNb : N ≤ 729 := by rw [hN]; exact Nat.le_trans (Nat.mul_le_mul ha0.2 hMb.2) (by decide)
  have HM : Hid (IntKind.i64.wrap ((b : Int) * (d : Int)) = (M : Int)) := Lib.hid (by rw [← Int.natCast_mul, hM]; exact IntWalk.i64_in _ (by omega))
  have HQ : Hid (IntKind.i64.wrap ((T : Int) * (M : Int)) = (Q : Int)) := Lib.hid (by rw [← Int.natCast_mul, hQ]; exact IntWalk.i64_in _ (by omega))
  have HQ2 : Hid (IntKind.i64.wrap (((T : Int) + 1) * (M : Int)) = ((Q + M : Nat) : Int)) := Lib.hid (by rw [show ((T : Int) + 1) * (M : Int) = ((Q + M : Nat) : Int) by rw [Int.add_mul, ← Int.natCast_mul, hQ]; simp]; exact IntWalk.i64_in _ (by omega))
  obtain ⟨YS, hYS⟩ : ∃ z9, (xs.drop Q).take M = z9 := ⟨_, rfl⟩
  have HYL : Hid (YS.length = M) := Lib.hid (by rw [← hYS]; simp; omega)
  have HYR : Hid (∀ {w : World}, RdI w (some ⟨bB, oB, none⟩) xs → RdI w (some ⟨bB, oB + Q, none⟩) YS) := Lib.hid (fun h => by rw [← hYS]; exact h.part)
  have HMe := Lib.hid hM
  rw [hM, hQ, hYS]
  clear hM hQ hdm hxl hs hYS
  go_enter Try.func33, Try.ntmps33
  go_upto_region 0 with (fail)
  refine wp_region_lit ?_
  refine ls_op rfl (fun K' hK' => ?_)
  have lz1 := hB.size
  refine wp_new (some 2) rfl (exec_box 29 _ rfl (#[.int .i64 p, .int .i64 a, .int .i64 b, .int .i64 d, .slice (some ⟨bB, oB, none⟩) N c0]) rfl) (fun Wz2 nnz3 => ?_)
  have bz4 := nnz3.below (Below.refl _ _) (Nat.le_refl _)
  replace hB := below_after hB bz4
  have hz5 : At Wz2 w.heap.size (.cells #[.int .i64 p, .int .i64 a, .int .i64 b, .int .i64 d, .slice (some ⟨bB, oB, none⟩) N c0] 29 (0, 0)) := nnz3.at_
  refine hK' _ _ ?_
  clear hK' K' nnz3 bz4
  go_frame
  refine ls_ex (some 4) (.slice none 0 0) rfl rfl (exec_assign _ rfl (.slice none 0 0) rfl) ?_
  go_frame
  refine wpList_nil ?_
  go_upto_region 1 with (fail)
  refine wp_region_lit ?_
  refine ls_ex (some 6) (.pointer (some ⟨w.heap.size, 2, none⟩)) rfl rfl (exec_fieldAddr 29 _ 2 rfl _ (by kernel_rfl)) ?_
  go_frame
  refine ls_ex (some 7) (.int .i64 b) rfl rfl (exec_load_one 2 _ rfl w.heap.size 2 rfl (.int .i64 b) _ Try.underlying2 rfl (hz5.at_ 2)) ?_
  go_frame
  refine ls_ex (some 8) (.pointer (some ⟨w.heap.size, 3, none⟩)) rfl rfl (exec_fieldAddr 29 _ 3 rfl _ (by kernel_rfl)) ?_
  go_frame
  refine ls_ex (some 9) (.int .i64 d) rfl rfl (exec_load_one 2 _ rfl w.heap.size 3 rfl (.int .i64 d) _ Try.underlying2 rfl (hz5.at_ 3)) ?_
  go_frame
  refine ls_ex (some 10) (.int .i64 M) rfl rfl (exec_mul _ _ _ _ rfl b d M rfl rfl HM.out) ?_
  go_frame
  refine ls_ex (some 5) (.int .i64 M) rfl rfl (exec_assign _ rfl (.int .i64 M) rfl) ?_
  go_frame
  refine wpList_nil ?_
  go_upto_region 2 with (fail)
  refine wp_region_y (zs := []) (S := fun w' => Below w.heap.size w w' ∧ At w' w.heap.size (.cells #[.int .i64 p, .int .i64 a, .int .i64 b, .int .i64 d, .slice (some ⟨bB, oB, none⟩) N c0] 29 (0, 0))) (S2 := fun w' => True) (by kernel_rfl) ?_
  change wpAnyY _ _ _ _ _ _ _ _ _ _ (World.drew _)
  generalize hwdz6 : World.drew _ = wdz6
  replace hB : Below w.heap.size w wdz6 := by rw [← hwdz6]; exact hB.drew
  replace hz5 : At wdz6 w.heap.size (.cells #[.int .i64 p, .int .i64 a, .int .i64 b, .int .i64 d, .slice (some ⟨bB, oB, none⟩) N c0] 29 (0, 0)) := by rw [← hwdz6]; exact hz5
  clear hwdz6
  refine y_yield 0 (some 11) (.pointer (some ⟨w.heap.size, 4, none⟩)) rfl (by kernel_rfl) (by kernel_rfl) (by kernel_rfl) (fun _ _ _ h => h) rfl rfl ⟨hB, hz5⟩ (fun w' h' => exec_fieldAddr 29 _ 4 rfl _ (by kernel_rfl)) ?_
  go_frame
  refine y_yield 1 (some 12) (.slice (some ⟨bB, oB, none⟩) N c0) rfl (by kernel_rfl) (by kernel_rfl) (by kernel_rfl) (fun _ _ _ h => h) rfl rfl ⟨hB, hz5⟩ (fun w' h' => exec_load_one 22 _ rfl w.heap.size 4 rfl (.slice (some ⟨bB, oB, none⟩) N c0) _ Try.underlying22 rfl (h'.2.at_ 4)) ?_
  go_frame
  refine y_yield 2 (some 13) (.int .i64 T) rfl (by kernel_rfl) (by kernel_rfl) (by kernel_rfl) (fun _ _ _ h => h) rfl rfl ⟨hB, hz5⟩ (fun w' h' => exec_move _ rfl (.int .i64 T) rfl) ?_
  go_frame
  refine y_yield 3 (some 14) (.int .i64 M) rfl (by kernel_rfl) (by kernel_rfl) (by kernel_rfl) (fun _ _ _ h => h) rfl rfl ⟨hB, hz5⟩ (fun w' h' => exec_move _ rfl (.int .i64 M) rfl) ?_
  go_frame
  refine y_yield 4 (some 15) (.int .i64 Q) rfl (by kernel_rfl) (by kernel_rfl) (by kernel_rfl) (fun _ _ _ h => h) rfl rfl ⟨hB, hz5⟩ (fun w' h' => exec_mul _ _ _ _ rfl T M Q rfl rfl HQ.out) ?_
  go_frame
  refine y_yield 5 (some 16) (.int .i64 T) rfl (by kernel_rfl) (by kernel_rfl) (by kernel_rfl) (fun _ _ _ h => h) rfl rfl ⟨hB, hz5⟩ (fun w' h' => exec_move _ rfl (.int .i64 T) rfl) ?_
  go_frame
  refine y_yield 6 (some 17) (.int .i64 (T + 1)) rfl (by kernel_rfl) (by kernel_rfl) (by kernel_rfl) (fun _ _ _ h => h) rfl rfl ⟨hB, hz5⟩ (fun w' h' => exec_add _ _ _ _ rfl T 1 (T + 1) rfl rfl (IntWalk.i64_in _ (by omega))) ?_
  go_frame
  refine y_yield 7 (some 18) (.int .i64 M) rfl (by kernel_rfl) (by kernel_rfl) (by kernel_rfl) (fun _ _ _ h => h) rfl rfl ⟨hB, hz5⟩ (fun w' h' => exec_move _ rfl (.int .i64 M) rfl) ?_
  go_frame
  refine y_yield 8 (some 19) (.int .i64 (Q + M : Nat)) rfl (by kernel_rfl) (by kernel_rfl) (by kernel_rfl) (fun _ _ _ h => h) rfl rfl ⟨hB, hz5⟩ (fun w' h' => exec_mul _ _ _ _ rfl ((T : Int) + 1) M (Q + M : Nat) rfl rfl HQ2.out) ?_
  go_frame
  refine y_yield 9 (some 20) (.slice (some ⟨bB, oB + Q, none⟩) M (c0 - Q)) rfl (by kernel_rfl) (by kernel_rfl) (by kernel_rfl) (fun _ _ _ h => h) rfl rfl ⟨hB, hz5⟩ (fun w' h' => exec_slice2 _ _ _ rfl bB oB N c0 Q M hQM ⟨by omega, hc0⟩ rfl rfl rfl) ?_
  go_frame
  refine y_yield 11 (some 22) (.pointer (some ⟨w.heap.size, 3, none⟩)) rfl (by kernel_rfl) (by kernel_rfl) (by kernel_rfl) (fun _ _ _ h => h) rfl rfl ⟨hB, hz5⟩ (fun w' h' => exec_fieldAddr 29 _ 3 rfl _ (by kernel_rfl)) ?_
  go_frame
  refine y_yield 12 (some 23) (.int .i64 d) rfl (by kernel_rfl) (by kernel_rfl) (by kernel_rfl) (fun _ _ _ h => h) rfl rfl ⟨hB, hz5⟩ (fun w' h' => exec_load_one 2 _ rfl w.heap.size 3 rfl (.int .i64 d) _ Try.underlying2 rfl (h'.2.at_ 3)) ?_
  go_frame
  refine y_oper 10 (by kernel_rfl) rfl rfl (fun K' hK' => ?_)
  have lz9 := hB.size
  have lz10 := hz5.lt
  have lo9 := hB.size
  refine wp_call1 (some 21) rfl 53 _ _ rfl (fun args w => by kernel_rfl) _ rfl _ (cloneI_c bB (oB + Q) M (c0 - Q) YS _ (HYR.out (hX.keep hB)) HYL.out (by omega)) (fun e Wz7 h => ?_)
  obtain ⟨v9, rfl, ho9, bz8⟩ := h
  replace hB := below_after hB bz8
  replace hz5 := hz5.after bz8
  obtain ⟨G, c9, D, rfl, hloG, hc9, hG, hDs, hDn⟩ := ownI_openC ho9 HYL.out (by omega)
  have HDn := Lib.hid hDn
  clear ho9 hDn
  clear bz8
  refine ⟨_, rfl, ?_⟩
  refine hK' _ _ ⟨hB, hz5⟩ (fun _ => trivial) ?_
  clear hK' K'
  go_frame
  refine y_oper 13 (by kernel_rfl) rfl rfl (fun K' hK' => ?_)
  have lz13 := hB.size
  have lz14 := hz5.lt
  have lz15 := hG.lt
  have lo8 := hB.size
  refine wp_call2 (some 24) rfl 48 _ _ _ rfl (fun args w => by kernel_rfl) _ _ rfl rfl _ (cutRows_c G M c9 d b _ HMe.out ⟨by omega, hc9⟩ (by omega) (by omega)) (fun e Wz11 h => ?_)
  obtain ⟨v9, rfl, ho, bz12⟩ := h
  replace hB := below_after hB bz12
  replace hz5 := hz5.after bz12
  replace hG := hG.after bz12
  clear bz12
  refine ⟨_, rfl, ?_⟩
  refine hK' _ _ ⟨hB, hz5⟩ (fun _ => trivial) ?_
  clear hK' K'
  go_frame
  refine y_oper 14 (by kernel_rfl) rfl rfl (fun K' hK' => ?_)
  refine wp_exec (some 4) rfl (v9) (exec_assign _ rfl (v9) rfl) ?_
  refine hK' _ _ ⟨hB, hz5⟩ (fun _ => trivial) ?_
  clear hK' K'
  go_frame
  refine y_done (by kernel_rfl) ?_ _
  go_wp2_with fail
  have hR := own_R (ys := YS) (ho.mono (show w.heap.size ≤ _ by omega)) hG (by omega) (by rw [HYL.out, HMe.out]) (by rw [HMe.out]; exact hDs) (by omega) HDn.out
  go_ret
  exact ⟨v9, rfl, hR, hB⟩
end Go.Proofs.Ytolgfpcadfjliaa
