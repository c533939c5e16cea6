/-
  LowestPowers of both sides. (Made by mktwb.py.)
-/
import Derived.Test.YtlpdglmjejfmhaaTw8
import Derived.Test.YtlpdglmjejfmhaaPln3
namespace Go.Proofs.Ytlpdglmjejfmhaa
open Go.RowKit
set_option maxRecDepth 100000

theorem exec_neqF2 {o : Oper} {a : Act} {w : World} (x y : Operand) (t' : TypeId) (ho : o.op = .binOp .neq 71 x y t') (f g : List Nat) (hx : a.eval x = .agg (u8s f)) (hy : a.eval y = .agg (u8s g)) (hf : f.length = 9) (hg : g.length = 9) (b : Bool) (hb : (!(f == g)) = b) :
    (execOp a.eval o).run Try.prog w = .ok (.value (.bool b)) w := by
  have hm : Try.prog.eqGuardType Try.prog.depth 71 = false := by kernel_rfl
  have h1 := run_equalIn_u8s (P := Try.prog) w 9998 71 5 9 Try.underlying71 Try.underlying5 (by kernel_rfl) f g hf hg
  unfold execOp
  subst hb
  simp [ho, hx, hy, Sem.run_bind, run_eqGuard_agg w .neq _ x y _ _ hm, run_neq_struct, h1]
theorem exec_load_partL2 {o : Oper} {a : Act} {w : World} (ty : TypeId) (x : Operand) (ho : o.op = .load ty x) (g i : Nat) (hx : a.eval x = .pointer (some ⟨g, i * 9, none⟩)) (t : TypeId) (s : List Nat) (hg : At w g (.cells (u8s (partsL s)) t (0, 0))) (hty : ty = 71) (hi : i < 4) :
    (execOp a.eval o).run Try.prog w = .ok (.value (.agg (u8s (partL s i)))) w := by
  subst hty
  exact exec_load_seg (P := Try.prog) (w := w) 71 x ho g (i * 9) hx t (partsL s) _ 9 hg Try.underlying71 rfl (by kernel_rfl) (by rw [partsL_len]; omega) (partL s i) (partsL_seg s i hi)

theorem OutR.drewO {w : World} {lo hi k : Nat} {v : Value} {gs : Nat → Nat} {row : Nat → List Int} (h : OutR w lo hi v gs k row) : OutR w.drew lo hi v gs k row := h.below (Below.refl _ _).drew
theorem OutR.offT {w : World} {lo hi k g : Nat} {v : Value} {gs : Nat → Nat} {row : Nat → List Int} (h : OutR w lo hi v gs k row) {cs : Array Value} {t : TypeId} (hg : At w g (.cells cs t (0, 0))) (ht : t ≠ 94) : some g ≠ v.ownBlock := fun e => by
  rcases h.own.2 with ⟨rfl, _⟩ | ⟨g', cap, cur, rfl, hb, hgg, _⟩
  · cases e
  · simp only [Value.ownBlock, Option.some.injEq] at e
    subst e
    have h1 : some (Obj.cells cs t (0, 0)) = some (Obj.cells cur 94 (0, 0)) := hg.symm.trans hgg
    simp only [Option.some.injEq, Obj.cells.injEq] at h1
    exact ht h1.2.1
theorem OutR.putT {w w' : World} {lo hi k g : Nat} {v : Value} {gs : Nat → Nat} {row : Nat → List Int} {o : Obj} {cs : Array Value} {t : TypeId} (h : OutR w lo hi v gs k row) (hp : Put w w' g o) (hg : At w g (.cells cs t (0, 0))) (ht : t ≠ 94) (ht2 : t ≠ 2) : OutR w' lo hi v gs k row := by
  have hne := h.offT hg ht
  refine ⟨⟨h.own.1, ?_⟩, fun i hi => ⟨hp.other (h.row i hi).1 (fun e => ?_), (h.row i hi).2⟩, h.inj⟩
  · rcases h.own.2 with hn | ⟨g2, cap, cur, rfl, hb, hgg, rest⟩
    · exact .inl hn
    · exact .inr ⟨g2, cap, cur, rfl, hb, hp.other (k := g2) hgg (fun e => hne (by simp [Value.ownBlock, e])), rest⟩
  · have h1 := (h.row i hi).1
    rw [e] at h1
    have h2 : some (Obj.cells cs t (0, 0)) = some (Obj.cells (iar (row i)) 2 (0, 0)) := hg.symm.trans h1
    simp only [Option.some.injEq, Obj.cells.injEq] at h2
    exact ht2 h2.2.1
theorem OutR.nil (w : World) (lo hi : Nat) (row : Nat → List Int) : OutR w lo hi (.slice none 0 0) (fun _ => 0) 0 row :=
  ⟨⟨rfl, .inl ⟨rfl, rfl⟩⟩, by omega, by omega⟩
theorem OutR.mono {w : World} {lo lo' hi hi' k : Nat} {v : Value} {gs : Nat → Nat} {row : Nat → List Int} (h : OutR w lo hi v gs k row) (hl : lo' ≤ lo) (hh : hi ≤ hi') : OutR w lo' hi' v gs k row := by
  refine ⟨⟨h.own.1, ?_⟩, fun i hi => ⟨(h.row i hi).1, Nat.le_trans hl (h.row i hi).2.1, Nat.lt_of_lt_of_le (h.row i hi).2.2 hh⟩, h.inj⟩
  rcases h.own.2 with hn | ⟨g, cap, cur, hv, hb, rest⟩
  · exact .inl hn
  · exact .inr ⟨g, cap, cur, hv, Nat.le_trans hl hb, rest⟩
theorem outR_lt2 {w : World} {lo hi k g : Nat} {v : Value} {gs : Nat → Nat} {row : Nat → List Int} (h : OutR w lo hi v gs k row) (hg : v.ownBlock = some g) : lo ≤ g ∧ g < w.heap.size := World.ownsRow.lt h.own g hg
theorem exec_bs0R2 {o : Oper} {a : Act} {w : World} (ho : o.op = .buildSlice 49 0 #[]) : (execOp a.eval o).run Try.prog w = .ok (.value (.slice (some ⟨w.heap.size, 0, none⟩) 0 0)) (w.alloc (.cells #[] 94 (0, 0))) := by
  unfold execOp
  rw [ho]
  kernel_rfl
theorem cellsR_of_at {w : World} {g : Nat} {v : Value} {t : TypeId} (h : At w g (.cells #[v] t (0, 0))) : ∀ j u, [v][j]? = some u → w.cell? ((⟨g, 0, none⟩ : Addr).add j) = some u := by
  intro j u hu
  rw [add_none, Nat.zero_add, h.at_, ← Array.getElem?_toList]
  exact hu
theorem wp_appR2 {o : Oper} {a : Act} {w : World} {K : Act → World → Prop} {Q : Exit → Act → World → Prop} (d : Option Tmp) (hd : o.dst = d) (s x : Operand) (ho : o.op = .call { callee := .builtin .append, args := #[s, x], argTypes := #[49, 49] })
    (lo : Nat) (v : Value) (k : Nat) (gs : Nat → Nat) (row : Nat → List Int) (hi : Nat) (hs : a.eval s = v) (h0 : OutR w lo hi v gs k row) (u : Value) (h1 : u.oneCell' = true) (g : Nat) (hx : a.eval x = .slice (some ⟨g, 0, none⟩) 1 1)
    (hc : ∀ j y, [u][j]? = some y → w.cell? ((⟨g, 0, none⟩ : Addr).add j) = some y) (hle : k ≤ 1000000) (hlo : lo ≤ w.heap.size)
    (h : ∀ v' w', w'.ownsRow lo 94 1 v' (k + 1) (rowVals gs row k ++ [u]) → w.grownBy w' v.ownBlock → K (a.put d v') w') : Oper.wp Try.prog o a w K Q := by
  obtain ⟨i0, hi, hz0, hz1, hz2⟩ := info_parts infoIS
  refine wp_append' d hd s x 49 ho lo 94 i0 (.slice none 0 0) 1 24 Try.underlying49 hi hz0 hz1 hz2 rfl (by decide) v _ _ hs h0.own ⟨g, 0, none⟩ 1 1 [u] hx rfl hc (by intro y hy; simp at hy; subst hy; exact h1) (by unfold maxLen; omega) (by omega) hlo ?_
  intro v1 w8 own8 gr8 _
  exact h v1 w8 own8 gr8
/-- The least power of e that stands in a series. -/
def lowS (s : List Nat) : Nat := if zeroB (partL s 0) = false then 0 else if zeroB (partL s 1) = false then 1 else if zeroB (partL s 2) = false then 2 else 3
theorem lowS_le (s : List Nat) : lowS s ≤ 3 := by unfold lowS; split; omega; split; omega; split <;> omega
theorem lowS_at {s : List Nat} {i : Nat} (hi : i < 4) (h : ∀ j, j < i → zeroB (partL s j) = true) (h1 : zeroB (partL s i) = false) : lowS s = i := by
  obtain rfl | rfl | rfl | rfl : i = 0 ∨ i = 1 ∨ i = 2 ∨ i = 3 := by omega
  · simp [lowS, h1]
  · simp [lowS, h 0 (by omega), h1]
  · simp [lowS, h 0 (by omega), h 1 (by omega), h1]
  · simp [lowS, h 0 (by omega), h 1 (by omega), h 2 (by omega)]
theorem some_part {s : List Nat} (h : someS s 36 = true) : ∃ i, i < 4 ∧ zeroB (partL s i) = false := by
  refine Classical.byContradiction fun hne => ?_
  have hz : ∀ i, i < 4 → partL s i = List.replicate 9 0 := fun i hi => by
    have : ¬ zeroB (partL s i) = false := fun h => hne ⟨i, hi, h⟩
    unfold zeroB at this
    simpa using this
  unfold someS at h
  rw [List.any_eq_true] at h
  obtain ⟨x, hx, hx0⟩ := h
  obtain ⟨j, hj, rfl⟩ := List.getElem_of_mem hx
  have hj36 : j < 36 := by rw [List.length_take] at hj; omega
  have h2 := partL_get s (j % 4) (j / 4) (by omega)
  rw [hz _ (by omega), show j / 4 * 4 + j % 4 = j by omega, List.getElem?_replicate, if_pos (by omega)] at h2
  rw [List.getElem_take] at hx0
  have hjs : j < s.length := by rw [List.length_take] at hj; omega
  rw [List.getElem?_eq_getElem hjs] at h2
  simp only [Option.getD_some] at h2
  rw [← h2] at hx0
  simp at hx0
theorem twig_parts {p n m k : Int} {t : List Nat} (h : twigB p n m k t = true) (o : Nat) (ho : o = 0 ∨ o = 36 ∨ o = 72) : ∃ i, i < 4 ∧ zeroB (partL (segm t o 36) i) = false := by
  unfold twigB serB at h
  simp only [Bool.and_eq_true] at h
  rcases ho with rfl | rfl | rfl
  · exact some_part h.1.1.2
  · exact some_part h.1.2.2
  · exact some_part h.2.2
def lowRow (t : List Nat) : List Int := [((lowS (segm t 0 36) : Nat) : Int), ((lowS (segm t 36 36) : Nat) : Int), ((lowS (segm t 72 36) : Nat) : Int)]
def lrow (ts : List (List Nat)) (i : Nat) : List Int := lowRow (ts[i]?.getD [])
theorem lrow_at {ts : List (List Nat)} {i : Nat} (hi : i < ts.length) : lrow ts i = lowRow ts[i] := by unfold lrow; rw [List.getElem?_eq_getElem hi]; rfl
def lpCode (p n m k : Int) (ts : List (List Nat)) : Int := if borderB p n m k ts = true then 0 else 1
def lpN (p n m k : Int) (ts : List (List Nat)) : Nat := if borderB p n m k ts = true then ts.length else 0
theorem lp_small (p n m k : Int) (ts : List (List Nat)) : lpN p n m k ts + tot (lrow ts) (lpN p n m k ts) ≤ 1048576 := by
  have h30 : lpN p n m k ts ≤ 30 := by
    unfold lpN
    split
    · next h => exact (borderB_all h).2.1
    · omega
  have := tot_le (row := lrow ts) (n := lpN p n m k ts) (K := 3) (fun i _ => by simp [lrow, lowRow])
  omega
set_option maxHeartbeats 800000 in
theorem lowest1_c (f : List Nat) (hf : Bytes 9 f) (w : World) : Calls Try.prog 88 #[.agg (u8s f)] w fun e w' => e = .returned (.bool (!zeroB f)) ∧ Below w.heap.size w w' := by
  go_enter Try.func88, Try.ntmps88
  go_wp2_with (first | (refine wpList_load_all rfl 71 _ rfl w.heap.size rfl _ _ _ (al1_0 _ _) Try.underlying71 rfl 9 (by kernel_rfl) ((u8s_size _).trans hf.len) ?_) | (refine wpList_of_exec rfl (exec_neqF2 _ _ _ rfl f (List.replicate 9 0) rfl rfl hf.len (by simp) (!zeroB f) rfl) ?_))
  go_ret
  exact ⟨rfl, below1 _ _⟩
set_option maxHeartbeats 1600000 in
theorem indexPart_c (s : List Nat) (hs : Bytes 36 s) (g : Nat) (w : World) (hg : At w g (.cells (u8s (partsL s)) 75 (0, 0))) (hnz : ∃ i, i < 4 ∧ zeroB (partL s i) = false) :
    Calls Try.prog 87 #[.slice (some ⟨g, 0, none⟩) 4 4, .func (.func 88) #[] #[]] w fun e w' => e = .returned (.int .i64 (lowS s : Nat)) ∧ Below w.heap.size w w' := by
  have Hnz := Lib.hid hnz
  clear hnz
  go_enter Try.func87, Try.ntmps87
  go_wp2_with fail
  go_loopw [8] (fun i wr => ∃ j : Nat, j ≤ 4 ∧ i = .int .i64 j ∧ Hid (∀ x, x < j → zeroB (partL s x) = true) ∧ Below w.heap.size w wr) (fun i _ => 4 - (intOf i).toNat)
  case atStart => exact ⟨0, by omega, rfl, Lib.hid (fun x hx => by omega), Below.refl _ _⟩
  case round =>
    obtain ⟨j, hj, rfl, HA, hB⟩ := hrel
    by_cases hlt : j < 4
    · have e0 : IntKind.i64.wrap ((j : Int) + 1) = (j : Int) + 1 := IntWalk.i64_in _ (by omega)
      have hj' : (j : Int) < 4 := by omega
      have hp := partL_bytes hs j
      have hgw := hg.after hB
      have HZ := Lib.hid (fun w => lowest1_c _ hp w)
      cases hz : zeroB (partL s j) with
      | true =>
        have Hz := Lib.hid hz
        have HA9 : Hid (∀ x, x < j + 1 → zeroB (partL s x) = true) := Lib.hid (all_more HA.out hz)
        clear hz
        go_wp2_with (refine wpList_of_exec rfl (exec_load_partL2 71 _ rfl g j rfl _ s hgw rfl hlt) ?_)
        refine (HZ.out _).mono ?_
        rintro e w1 ⟨rfl, b1⟩
        rw [Hz.out]
        go_wp2_with fail
        go_roundw
        case rel => exact ⟨j + 1, by omega, by go_num, HA9, below_after hB b1⟩
        case measure => simp [intOf]; omega
      | false =>
        have Hz := Lib.hid hz
        have HL : Hid (lowS s = j) := Lib.hid (lowS_at hlt HA.out hz)
        clear hz
        go_wp2_with (refine wpList_of_exec rfl (exec_load_partL2 71 _ rfl g j rfl _ s hgw rfl hlt) ?_)
        refine (HZ.out _).mono ?_
        rintro e w1 ⟨rfl, b1⟩
        rw [Hz.out]
        go_wp2_with fail
        go_ret
        exact ⟨by rw [HL.out]; rfl, below_after hB b1⟩
    · exfalso
      obtain ⟨i, hi, h⟩ := Hnz.out
      rw [HA.out i (by omega)] at h
      cases h
set_option maxHeartbeats 1600000 in
theorem lowestPower_c (s : List Nat) (hs : Bytes 36 s) (hnz : ∃ i, i < 4 ∧ zeroB (partL s i) = false) (w : World) :
    Calls Try.prog 62 #[.agg (u8s s)] w fun e w' => e = .returned (.int .i64 (lowS s : Nat)) ∧ Below w.heap.size w w' := by
  have Hnz := Lib.hid hnz
  clear hnz
  go_enter Try.func62, Try.ntmps62
  go_wp2_with (refine wpList_load_all rfl 61 _ rfl w.heap.size rfl _ _ _ (al1_0 _ _) Try.underlying61 rfl 36 (by kernel_rfl) ((u8s_size _).trans hs.len) ?_)
  refine (partsOf_c s hs _).mono ?_
  rintro e w1 ⟨rfl, b1⟩
  have hB := below_after (below1 w _) b1
  clear b1
  have hl := hB.size
  go_wp2_with (first | (refine wpList_abs1 ?_; intro W2 hsz2 hB2 s2; replace s2 : At W2 w1.heap.size (.cells (u8s (List.replicate 36 0)) 75 (0, 0)) := s2; replace hB := below_after hB hB2) | (refine wpList_store_u8s rfl 75 _ _ rfl rfl w1.heap.size 0 rfl (partsL s) rfl _ _ s2 36 (by kernel_rfl) (partsL_len s) (by simp) ?_; intro W3 p3))
  have s3 := p3.at_
  rw [over_all (by rw [partsL_len]; simp)] at s3
  replace hB := p3.below hB (by omega)
  refine (indexPart_c s hs w1.heap.size _ s3 Hnz.out).mono ?_
  rintro e w4 ⟨rfl, b4⟩
  replace hB := below_after hB b4
  go_wp2_with fail
  go_ret
  exact ⟨rfl, hB⟩
attribute [local irreducible] wpList
set_option maxHeartbeats 12800000 in
theorem l08Part_c (f : List Nat) (i : Nat) (hf : Bytes 36 f) (hi4 : i < 4) (w : World) :
    Calls Try.prog 86 #[.agg (u8s f), .int .i64 (i : Int)] w (fun e w' => e = .returned (.agg (u8s (partL f i))) ∧ Below w.heap.size w w') := by
  have hB := Below.refl w.heap.size w
  have HF := Lib.hid hf.len
  go_enter Try.func86, Try.ntmps86
  go_upto_region 0 with (fail)
  refine wp_region_lit ?_
  refine ls_op rfl (fun K' hK' => ?_)
  have lz1 := hB.size
  refine wp_new (some 2) rfl (exec_box 61 _ rfl (u8s (f)) rfl) (fun Wz2 nnz3 => ?_)
  have bz4 := nnz3.below (Below.refl _ _) (Nat.le_refl _)
  replace hB := below_after hB bz4
  have hz5 : At Wz2 w.heap.size (.cells (u8s (f)) 61 (0, 0)) := nnz3.at_
  refine hK' _ _ ?_
  clear hK' K' nnz3 bz4
  go_frame
  refine ls_op rfl (fun K' hK' => ?_)
  have lz6 := hB.size
  have lz7 := hz5.lt
  refine wp_new (some 4) rfl (al_impl_Form rfl) (fun Wz8 nnz9 => ?_)
  have bz10 := nnz9.below (Below.refl _ _) (Nat.le_refl _)
  replace hB := below_after hB bz10
  replace hz5 := hz5.after bz10
  have hz11 : At Wz8 Wz2.heap.size (.cells (u8s (List.replicate 9 0)) 71 (0, 0)) := nnz9.at_
  refine hK' _ _ ?_
  clear hK' K' nnz9 bz10
  go_frame
  refine wpList_nil ?_
  go_upto_region 1 with (fail)
  refine wp_region_lit ?_
  refine ls_ex (some 7) (.agg (u8s (List.replicate 9 0))) rfl rfl (exec_build_nil 71 rfl _ (by kernel_rfl)) ?_
  go_frame
  refine ls_op rfl (fun K' hK' => ?_)
  have lz12 := hB.size
  have lz13 := hz5.lt
  have lz14 := hz11.lt
  refine wp_new (some 5) rfl (al_impl_Form rfl) (fun Wz15 nnz16 => ?_)
  have bz17 := nnz16.below (Below.refl _ _) (Nat.le_refl _)
  replace hB := below_after hB bz17
  replace hz5 := hz5.after bz17
  replace hz11 := hz11.after bz17
  have hz18 : At Wz15 Wz8.heap.size (.cells (u8s (List.replicate 9 0)) 71 (0, 0)) := nnz16.at_
  refine hK' _ _ ?_
  clear hK' K' nnz16 bz17
  go_frame
  refine ls_op rfl (fun K' hK' => ?_)
  refine wp_store_bytes 71 _ _ rfl rfl Wz8.heap.size rfl (List.replicate 9 0) rfl _ _ hz18 9 (by kernel_rfl) (by simp) (by simp) (fun Wz19 pz20 => ?_)
  replace hB := pz20.below hB (by omega)
  replace hz5 := pz20.other hz5 (by omega)
  replace hz11 := pz20.other hz11 (by omega)
  replace hz18 : At Wz19 Wz8.heap.size (.cells (u8s (List.replicate 9 0)) 71 (0, 0)) := pz20.at_
  refine hK' _ _ ?_
  clear hK' K' pz20
  refine wpList_nil ?_
  go_upto_region 2 with (fail)
  refine wp_region_lit ?_
  refine ls_ex (some 6) (.int .i64 0) rfl rfl (exec_assign _ rfl (.int .i64 0) rfl) ?_
  go_frame
  refine wpList_nil ?_
  go_wp2_with fail
  go_loopw [6] (fun s6 wr => ∃ c : Nat, c ≤ 9 ∧ s6 = .int .i64 c ∧ Below w.heap.size w wr ∧ At wr w.heap.size (.cells (u8s (f)) 61 (0, 0)) ∧ At wr Wz8.heap.size (.cells (u8s ((partL f i).take c ++ List.replicate (9 - c) 0)) 71 (0, 0)) ∧ At wr Wz2.heap.size (.cells (u8s (List.replicate 9 0)) 71 (0, 0))) (fun s6 _ => 9 - (intOf s6).toNat)
  case atStart => exact ⟨0, by omega, rfl, hB, hz5, by rw [List.take_zero]; exact hz18, hz11⟩
  case round =>
    clear hB hz5 hz11 hz18
    obtain ⟨c, hc, rfl, hB, h0, h1, h2⟩ := hrel
    by_cases hc9 : c < 9
    · obtain ⟨x, hx⟩ : ∃ x, f[c * 4 + i]?.getD 0 = x := ⟨_, rfl⟩
      have hcx := h0.cell (i := c * 4 + i) (by rw [HF.out]; omega)
      rw [hx] at hcx
      have HP : Hid (((partL f i).take c ++ List.replicate (9 - c) 0).set c x = (partL f i).take (c + 1) ++ List.replicate (9 - (c + 1)) 0) := Lib.hid (by rw [← hx, ← partL_get f i c hc9]; exact fill_step (partL_len f i) hc9)
      have hml : ((partL f i).take c ++ List.replicate (9 - c) 0).length = 9 := by rw [List.length_append, List.length_take, partL_len, List.length_replicate]; omega
      have Hml := Lib.hid hml
      clear hx hml
      go_upto_region 3 with (fail)
      refine wp_region_lit ?_
      refine ls_ex (some 8) (.int .i64 c) rfl rfl (exec_move _ rfl (.int .i64 c) rfl) ?_
      go_frame
      refine ls_ex (some 9) (.bool true) rfl rfl (exec_lss _ _ _ _ rfl c 9 rfl rfl true (decide_eq_true (by omega))) ?_
      go_frame
      refine wpList_nil ?_
      go_upto_region 5 with (fail)
      refine wp_region_lit ?_
      refine ls_ex (some 12) (.int .i64 c) rfl rfl (exec_move _ rfl (.int .i64 c) rfl) ?_
      go_frame
      refine ls_ex (some 13) (.int .i64 c) rfl rfl (exec_move _ rfl (.int .i64 c) rfl) ?_
      go_frame
      refine ls_ex (some 14) (.int .i64 i) rfl rfl (exec_move _ rfl (.int .i64 i) rfl) ?_
      go_frame
      refine ls_ex (some 15) (.pointer (some ⟨w.heap.size, c * 4, none⟩)) rfl rfl (exec_index_arr0 61 59 _ _ rfl w.heap.size 9 c 4 rfl rfl Try.underlying61 (by kernel_rfl) hc9) ?_
      go_frame
      refine ls_ex (some 16) (.pointer (some ⟨w.heap.size, c * 4 + i, none⟩)) rfl rfl (exec_index_arr1 59 5 _ _ rfl w.heap.size (c * 4) 4 i rfl rfl Try.underlying59 (by kernel_rfl) hi4) ?_
      go_frame
      refine ls_ex (some 17) (.int .u8 (x : Nat)) rfl rfl (exec_load_one 5 _ rfl w.heap.size (c * 4 + i) rfl (.int .u8 (x : Nat)) _ Try.underlying5 rfl hcx) ?_
      go_frame
      refine ls_ex (some 18) (.pointer (some ⟨Wz8.heap.size, 0 + c, none⟩)) rfl rfl (exec_index_arr1 71 5 _ _ rfl Wz8.heap.size 0 9 c rfl rfl Try.underlying71 (by kernel_rfl) hc9) ?_
      go_frame
      refine ls_op rfl (fun K' hK' => ?_)
      refine wp_store_b1 5 _ _ rfl rfl Wz8.heap.size (0 + c) rfl (x) rfl _ _ h1 (by kernel_rfl) (by rw [Hml.out]; omega) (fun Wz21 pz22 => ?_)
      replace hB := pz22.below hB (by omega)
      replace h0 := pz22.other h0 (by omega)
      replace h2 := pz22.other h2 (by omega)
      replace h1 : At Wz21 Wz8.heap.size (.cells (u8s ((partL f i).take (c + 1) ++ List.replicate (9 - (c + 1)) 0)) 71 (0, 0)) := by have h9 := pz22.at_; rwa [Nat.zero_add, HP.out] at h9
      refine hK' _ _ ?_
      clear hK' K' pz22
      refine wpList_nil ?_
      go_upto_region 4 with (fail)
      refine wp_region_lit ?_
      refine ls_ex (some 10) (.int .i64 c) rfl rfl (exec_move _ rfl (.int .i64 c) rfl) ?_
      go_frame
      refine ls_ex (some 11) (.int .i64 (c + 1)) rfl rfl (exec_add _ _ _ _ rfl c 1 (c + 1) rfl rfl (IntWalk.i64_in _ (by omega))) ?_
      go_frame
      refine ls_ex (some 6) (.int .i64 (c + 1)) rfl rfl (exec_assign _ rfl (.int .i64 (c + 1)) rfl) ?_
      go_frame
      refine wpList_nil ?_
      go_wp2_with fail
      go_roundw
      case rel => exact ⟨c + 1, by omega, by go_num, hB, h0, h1, h2⟩
      case measure => simp [intOf]; omega
    · have HR : Hid ((partL f i).take c ++ List.replicate (9 - c) 0 = partL f i) := Lib.hid (by rw [show c = 9 by omega]; exact fill_end (partL_len f i))
      rw [HR.out] at h1
      go_upto_region 3 with (fail)
      refine wp_region_lit ?_
      refine ls_ex (some 8) (.int .i64 c) rfl rfl (exec_move _ rfl (.int .i64 c) rfl) ?_
      go_frame
      refine ls_ex (some 9) (.bool false) rfl rfl (exec_lss _ _ _ _ rfl c 9 rfl rfl false (decide_eq_false (by omega))) ?_
      go_frame
      refine wpList_nil ?_
      go_upto_region 6 with (fail)
      refine wp_region_lit ?_
      refine ls_ex (some 19) (.agg (u8s (partL f i))) rfl rfl (exec_load_all 71 _ rfl Wz8.heap.size rfl _ _ _ h1 Try.underlying71 rfl 9 (by kernel_rfl) ((u8s_size _).trans (partL_len f i))) ?_
      go_frame
      refine ls_op rfl (fun K' hK' => ?_)
      refine wp_store_bytes 71 _ _ rfl rfl Wz2.heap.size rfl (partL f i) rfl _ _ h2 9 (by kernel_rfl) (partL_len f i) (by simp) (fun Wz23 pz24 => ?_)
      replace hB := pz24.below hB (by omega)
      replace h0 := pz24.other h0 (by omega)
      replace h1 := pz24.other h1 (by omega)
      replace h2 : At Wz23 Wz2.heap.size (.cells (u8s (partL f i)) 71 (0, 0)) := pz24.at_
      refine hK' _ _ ?_
      clear hK' K' pz24
      refine wpList_nil ?_
      go_wp2_with fail
      refine bodyPost_ret (results_at rfl _ _ Wz2.heap.size _ _ _ rfl h2 Try.underlying71 rfl 9 (by kernel_rfl) ((u8s_size _).trans (partL_len f i))) rfl ?_
      exact ⟨rfl, hB⟩
set_option maxHeartbeats 12800000 in
theorem l08Lowest_c (f : List Nat) (hf : Bytes 36 f) (hnz : ∃ i, i < 4 ∧ zeroB (partL f i) = false) (w : World) :
    Calls Try.prog 61 #[.agg (u8s f)] w (fun e w' => e = .returned (.int .i64 (lowS f : Nat)) ∧ Below w.heap.size w w') := by
  have hB := Below.refl w.heap.size w
  have HF := Lib.hid hf.len
  have Hnz := Lib.hid hnz
  clear hnz
  go_enter Try.func61, Try.ntmps61
  go_upto_region 0 with (fail)
  refine wp_region_lit ?_
  refine ls_op rfl (fun K' hK' => ?_)
  have lz1 := hB.size
  refine wp_new (some 1) rfl (exec_box 61 _ rfl (u8s (f)) rfl) (fun Wz2 nnz3 => ?_)
  have bz4 := nnz3.below (Below.refl _ _) (Nat.le_refl _)
  replace hB := below_after hB bz4
  have hz5 : At Wz2 w.heap.size (.cells (u8s (f)) 61 (0, 0)) := nnz3.at_
  refine hK' _ _ ?_
  clear hK' K' nnz3 bz4
  go_frame
  refine ls_ex (some 2) (.int .i64 0) rfl rfl (exec_assign _ rfl (.int .i64 0) rfl) ?_
  go_frame
  refine wpList_nil ?_
  go_upto_region 1 with (fail)
  refine wp_region_lit ?_
  refine ls_ex (some 3) (.int .i64 0) rfl rfl (exec_assign _ rfl (.int .i64 0) rfl) ?_
  go_frame
  refine wpList_nil ?_
  go_wp2_with fail
  go_loopw [3] (fun s3 wr => ∃ i : Nat, i ≤ 4 ∧ s3 = .int .i64 i ∧ Hid (∀ x, x < i → zeroB (partL f x) = true) ∧ Below w.heap.size w wr ∧ At wr w.heap.size (.cells (u8s (f)) 61 (0, 0))) (fun s3 _ => 4 - (intOf s3).toNat)
  case atStart => exact ⟨0, by omega, rfl, Lib.hid (fun x hx => by omega), hB, hz5⟩
  case round =>
    clear hB hz5
    obtain ⟨i, hi, rfl, HA, hB, h0⟩ := hrel
    by_cases hi4 : i < 4
    · cases hz : zeroB (partL f i) with
      | true =>
        have HA9 : Hid (∀ x, x < i + 1 → zeroB (partL f x) = true) := Lib.hid (all_more HA.out hz)
        have Hz := Lib.hid hz
        clear hz
        go_upto_region 2 with (fail)
        refine wp_region_lit ?_
        refine ls_ex (some 4) (.int .i64 i) rfl rfl (exec_move _ rfl (.int .i64 i) rfl) ?_
        go_frame
        refine ls_ex (some 5) (.bool true) rfl rfl (exec_lss _ _ _ _ rfl i 4 rfl rfl true (decide_eq_true (by omega))) ?_
        go_frame
        refine wpList_nil ?_
        go_upto_region 4 with (fail)
        refine wp_region_lit ?_
        refine ls_ex (some 8) (.agg (u8s (f))) rfl rfl (exec_load_all 61 _ rfl w.heap.size rfl _ _ _ h0 Try.underlying61 rfl 36 (by kernel_rfl) ((u8s_size _).trans HF.out)) ?_
        go_frame
        refine ls_ex (some 9) (.int .i64 i) rfl rfl (exec_move _ rfl (.int .i64 i) rfl) ?_
        go_frame
        refine ls_op rfl (fun K' hK' => ?_)
        have lz8 := hB.size
        have lz9 := h0.lt
        refine wp_call2 (some 10) rfl 86 _ _ _ rfl (fun args w => by kernel_rfl) _ _ rfl rfl _ (l08Part_c f i hf hi4 _) (fun e Wz6 h => ?_)
        obtain ⟨rfl, bz7⟩ := h
        replace hB := below_after hB bz7
        replace h0 := h0.after bz7
        clear bz7
        refine ⟨_, rfl, ?_⟩
        refine hK' _ _ ?_
        clear hK' K'
        go_frame
        refine ls_op rfl (fun K' hK' => ?_)
        have lz12 := hB.size
        have lz13 := h0.lt
        refine wp_call1 (some 11) rfl 85 _ _ rfl (fun args w => by kernel_rfl) _ rfl _ (l01Zero_c (partL f i) (partL_bytes hf i) _) (fun e Wz10 h => ?_)
        obtain ⟨rfl, bz11⟩ := h
        replace hB := below_after hB bz11
        replace h0 := h0.after bz11
        rw [Hz.out]
        clear bz11
        refine ⟨_, rfl, ?_⟩
        refine hK' _ _ ?_
        clear hK' K'
        go_frame
        refine ls_ex (some 12) (.bool false) rfl rfl (exec_not _ _ rfl true rfl) ?_
        go_frame
        refine wpList_nil ?_
        go_upto_region 3 with (fail)
        refine wp_region_lit ?_
        refine ls_ex (some 6) (.int .i64 i) rfl rfl (exec_move _ rfl (.int .i64 i) rfl) ?_
        go_frame
        refine ls_ex (some 7) (.int .i64 (i + 1)) rfl rfl (exec_add _ _ _ _ rfl i 1 (i + 1) rfl rfl (IntWalk.i64_in _ (by omega))) ?_
        go_frame
        refine ls_ex (some 3) (.int .i64 (i + 1)) rfl rfl (exec_assign _ rfl (.int .i64 (i + 1)) rfl) ?_
        go_frame
        refine wpList_nil ?_
        go_wp2_with fail
        go_roundw
        case rel => exact ⟨i + 1, by omega, by go_num, HA9, hB, h0⟩
        case measure => simp [intOf]; omega
      | false =>
        have HL : Hid (lowS f = i) := Lib.hid (lowS_at hi4 HA.out hz)
        have Hz := Lib.hid hz
        clear hz
        go_upto_region 2 with (fail)
        refine wp_region_lit ?_
        refine ls_ex (some 4) (.int .i64 i) rfl rfl (exec_move _ rfl (.int .i64 i) rfl) ?_
        go_frame
        refine ls_ex (some 5) (.bool true) rfl rfl (exec_lss _ _ _ _ rfl i 4 rfl rfl true (decide_eq_true (by omega))) ?_
        go_frame
        refine wpList_nil ?_
        go_upto_region 4 with (fail)
        refine wp_region_lit ?_
        refine ls_ex (some 8) (.agg (u8s (f))) rfl rfl (exec_load_all 61 _ rfl w.heap.size rfl _ _ _ h0 Try.underlying61 rfl 36 (by kernel_rfl) ((u8s_size _).trans HF.out)) ?_
        go_frame
        refine ls_ex (some 9) (.int .i64 i) rfl rfl (exec_move _ rfl (.int .i64 i) rfl) ?_
        go_frame
        refine ls_op rfl (fun K' hK' => ?_)
        have lz16 := hB.size
        have lz17 := h0.lt
        refine wp_call2 (some 10) rfl 86 _ _ _ rfl (fun args w => by kernel_rfl) _ _ rfl rfl _ (l08Part_c f i hf hi4 _) (fun e Wz14 h => ?_)
        obtain ⟨rfl, bz15⟩ := h
        replace hB := below_after hB bz15
        replace h0 := h0.after bz15
        clear bz15
        refine ⟨_, rfl, ?_⟩
        refine hK' _ _ ?_
        clear hK' K'
        go_frame
        refine ls_op rfl (fun K' hK' => ?_)
        have lz20 := hB.size
        have lz21 := h0.lt
        refine wp_call1 (some 11) rfl 85 _ _ rfl (fun args w => by kernel_rfl) _ rfl _ (l01Zero_c (partL f i) (partL_bytes hf i) _) (fun e Wz18 h => ?_)
        obtain ⟨rfl, bz19⟩ := h
        replace hB := below_after hB bz19
        replace h0 := h0.after bz19
        rw [Hz.out]
        clear bz19
        refine ⟨_, rfl, ?_⟩
        refine hK' _ _ ?_
        clear hK' K'
        go_frame
        refine ls_ex (some 12) (.bool true) rfl rfl (exec_not _ _ rfl false rfl) ?_
        go_frame
        refine wpList_nil ?_
        go_upto_region 5 with (fail)
        refine wp_region_lit ?_
        refine ls_ex (some 13) (.int .i64 i) rfl rfl (exec_move _ rfl (.int .i64 i) rfl) ?_
        go_frame
        refine ls_ex (some 2) (.int .i64 i) rfl rfl (exec_assign _ rfl (.int .i64 i) rfl) ?_
        go_frame
        refine wpList_nil ?_
        go_wp2_with fail
        go_ret
        exact ⟨by rw [HL.out]; rfl, hB⟩
    · exfalso
      obtain ⟨x, hx, h⟩ := Hnz.out
      rw [HA.out x (by omega)] at h
      cases h
set_option maxHeartbeats 4000000 in
theorem specLowest_a (p n m k : Int) (A : Option Addr) (c : Nat) (ts : List (List Nat)) (w : World) (hR : RdT w A ts) (hlen : ts.length ≤ 1048576) (hs : borderB p n m k ts = false) :
    Calls Try.prog 25 #[.agg #[.int .i64 p, .int .i64 n, .int .i64 m, .int .i64 k, .slice A ts.length c]] w (ResM w (lpN p n m k ts) (lrow ts) (lpCode p n m k ts)) := by
  have hB := Below.refl w.heap.size w
  have HC : Hid (lpCode p n m k ts = 1) := Lib.hid (by unfold lpCode; rw [hs]; rfl)
  have HN : Hid (lpN p n m k ts = 0) := Lib.hid (by unfold lpN; rw [hs]; rfl)
  have Hs := Lib.hid hs
  clear hs
  go_enter Try.func25, Try.ntmps25
  go_upto_region 0 with (fail)
  refine wp_region_lit ?_
  refine ls_op rfl (fun K' hK' => ?_)
  have lz1 := hB.size
  refine wp_new (some 1) rfl (exec_box 29 _ rfl (#[.int .i64 p, .int .i64 n, .int .i64 m, .int .i64 k, .slice A ts.length c]) rfl) (fun Wz2 nnz3 => ?_)
  have bz4 := nnz3.below (Below.refl _ _) (Nat.le_refl _)
  replace hB := below_after hB bz4
  have hz5 : At Wz2 w.heap.size (.cells #[.int .i64 p, .int .i64 n, .int .i64 m, .int .i64 k, .slice A ts.length c] 29 (0, 0)) := nnz3.at_
  refine hK' _ _ ?_
  clear hK' K' nnz3 bz4
  go_frame
  refine ls_ex (some 2) (.slice none 0 0) rfl rfl (exec_assign _ rfl (.slice none 0 0) rfl) ?_
  go_frame
  refine ls_ex (some 3) (.int .i64 0) rfl rfl (exec_assign _ rfl (.int .i64 0) rfl) ?_
  go_frame
  refine wpList_nil ?_
  go_upto_region 1 with (fail)
  refine wp_region_lit ?_
  refine ls_ex (some 7) (.agg #[.int .i64 p, .int .i64 n, .int .i64 m, .int .i64 k, .slice A ts.length c]) rfl rfl (exec_load_all 29 _ rfl w.heap.size rfl _ _ _ hz5 Try.underlying29 rfl 5 (by kernel_rfl) rfl) ?_
  go_frame
  refine ls_op rfl (fun K' hK' => ?_)
  have lz8 := hB.size
  have lz9 := hz5.lt
  refine wp_call1 (some 8) rfl 31 _ _ rfl (fun args w => by kernel_rfl) _ rfl _ (l08Is_c p n m k A c ts _ (hR.keep hB) hlen) (fun e Wz6 h => ?_)
  obtain ⟨rfl, bz7⟩ := h
  replace hB := below_after hB bz7
  replace hz5 := hz5.after bz7
  rw [Hs.out]
  clear bz7
  refine ⟨_, rfl, ?_⟩
  refine hK' _ _ ?_
  clear hK' K'
  go_frame
  refine ls_ex (some 9) (.bool true) rfl rfl (exec_not _ _ rfl false rfl) ?_
  go_frame
  refine wpList_nil ?_
  go_upto_region 2 with (fail)
  refine wp_region_lit ?_
  refine ls_ex (some 2) (.slice none 0 0) rfl rfl (exec_assign _ rfl (.slice none 0 0) rfl) ?_
  go_frame
  refine ls_ex (some 3) (.int .i64 1) rfl rfl (exec_assign _ rfl (.int .i64 1) rfl) ?_
  go_frame
  refine wpList_nil ?_
  go_wp2_with fail
  go_ret2
  exact ⟨_, by rw [HC.out]; rfl, by rw [HN.out]; exact OwnM.nil _ _ _ _, hB⟩
set_option maxHeartbeats 12800000 in
theorem specLowest_v (p n m k : Int) (A : Option Addr) (c : Nat) (ts : List (List Nat)) (w : World) (hR : RdT w A ts) (hlen : ts.length ≤ 1048576) (hs : borderB p n m k ts = true) :
    Calls Try.prog 25 #[.agg #[.int .i64 p, .int .i64 n, .int .i64 m, .int .i64 k, .slice A ts.length c]] w (ResM w (lpN p n m k ts) (lrow ts) (lpCode p n m k ts)) := by
  have hB := Below.refl w.heap.size w
  have HC : Hid (lpCode p n m k ts = 0) := Lib.hid (by unfold lpCode; rw [hs]; rfl)
  have HN : Hid (lpN p n m k ts = ts.length) := Lib.hid (by unfold lpN; rw [hs]; rfl)
  have HAll := Lib.hid (borderB_all hs).2.2
  replace hlen : ts.length ≤ 1000000 := by have h := (borderB_all hs).2.1; omega
  have Hs := Lib.hid hs
  clear hs
  go_enter Try.func25, Try.ntmps25
  go_upto_region 0 with (fail)
  refine wp_region_lit ?_
  refine ls_op rfl (fun K' hK' => ?_)
  have lz1 := hB.size
  refine wp_new (some 1) rfl (exec_box 29 _ rfl (#[.int .i64 p, .int .i64 n, .int .i64 m, .int .i64 k, .slice A ts.length c]) rfl) (fun Wz2 nnz3 => ?_)
  have bz4 := nnz3.below (Below.refl _ _) (Nat.le_refl _)
  replace hB := below_after hB bz4
  have hz5 : At Wz2 w.heap.size (.cells #[.int .i64 p, .int .i64 n, .int .i64 m, .int .i64 k, .slice A ts.length c] 29 (0, 0)) := nnz3.at_
  refine hK' _ _ ?_
  clear hK' K' nnz3 bz4
  go_frame
  refine ls_ex (some 2) (.slice none 0 0) rfl rfl (exec_assign _ rfl (.slice none 0 0) rfl) ?_
  go_frame
  refine ls_ex (some 3) (.int .i64 0) rfl rfl (exec_assign _ rfl (.int .i64 0) rfl) ?_
  go_frame
  refine wpList_nil ?_
  go_upto_region 1 with (fail)
  refine wp_region_lit ?_
  refine ls_ex (some 7) (.agg #[.int .i64 p, .int .i64 n, .int .i64 m, .int .i64 k, .slice A ts.length c]) rfl rfl (exec_load_all 29 _ rfl w.heap.size rfl _ _ _ hz5 Try.underlying29 rfl 5 (by kernel_rfl) rfl) ?_
  go_frame
  refine ls_op rfl (fun K' hK' => ?_)
  have lz8 := hB.size
  have lz9 := hz5.lt
  refine wp_call1 (some 8) rfl 31 _ _ rfl (fun args w => by kernel_rfl) _ rfl _ (l08Is_c p n m k A c ts _ (hR.keep hB) (by omega)) (fun e Wz6 h => ?_)
  obtain ⟨rfl, bz7⟩ := h
  replace hB := below_after hB bz7
  replace hz5 := hz5.after bz7
  rw [Hs.out]
  clear bz7
  refine ⟨_, rfl, ?_⟩
  refine hK' _ _ ?_
  clear hK' K'
  go_frame
  refine ls_ex (some 9) (.bool false) rfl rfl (exec_not _ _ rfl true rfl) ?_
  go_frame
  refine wpList_nil ?_
  go_upto_region 3 with (fail)
  refine wp_region_lit ?_
  refine ls_op rfl (fun K' hK' => ?_)
  have lz10 := hB.size
  have lz11 := hz5.lt
  refine wp_new (some 10) rfl (exec_bs0R2 rfl) (fun Wz12 nnz13 => ?_)
  have bz14 := nnz13.below (Below.refl _ _) (Nat.le_refl _)
  replace hB := below_after hB bz14
  replace hz5 := hz5.after bz14
  have hO : OutR Wz12 w.heap.size Wz12.heap.size (.slice (some ⟨Wz6.heap.size, 0, none⟩) 0 0) (fun _ => 0) 0 (lrow ts) := (OutR.start nnz13).mono (by have := hB.size; omega) (Nat.le_refl _)
  refine hK' _ _ ?_
  clear hK' K' nnz13 bz14
  go_frame
  refine ls_ex (some 4) (.slice (some ⟨Wz6.heap.size, 0, none⟩) 0 0) rfl rfl (exec_assign _ rfl (.slice (some ⟨Wz6.heap.size, 0, none⟩) 0 0) rfl) ?_
  go_frame
  refine wpList_nil ?_
  go_upto_region 4 with (fail)
  refine wp_region_lit ?_
  refine ls_ex (some 5) (.int .i64 0) rfl rfl (exec_assign _ rfl (.int .i64 0) rfl) ?_
  go_frame
  refine wpList_nil ?_
  go_wp2_with fail
  go_loopw [4, 5] (fun s4 s5 wr => ∃ (i : Nat) (v3 : Value) (gs : Nat → Nat), i ≤ ts.length ∧ s5 = .int .i64 i ∧ v3 = s4 ∧ Below w.heap.size w wr ∧ At wr w.heap.size (.cells #[.int .i64 p, .int .i64 n, .int .i64 m, .int .i64 k, .slice A ts.length c] 29 (0, 0)) ∧ OutR wr w.heap.size wr.heap.size v3 gs i (lrow ts)) (fun _ s5 _ => ts.length - (intOf s5).toNat)
  case atStart => exact ⟨0, _, _, by omega, rfl, rfl, hB, hz5, hO⟩
  case round =>
    clear hB hz5 hO
    obtain ⟨i, v3, gs, hi, rfl, rfl, hB, h0, hO⟩ := hrel
    by_cases hlt : i < ts.length
    · obtain ⟨b, off, rfl, hc⟩ := (hR.keep hB).at_ hlt
      clear hc
      have hq := hR.good _ (List.getElem_mem hlt)
      have Hq108 := Lib.hid hq.len
      have HTw := Lib.hid (HAll.out _ (List.getElem_mem hlt))
      have HRow : Hid (lrow ts i = [((lowS (segm ts[i] 0 36) : Nat) : Int), ((lowS (segm ts[i] 36 36) : Nat) : Int), ((lowS (segm ts[i] 72 36) : Nat) : Int)]) := Lib.hid (lrow_at hlt)
      go_upto_region 5 with (fail)
      refine wp_region_lit ?_
      refine ls_ex (some 11) (.int .i64 i) rfl rfl (exec_move _ rfl (.int .i64 i) rfl) ?_
      go_frame
      refine ls_ex (some 12) (.pointer (some ⟨w.heap.size, 4, none⟩)) rfl rfl (exec_fieldAddr 29 _ 4 rfl _ (by kernel_rfl)) ?_
      go_frame
      refine ls_ex (some 13) (.slice (some ⟨b, off, none⟩) ts.length c) rfl rfl (exec_load_one 27 _ rfl w.heap.size 4 rfl (.slice (some ⟨b, off, none⟩) ts.length c) _ Try.underlying27 rfl (h0.at_ 4)) ?_
      go_frame
      refine ls_ex (some 14) (.int .i64 ts.length) rfl rfl (exec_len _ 27 63 rfl ((some ⟨b, off, none⟩)) ts.length c rfl Try.underlying27) ?_
      go_frame
      refine ls_ex (some 15) (.bool true) rfl rfl (exec_lss _ _ _ _ rfl i ts.length rfl rfl true (decide_eq_true (by omega))) ?_
      go_frame
      refine wpList_nil ?_
      go_upto_region 7 with (fail)
      refine wp_region_lit ?_
      refine ls_ex (some 18) (.pointer (some ⟨w.heap.size, 4, none⟩)) rfl rfl (exec_fieldAddr 29 _ 4 rfl _ (by kernel_rfl)) ?_
      go_frame
      refine ls_ex (some 19) (.slice (some ⟨b, off, none⟩) ts.length c) rfl rfl (exec_load_one 27 _ rfl w.heap.size 4 rfl (.slice (some ⟨b, off, none⟩) ts.length c) _ Try.underlying27 rfl (h0.at_ 4)) ?_
      go_frame
      refine ls_ex (some 20) (.int .i64 i) rfl rfl (exec_move _ rfl (.int .i64 i) rfl) ?_
      go_frame
      refine ls_ex (some 21) (.pointer (some ⟨b, off + i * 108, none⟩)) rfl rfl (exec_index_slice _ 63 _ _ rfl b off ts.length c i 108 rfl rfl Try.underlying27 (by kernel_rfl) (by omega)) ?_
      go_frame
      refine ls_ex (some 22) (.agg (u8s (ts[i]))) rfl rfl (exec_load_cells 63 _ rfl b (off + i * 108) rfl ts[i] _ 108 (RdT.c108 (hR.keep hB) hlt) Try.underlying63 rfl (by kernel_rfl) Hq108.out) ?_
      go_frame
      refine ls_op rfl (fun K' hK' => ?_)
      have lz15 := hB.size
      have lz16 := h0.lt
      refine wp_new (some 6) rfl (al_impl_Twig rfl) (fun Wz17 nnz18 => ?_)
      have bz19 := nnz18.below (Below.refl _ _) (Nat.le_refl _)
      replace hB := below_after hB bz19
      replace h0 := h0.after bz19
      replace hO := hO.below bz19
      have hz20 : At Wz17 wr.heap.size (.cells (u8s (List.replicate 108 0)) 63 (0, 0)) := nnz18.at_
      refine hK' _ _ ?_
      clear hK' K' nnz18 bz19
      go_frame
      refine ls_op rfl (fun K' hK' => ?_)
      refine wp_store_bytes 63 _ _ rfl rfl wr.heap.size rfl (ts[i]) rfl _ _ hz20 108 (by kernel_rfl) Hq108.out (by simp) (fun Wz21 pz22 => ?_)
      replace hB := pz22.below hB (by omega)
      replace h0 := pz22.other h0 (by omega)
      replace hO := hO.putT pz22 hz20 (by decide) (by decide)
      replace hz20 : At Wz21 wr.heap.size (.cells (u8s (ts[i])) 63 (0, 0)) := pz22.at_
      refine hK' _ _ ?_
      clear hK' K' pz22
      refine wpList_nil ?_
      go_upto_region 8 with (fail)
      refine wp_region_y (zs := []) (S := fun w' => Below w.heap.size w w' ∧ At w' wr.heap.size (.cells (u8s (ts[i])) 63 (0, 0))) (S2 := fun w' => True) (by kernel_rfl) ?_
      change wpAnyY _ _ _ _ _ _ _ _ _ _ (World.drew _)
      generalize hwdz23 : World.drew _ = wdz23
      replace hB : Below w.heap.size w wdz23 := by rw [← hwdz23]; exact hB.drew
      replace h0 : At wdz23 w.heap.size (.cells #[.int .i64 p, .int .i64 n, .int .i64 m, .int .i64 k, .slice (some ⟨b, off, none⟩) ts.length c] 29 (0, 0)) := by rw [← hwdz23]; exact h0
      replace hO : OutR wdz23 w.heap.size wr.heap.size v3 gs i (lrow ts) := by rw [← hwdz23]; exact hO.drewO
      replace hz20 : At wdz23 wr.heap.size (.cells (u8s (ts[i])) 63 (0, 0)) := by rw [← hwdz23]; exact hz20
      clear hwdz23
      refine y_yield 0 (some 23) (v3) rfl (by kernel_rfl) (by kernel_rfl) (by kernel_rfl) (fun _ _ _ h => h) rfl rfl ⟨hB, hz20⟩ (fun w' h' => exec_move _ rfl (v3) rfl) ?_
      go_frame
      refine y_yield 1 (some 24) (.pointer (some ⟨wr.heap.size, 0, none⟩)) rfl (by kernel_rfl) (by kernel_rfl) (by kernel_rfl) (fun _ _ _ h => h) rfl rfl ⟨hB, hz20⟩ (fun w' h' => exec_fieldAddr 63 _ 0 rfl _ (by kernel_rfl)) ?_
      go_frame
      refine y_yield 2 (some 25) (.agg (u8s (segm (ts[i]) 0 36))) rfl (by kernel_rfl) (by kernel_rfl) (by kernel_rfl) (fun _ _ _ h => h) rfl rfl ⟨hB, hz20⟩ (fun w' h' => exec_load_seg 61 _ rfl wr.heap.size (0) rfl _ (ts[i]) _ 36 h'.2 Try.underlying61 rfl (by kernel_rfl) (by rw [Hq108.out]; omega) (segm (ts[i]) 0 36) rfl) ?_
      go_frame
      refine y_yield 4 (some 27) (.pointer (some ⟨wr.heap.size, 36, none⟩)) rfl (by kernel_rfl) (by kernel_rfl) (by kernel_rfl) (fun _ _ _ h => h) rfl rfl ⟨hB, hz20⟩ (fun w' h' => exec_fieldAddr 63 _ 1 rfl _ (by kernel_rfl)) ?_
      go_frame
      refine y_yield 5 (some 28) (.agg (u8s (segm (ts[i]) 36 36))) rfl (by kernel_rfl) (by kernel_rfl) (by kernel_rfl) (fun _ _ _ h => h) rfl rfl ⟨hB, hz20⟩ (fun w' h' => exec_load_seg 61 _ rfl wr.heap.size (36) rfl _ (ts[i]) _ 36 h'.2 Try.underlying61 rfl (by kernel_rfl) (by rw [Hq108.out]; omega) (segm (ts[i]) 36 36) rfl) ?_
      go_frame
      refine y_yield 7 (some 30) (.pointer (some ⟨wr.heap.size, 72, none⟩)) rfl (by kernel_rfl) (by kernel_rfl) (by kernel_rfl) (fun _ _ _ h => h) rfl rfl ⟨hB, hz20⟩ (fun w' h' => exec_fieldAddr 63 _ 2 rfl _ (by kernel_rfl)) ?_
      go_frame
      refine y_yield 8 (some 31) (.agg (u8s (segm (ts[i]) 72 36))) rfl (by kernel_rfl) (by kernel_rfl) (by kernel_rfl) (fun _ _ _ h => h) rfl rfl ⟨hB, hz20⟩ (fun w' h' => exec_load_seg 61 _ rfl wr.heap.size (72) rfl _ (ts[i]) _ 36 h'.2 Try.underlying61 rfl (by kernel_rfl) (by rw [Hq108.out]; omega) (segm (ts[i]) 72 36) rfl) ?_
      go_frame
      refine y_oper 3 (by kernel_rfl) rfl rfl (fun K' hK' => ?_)
      have lz26 := hB.size
      have lz27 := h0.lt
      have lz28 := hz20.lt
      refine wp_call1 (some 26) rfl 61 _ _ rfl (fun args w => by kernel_rfl) _ rfl _ (l08Lowest_c (segm ts[i] 0 36) (segm_bytes hq (by omega)) (twig_parts HTw.out 0 (by omega)) _) (fun e Wz24 h => ?_)
      obtain ⟨rfl, bz25⟩ := h
      replace hB := below_after hB bz25
      replace h0 := h0.after bz25
      replace hO := hO.below bz25
      replace hz20 := hz20.after bz25
      clear bz25
      refine ⟨_, rfl, ?_⟩
      refine hK' _ _ ⟨hB, hz20⟩ (fun _ => trivial) ?_
      clear hK' K'
      go_frame
      refine y_oper 6 (by kernel_rfl) rfl rfl (fun K' hK' => ?_)
      have lz31 := hB.size
      have lz32 := h0.lt
      have lz33 := hz20.lt
      refine wp_call1 (some 29) rfl 61 _ _ rfl (fun args w => by kernel_rfl) _ rfl _ (l08Lowest_c (segm ts[i] 36 36) (segm_bytes hq (by omega)) (twig_parts HTw.out 36 (by omega)) _) (fun e Wz29 h => ?_)
      obtain ⟨rfl, bz30⟩ := h
      replace hB := below_after hB bz30
      replace h0 := h0.after bz30
      replace hO := hO.below bz30
      replace hz20 := hz20.after bz30
      clear bz30
      refine ⟨_, rfl, ?_⟩
      refine hK' _ _ ⟨hB, hz20⟩ (fun _ => trivial) ?_
      clear hK' K'
      go_frame
      refine y_oper 9 (by kernel_rfl) rfl rfl (fun K' hK' => ?_)
      have lz36 := hB.size
      have lz37 := h0.lt
      have lz38 := hz20.lt
      refine wp_call1 (some 32) rfl 61 _ _ rfl (fun args w => by kernel_rfl) _ rfl _ (l08Lowest_c (segm ts[i] 72 36) (segm_bytes hq (by omega)) (twig_parts HTw.out 72 (by omega)) _) (fun e Wz34 h => ?_)
      obtain ⟨rfl, bz35⟩ := h
      replace hB := below_after hB bz35
      replace h0 := h0.after bz35
      replace hO := hO.below bz35
      replace hz20 := hz20.after bz35
      clear bz35
      refine ⟨_, rfl, ?_⟩
      refine hK' _ _ ⟨hB, hz20⟩ (fun _ => trivial) ?_
      clear hK' K'
      go_frame
      refine y_oper 10 (by kernel_rfl) rfl rfl (fun K' hK' => ?_)
      have lz39 := hB.size
      have lz40 := h0.lt
      have lz41 := hz20.lt
      refine wp_new (some 33) rfl (exec_bsi3 _ _ _ rfl ((lowS (segm ts[i] 0 36) : Nat)) ((lowS (segm ts[i] 36 36) : Nat)) ((lowS (segm ts[i] 72 36) : Nat)) rfl rfl rfl) (fun Wz42 nnz43 => ?_)
      have bz44 := nnz43.below (Below.refl _ _) (Nat.le_refl _)
      replace hB := below_after hB bz44
      replace h0 := h0.after bz44
      replace hO := hO.below bz44
      replace hz20 := hz20.after bz44
      have hz45 : At Wz42 Wz34.heap.size (.cells #[.int .i64 (lowS (segm ts[i] 0 36) : Nat), .int .i64 (lowS (segm ts[i] 36 36) : Nat), .int .i64 (lowS (segm ts[i] 72 36) : Nat)] 2 (0, 0)) := nnz43.at_
      refine hK' _ _ ⟨hB, hz20⟩ (fun _ => trivial) ?_
      clear hK' K' nnz43 bz44
      go_frame
      refine y_oper 11 (by kernel_rfl) rfl rfl (fun K' hK' => ?_)
      have lz46 := hB.size
      have lz47 := h0.lt
      have lz48 := hz20.lt
      have lz49 := hz45.lt
      refine wp_new (some 34) rfl (exec_buildRow _ rfl (some ⟨Wz34.heap.size, 0, none⟩) 3 3 rfl) (fun Wz50 nnz51 => ?_)
      have bz52 := nnz51.below (Below.refl _ _) (Nat.le_refl _)
      replace hB := below_after hB bz52
      replace h0 := h0.after bz52
      replace hO := hO.below bz52
      replace hz20 := hz20.after bz52
      replace hz45 := hz45.after bz52
      have hz53 : At Wz50 Wz42.heap.size (.cells #[.slice (some ⟨Wz34.heap.size, 0, none⟩) 3 3] 94 (0, 0)) := nnz51.at_
      refine hK' _ _ ⟨hB, hz20⟩ (fun _ => trivial) ?_
      clear hK' K' nnz51 bz52
      go_frame
      refine y_oper 12 (by kernel_rfl) rfl rfl (fun K' hK' => ?_)
      have lz55 := hB.size
      have lz56 := h0.lt
      have lz57 := hz20.lt
      have lz58 := hz45.lt
      have lz59 := hz53.lt
      refine wp_appR2 (some 35) rfl _ _ rfl w.heap.size (v3) i gs (lrow ts) _ rfl hO (.slice (some ⟨Wz34.heap.size, 0, none⟩) 3 3) rfl Wz42.heap.size rfl (cellsR_of_at hz53) (by omega) (by omega) (fun v8 Wz54 own8 gr8 => ?_)
      have hO8 := hO.append (show w.heap.size ≤ Wz34.heap.size by omega) (by omega) (by rw [HRow.out]; exact hz45) (by rw [HRow.out]; rfl) gr8 own8
      replace hB : Below w.heap.size w Wz54 := hB.grown gr8 hB.size (fun k hk => by have := (outR_lt2 hO hk).1; omega)
      replace h0 := h0.grown gr8 (hO.offT h0 (by decide))
      replace hz20 := hz20.grown gr8 (hO.offT hz20 (by decide))
      replace hO := hO8
      refine hK' _ _ ⟨hB, hz20⟩ (fun _ => trivial) ?_
      clear hK' K' gr8 own8 hz45 hz53
      go_frame
      refine y_oper 13 (by kernel_rfl) rfl rfl (fun K' hK' => ?_)
      refine wp_exec (some 4) rfl (v8) (exec_assign _ rfl (v8) rfl) ?_
      refine hK' _ _ ⟨hB, hz20⟩ (fun _ => trivial) ?_
      clear hK' K'
      go_frame
      refine y_done (by kernel_rfl) ?_ _
      go_upto_region 6 with (fail)
      refine wp_region_lit ?_
      refine ls_ex (some 16) (.int .i64 i) rfl rfl (exec_move _ rfl (.int .i64 i) rfl) ?_
      go_frame
      refine ls_ex (some 17) (.int .i64 (i + 1)) rfl rfl (exec_add _ _ _ _ rfl i 1 (i + 1) rfl rfl (IntWalk.i64_in _ (by omega))) ?_
      go_frame
      refine ls_ex (some 5) (.int .i64 (i + 1)) rfl rfl (exec_assign _ rfl (.int .i64 (i + 1)) rfl) ?_
      go_frame
      refine wpList_nil ?_
      go_wp2_with fail
      go_roundw
      case rel => exact ⟨i + 1, _, _, by omega, by go_num, rfl, hB, h0, hO⟩
      case measure => simp [intOf]; omega
    · have HE : Hid (i = ts.length) := Lib.hid (by omega)
      go_upto_region 5 with (fail)
      refine wp_region_lit ?_
      refine ls_ex (some 11) (.int .i64 i) rfl rfl (exec_move _ rfl (.int .i64 i) rfl) ?_
      go_frame
      refine ls_ex (some 12) (.pointer (some ⟨w.heap.size, 4, none⟩)) rfl rfl (exec_fieldAddr 29 _ 4 rfl _ (by kernel_rfl)) ?_
      go_frame
      refine ls_ex (some 13) (.slice A ts.length c) rfl rfl (exec_load_one 27 _ rfl w.heap.size 4 rfl (.slice A ts.length c) _ Try.underlying27 rfl (h0.at_ 4)) ?_
      go_frame
      refine ls_ex (some 14) (.int .i64 ts.length) rfl rfl (exec_len _ 27 63 rfl A ts.length c rfl Try.underlying27) ?_
      go_frame
      refine ls_ex (some 15) (.bool false) rfl rfl (exec_lss _ _ _ _ rfl i ts.length rfl rfl false (decide_eq_false (by omega))) ?_
      go_frame
      refine wpList_nil ?_
      go_upto_region 9 with (fail)
      refine wp_region_lit ?_
      refine ls_ex (some 36) (v3) rfl rfl (exec_move _ rfl (v3) rfl) ?_
      go_frame
      refine ls_ex (some 2) (v3) rfl rfl (exec_assign _ rfl (v3) rfl) ?_
      go_frame
      refine ls_ex (some 3) (.int .i64 0) rfl rfl (exec_assign _ rfl (.int .i64 0) rfl) ?_
      go_frame
      refine wpList_nil ?_
      go_wp2_with fail
      go_ret2
      have hsz := hB.size
      refine ⟨_, by rw [HC.out]; rfl, ?_, hB⟩
      rw [HN.out, ← HE.out]
      exact hO.to (Nat.le_refl _)
theorem specLowestPowers_c (p n m k : Int) (A : Option Addr) (c : Nat) (ts : List (List Nat)) (w : World) (hR : RdT w A ts) (hlen : ts.length ≤ 1048576) : Calls Try.prog 25 #[.agg #[.int .i64 p, .int .i64 n, .int .i64 m, .int .i64 k, .slice A ts.length c]] w (ResM w (lpN p n m k ts) (lrow ts) (lpCode p n m k ts)) := by
  cases hs : borderB p n m k ts with
  | false => exact specLowest_a p n m k A c ts w hR hlen hs
  | true => exact specLowest_v p n m k A c ts w hR hlen hs
set_option maxHeartbeats 4000000 in
theorem implLowest_a (p n m k : Int) (A : Option Addr) (c : Nat) (ts : List (List Nat)) (w : World) (hR : RdT w A ts) (hlen : ts.length ≤ 1048576) (hs : borderB p n m k ts = false) :
    Calls Try.prog 26 #[.agg #[.int .i64 p, .int .i64 n, .int .i64 m, .int .i64 k, .slice A ts.length c]] w (ResM w (lpN p n m k ts) (lrow ts) (lpCode p n m k ts)) := by
  have hB := Below.refl w.heap.size w
  have HC : Hid (lpCode p n m k ts = 1) := Lib.hid (by unfold lpCode; rw [hs]; rfl)
  have HN : Hid (lpN p n m k ts = 0) := Lib.hid (by unfold lpN; rw [hs]; rfl)
  have Hs := Lib.hid hs
  clear hs
  go_enter Try.func26, Try.ntmps26
  go_upto_region 0 with (fail)
  refine wp_region_lit ?_
  refine ls_op rfl (fun K' hK' => ?_)
  have lz1 := hB.size
  refine wp_new (some 1) rfl (exec_box 29 _ rfl (#[.int .i64 p, .int .i64 n, .int .i64 m, .int .i64 k, .slice A ts.length c]) rfl) (fun Wz2 nnz3 => ?_)
  have bz4 := nnz3.below (Below.refl _ _) (Nat.le_refl _)
  replace hB := below_after hB bz4
  have hz5 : At Wz2 w.heap.size (.cells #[.int .i64 p, .int .i64 n, .int .i64 m, .int .i64 k, .slice A ts.length c] 29 (0, 0)) := nnz3.at_
  refine hK' _ _ ?_
  clear hK' K' nnz3 bz4
  go_frame
  refine ls_ex (some 2) (.slice none 0 0) rfl rfl (exec_assign _ rfl (.slice none 0 0) rfl) ?_
  go_frame
  refine ls_ex (some 3) (.int .i64 0) rfl rfl (exec_assign _ rfl (.int .i64 0) rfl) ?_
  go_frame
  refine wpList_nil ?_
  go_upto_region 1 with (fail)
  refine wp_region_lit ?_
  refine ls_ex (some 7) (.agg #[.int .i64 p, .int .i64 n, .int .i64 m, .int .i64 k, .slice A ts.length c]) rfl rfl (exec_load_all 29 _ rfl w.heap.size rfl _ _ _ hz5 Try.underlying29 rfl 5 (by kernel_rfl) rfl) ?_
  go_frame
  refine ls_op rfl (fun K' hK' => ?_)
  have lz8 := hB.size
  have lz9 := hz5.lt
  refine wp_call1 (some 8) rfl 11 _ _ rfl (fun args w => by kernel_rfl) _ rfl _ (implIsBorder_c p n m k A c ts _ (hR.keep hB) hlen) (fun e Wz6 h => ?_)
  obtain ⟨rfl, bz7⟩ := h
  replace hB := below_after hB bz7
  replace hz5 := hz5.after bz7
  rw [Hs.out]
  clear bz7
  refine ⟨_, rfl, ?_⟩
  refine hK' _ _ ?_
  clear hK' K'
  go_frame
  refine ls_ex (some 9) (.bool true) rfl rfl (exec_not _ _ rfl false rfl) ?_
  go_frame
  refine wpList_nil ?_
  go_upto_region 2 with (fail)
  refine wp_region_lit ?_
  refine ls_ex (some 2) (.slice none 0 0) rfl rfl (exec_assign _ rfl (.slice none 0 0) rfl) ?_
  go_frame
  refine ls_ex (some 3) (.int .i64 1) rfl rfl (exec_assign _ rfl (.int .i64 1) rfl) ?_
  go_frame
  refine wpList_nil ?_
  go_wp2_with fail
  go_ret2
  exact ⟨_, by rw [HC.out]; rfl, by rw [HN.out]; exact OwnM.nil _ _ _ _, hB⟩
set_option maxHeartbeats 12800000 in
theorem implLowest_v (p n m k : Int) (A : Option Addr) (c : Nat) (ts : List (List Nat)) (w : World) (hR : RdT w A ts) (hlen : ts.length ≤ 1048576) (hs : borderB p n m k ts = true) :
    Calls Try.prog 26 #[.agg #[.int .i64 p, .int .i64 n, .int .i64 m, .int .i64 k, .slice A ts.length c]] w (ResM w (lpN p n m k ts) (lrow ts) (lpCode p n m k ts)) := by
  have hB := Below.refl w.heap.size w
  have HC : Hid (lpCode p n m k ts = 0) := Lib.hid (by unfold lpCode; rw [hs]; rfl)
  have HN : Hid (lpN p n m k ts = ts.length) := Lib.hid (by unfold lpN; rw [hs]; rfl)
  have HAll := Lib.hid (borderB_all hs).2.2
  replace hlen : ts.length ≤ 1000000 := by have h := (borderB_all hs).2.1; omega
  have Hs := Lib.hid hs
  clear hs
  go_enter Try.func26, Try.ntmps26
  go_upto_region 0 with (fail)
  refine wp_region_lit ?_
  refine ls_op rfl (fun K' hK' => ?_)
  have lz1 := hB.size
  refine wp_new (some 1) rfl (exec_box 29 _ rfl (#[.int .i64 p, .int .i64 n, .int .i64 m, .int .i64 k, .slice A ts.length c]) rfl) (fun Wz2 nnz3 => ?_)
  have bz4 := nnz3.below (Below.refl _ _) (Nat.le_refl _)
  replace hB := below_after hB bz4
  have hz5 : At Wz2 w.heap.size (.cells #[.int .i64 p, .int .i64 n, .int .i64 m, .int .i64 k, .slice A ts.length c] 29 (0, 0)) := nnz3.at_
  refine hK' _ _ ?_
  clear hK' K' nnz3 bz4
  go_frame
  refine ls_ex (some 2) (.slice none 0 0) rfl rfl (exec_assign _ rfl (.slice none 0 0) rfl) ?_
  go_frame
  refine ls_ex (some 3) (.int .i64 0) rfl rfl (exec_assign _ rfl (.int .i64 0) rfl) ?_
  go_frame
  refine wpList_nil ?_
  go_upto_region 1 with (fail)
  refine wp_region_lit ?_
  refine ls_ex (some 7) (.agg #[.int .i64 p, .int .i64 n, .int .i64 m, .int .i64 k, .slice A ts.length c]) rfl rfl (exec_load_all 29 _ rfl w.heap.size rfl _ _ _ hz5 Try.underlying29 rfl 5 (by kernel_rfl) rfl) ?_
  go_frame
  refine ls_op rfl (fun K' hK' => ?_)
  have lz8 := hB.size
  have lz9 := hz5.lt
  refine wp_call1 (some 8) rfl 11 _ _ rfl (fun args w => by kernel_rfl) _ rfl _ (implIsBorder_c p n m k A c ts _ (hR.keep hB) (by omega)) (fun e Wz6 h => ?_)
  obtain ⟨rfl, bz7⟩ := h
  replace hB := below_after hB bz7
  replace hz5 := hz5.after bz7
  rw [Hs.out]
  clear bz7
  refine ⟨_, rfl, ?_⟩
  refine hK' _ _ ?_
  clear hK' K'
  go_frame
  refine ls_ex (some 9) (.bool false) rfl rfl (exec_not _ _ rfl true rfl) ?_
  go_frame
  refine wpList_nil ?_
  go_upto_region 3 with (fail)
  refine wp_region_lit ?_
  refine ls_ex (some 4) (.slice none 0 0) rfl rfl (exec_assign _ rfl (.slice none 0 0) rfl) ?_
  go_frame
  refine wpList_nil ?_
  go_upto_region 4 with (fail)
  refine wp_region_lit ?_
  refine ls_ex (some 10) (.pointer (some ⟨w.heap.size, 4, none⟩)) rfl rfl (exec_fieldAddr 29 _ 4 rfl _ (by kernel_rfl)) ?_
  go_frame
  refine ls_ex (some 11) (.slice A ts.length c) rfl rfl (exec_load_one 27 _ rfl w.heap.size 4 rfl (.slice A ts.length c) _ Try.underlying27 rfl (hz5.at_ 4)) ?_
  go_frame
  refine ls_ex (some 12) (.int .i64 ts.length) rfl rfl (exec_len _ 27 63 rfl A ts.length c rfl Try.underlying27) ?_
  go_frame
  refine ls_ex (some 13) (.int .i64 0) rfl rfl (exec_move _ rfl (.int .i64 0) rfl) ?_
  go_frame
  refine wpList_nil ?_
  go_wp2_with fail
  go_loopw [4, 13] (fun s4 s13 wr => ∃ (i : Nat) (v3 : Value) (gs : Nat → Nat), i ≤ ts.length ∧ s13 = .int .i64 i ∧ v3 = s4 ∧ Below w.heap.size w wr ∧ At wr w.heap.size (.cells #[.int .i64 p, .int .i64 n, .int .i64 m, .int .i64 k, .slice A ts.length c] 29 (0, 0)) ∧ OutR wr w.heap.size wr.heap.size v3 gs i (lrow ts)) (fun _ s13 _ => ts.length - (intOf s13).toNat)
  case atStart => exact ⟨0, _, _, by omega, rfl, rfl, hB, hz5, OutR.nil _ _ _ _⟩
  case round =>
    clear hB hz5
    obtain ⟨i, v3, gs, hi, rfl, rfl, hB, h0, hO⟩ := hrel
    by_cases hlt : i < ts.length
    · obtain ⟨b, off, rfl, hc⟩ := (hR.keep hB).at_ hlt
      clear hc
      have hq := hR.good _ (List.getElem_mem hlt)
      have Hq108 := Lib.hid hq.len
      have HTw := Lib.hid (HAll.out _ (List.getElem_mem hlt))
      have HRow : Hid (lrow ts i = [((lowS (segm ts[i] 0 36) : Nat) : Int), ((lowS (segm ts[i] 36 36) : Nat) : Int), ((lowS (segm ts[i] 72 36) : Nat) : Int)]) := Lib.hid (lrow_at hlt)
      go_upto_region 5 with (fail)
      refine wp_region_lit ?_
      refine ls_ex (some 14) (.bool true) rfl rfl (exec_lss _ _ _ _ rfl i ts.length rfl rfl true (decide_eq_true (by omega))) ?_
      go_frame
      refine wpList_nil ?_
      go_upto_region 6 with (fail)
      refine wp_region_lit ?_
      refine ls_ex (some 15) (.pointer (some ⟨b, off + i * 108, none⟩)) rfl rfl (exec_index_slice _ 63 _ _ rfl b off ts.length c i 108 rfl rfl Try.underlying27 (by kernel_rfl) (by omega)) ?_
      go_frame
      refine ls_ex (some 16) (.agg (u8s (ts[i]))) rfl rfl (exec_load_cells 63 _ rfl b (off + i * 108) rfl ts[i] _ 108 (RdT.c108 (hR.keep hB) hlt) Try.underlying63 rfl (by kernel_rfl) Hq108.out) ?_
      go_frame
      refine ls_op rfl (fun K' hK' => ?_)
      have lz10 := hB.size
      have lz11 := h0.lt
      refine wp_new (some 6) rfl (al_impl_Twig rfl) (fun Wz12 nnz13 => ?_)
      have bz14 := nnz13.below (Below.refl _ _) (Nat.le_refl _)
      replace hB := below_after hB bz14
      replace h0 := h0.after bz14
      replace hO := hO.below bz14
      have hz15 : At Wz12 wr.heap.size (.cells (u8s (List.replicate 108 0)) 63 (0, 0)) := nnz13.at_
      refine hK' _ _ ?_
      clear hK' K' nnz13 bz14
      go_frame
      refine ls_op rfl (fun K' hK' => ?_)
      refine wp_store_bytes 63 _ _ rfl rfl wr.heap.size rfl (ts[i]) rfl _ _ hz15 108 (by kernel_rfl) Hq108.out (by simp) (fun Wz16 pz17 => ?_)
      replace hB := pz17.below hB (by omega)
      replace h0 := pz17.other h0 (by omega)
      replace hO := hO.putT pz17 hz15 (by decide) (by decide)
      replace hz15 : At Wz16 wr.heap.size (.cells (u8s (ts[i])) 63 (0, 0)) := pz17.at_
      refine hK' _ _ ?_
      clear hK' K' pz17
      refine wpList_nil ?_
      go_upto_region 7 with (fail)
      refine wp_region_y (zs := []) (S := fun w' => Below w.heap.size w w' ∧ At w' wr.heap.size (.cells (u8s (ts[i])) 63 (0, 0))) (S2 := fun w' => True) (by kernel_rfl) ?_
      change wpAnyY _ _ _ _ _ _ _ _ _ _ (World.drew _)
      generalize hwdz18 : World.drew _ = wdz18
      replace hB : Below w.heap.size w wdz18 := by rw [← hwdz18]; exact hB.drew
      replace h0 : At wdz18 w.heap.size (.cells #[.int .i64 p, .int .i64 n, .int .i64 m, .int .i64 k, .slice (some ⟨b, off, none⟩) ts.length c] 29 (0, 0)) := by rw [← hwdz18]; exact h0
      replace hO : OutR wdz18 w.heap.size wr.heap.size v3 gs i (lrow ts) := by rw [← hwdz18]; exact hO.drewO
      replace hz15 : At wdz18 wr.heap.size (.cells (u8s (ts[i])) 63 (0, 0)) := by rw [← hwdz18]; exact hz15
      clear hwdz18
      refine y_yield 0 (some 17) (v3) rfl (by kernel_rfl) (by kernel_rfl) (by kernel_rfl) (fun _ _ _ h => h) rfl rfl ⟨hB, hz15⟩ (fun w' h' => exec_move _ rfl (v3) rfl) ?_
      go_frame
      refine y_yield 1 (some 18) (.pointer (some ⟨wr.heap.size, 0, none⟩)) rfl (by kernel_rfl) (by kernel_rfl) (by kernel_rfl) (fun _ _ _ h => h) rfl rfl ⟨hB, hz15⟩ (fun w' h' => exec_fieldAddr 63 _ 0 rfl _ (by kernel_rfl)) ?_
      go_frame
      refine y_yield 2 (some 19) (.agg (u8s (segm (ts[i]) 0 36))) rfl (by kernel_rfl) (by kernel_rfl) (by kernel_rfl) (fun _ _ _ h => h) rfl rfl ⟨hB, hz15⟩ (fun w' h' => exec_load_seg 61 _ rfl wr.heap.size (0) rfl _ (ts[i]) _ 36 h'.2 Try.underlying61 rfl (by kernel_rfl) (by rw [Hq108.out]; omega) (segm (ts[i]) 0 36) rfl) ?_
      go_frame
      refine y_yield 4 (some 21) (.pointer (some ⟨wr.heap.size, 36, none⟩)) rfl (by kernel_rfl) (by kernel_rfl) (by kernel_rfl) (fun _ _ _ h => h) rfl rfl ⟨hB, hz15⟩ (fun w' h' => exec_fieldAddr 63 _ 1 rfl _ (by kernel_rfl)) ?_
      go_frame
      refine y_yield 5 (some 22) (.agg (u8s (segm (ts[i]) 36 36))) rfl (by kernel_rfl) (by kernel_rfl) (by kernel_rfl) (fun _ _ _ h => h) rfl rfl ⟨hB, hz15⟩ (fun w' h' => exec_load_seg 61 _ rfl wr.heap.size (36) rfl _ (ts[i]) _ 36 h'.2 Try.underlying61 rfl (by kernel_rfl) (by rw [Hq108.out]; omega) (segm (ts[i]) 36 36) rfl) ?_
      go_frame
      refine y_yield 7 (some 24) (.pointer (some ⟨wr.heap.size, 72, none⟩)) rfl (by kernel_rfl) (by kernel_rfl) (by kernel_rfl) (fun _ _ _ h => h) rfl rfl ⟨hB, hz15⟩ (fun w' h' => exec_fieldAddr 63 _ 2 rfl _ (by kernel_rfl)) ?_
      go_frame
      refine y_yield 8 (some 25) (.agg (u8s (segm (ts[i]) 72 36))) rfl (by kernel_rfl) (by kernel_rfl) (by kernel_rfl) (fun _ _ _ h => h) rfl rfl ⟨hB, hz15⟩ (fun w' h' => exec_load_seg 61 _ rfl wr.heap.size (72) rfl _ (ts[i]) _ 36 h'.2 Try.underlying61 rfl (by kernel_rfl) (by rw [Hq108.out]; omega) (segm (ts[i]) 72 36) rfl) ?_
      go_frame
      refine y_oper 3 (by kernel_rfl) rfl rfl (fun K' hK' => ?_)
      have lz21 := hB.size
      have lz22 := h0.lt
      have lz23 := hz15.lt
      refine wp_call1 (some 20) rfl 62 _ _ rfl (fun args w => by kernel_rfl) _ rfl _ (lowestPower_c (segm ts[i] 0 36) (segm_bytes hq (by omega)) (twig_parts HTw.out 0 (by omega)) _) (fun e Wz19 h => ?_)
      obtain ⟨rfl, bz20⟩ := h
      replace hB := below_after hB bz20
      replace h0 := h0.after bz20
      replace hO := hO.below bz20
      replace hz15 := hz15.after bz20
      clear bz20
      refine ⟨_, rfl, ?_⟩
      refine hK' _ _ ⟨hB, hz15⟩ (fun _ => trivial) ?_
      clear hK' K'
      go_frame
      refine y_oper 6 (by kernel_rfl) rfl rfl (fun K' hK' => ?_)
      have lz26 := hB.size
      have lz27 := h0.lt
      have lz28 := hz15.lt
      refine wp_call1 (some 23) rfl 62 _ _ rfl (fun args w => by kernel_rfl) _ rfl _ (lowestPower_c (segm ts[i] 36 36) (segm_bytes hq (by omega)) (twig_parts HTw.out 36 (by omega)) _) (fun e Wz24 h => ?_)
      obtain ⟨rfl, bz25⟩ := h
      replace hB := below_after hB bz25
      replace h0 := h0.after bz25
      replace hO := hO.below bz25
      replace hz15 := hz15.after bz25
      clear bz25
      refine ⟨_, rfl, ?_⟩
      refine hK' _ _ ⟨hB, hz15⟩ (fun _ => trivial) ?_
      clear hK' K'
      go_frame
      refine y_oper 9 (by kernel_rfl) rfl rfl (fun K' hK' => ?_)
      have lz31 := hB.size
      have lz32 := h0.lt
      have lz33 := hz15.lt
      refine wp_call1 (some 26) rfl 62 _ _ rfl (fun args w => by kernel_rfl) _ rfl _ (lowestPower_c (segm ts[i] 72 36) (segm_bytes hq (by omega)) (twig_parts HTw.out 72 (by omega)) _) (fun e Wz29 h => ?_)
      obtain ⟨rfl, bz30⟩ := h
      replace hB := below_after hB bz30
      replace h0 := h0.after bz30
      replace hO := hO.below bz30
      replace hz15 := hz15.after bz30
      clear bz30
      refine ⟨_, rfl, ?_⟩
      refine hK' _ _ ⟨hB, hz15⟩ (fun _ => trivial) ?_
      clear hK' K'
      go_frame
      refine y_oper 10 (by kernel_rfl) rfl rfl (fun K' hK' => ?_)
      have lz34 := hB.size
      have lz35 := h0.lt
      have lz36 := hz15.lt
      refine wp_new (some 27) rfl (exec_bsi3 _ _ _ rfl ((lowS (segm ts[i] 0 36) : Nat)) ((lowS (segm ts[i] 36 36) : Nat)) ((lowS (segm ts[i] 72 36) : Nat)) rfl rfl rfl) (fun Wz37 nnz38 => ?_)
      have bz39 := nnz38.below (Below.refl _ _) (Nat.le_refl _)
      replace hB := below_after hB bz39
      replace h0 := h0.after bz39
      replace hO := hO.below bz39
      replace hz15 := hz15.after bz39
      have hz40 : At Wz37 Wz29.heap.size (.cells #[.int .i64 (lowS (segm ts[i] 0 36) : Nat), .int .i64 (lowS (segm ts[i] 36 36) : Nat), .int .i64 (lowS (segm ts[i] 72 36) : Nat)] 2 (0, 0)) := nnz38.at_
      refine hK' _ _ ⟨hB, hz15⟩ (fun _ => trivial) ?_
      clear hK' K' nnz38 bz39
      go_frame
      refine y_oper 11 (by kernel_rfl) rfl rfl (fun K' hK' => ?_)
      have lz41 := hB.size
      have lz42 := h0.lt
      have lz43 := hz15.lt
      have lz44 := hz40.lt
      refine wp_new (some 28) rfl (exec_buildRow _ rfl (some ⟨Wz29.heap.size, 0, none⟩) 3 3 rfl) (fun Wz45 nnz46 => ?_)
      have bz47 := nnz46.below (Below.refl _ _) (Nat.le_refl _)
      replace hB := below_after hB bz47
      replace h0 := h0.after bz47
      replace hO := hO.below bz47
      replace hz15 := hz15.after bz47
      replace hz40 := hz40.after bz47
      have hz48 : At Wz45 Wz37.heap.size (.cells #[.slice (some ⟨Wz29.heap.size, 0, none⟩) 3 3] 94 (0, 0)) := nnz46.at_
      refine hK' _ _ ⟨hB, hz15⟩ (fun _ => trivial) ?_
      clear hK' K' nnz46 bz47
      go_frame
      refine y_oper 12 (by kernel_rfl) rfl rfl (fun K' hK' => ?_)
      have lz50 := hB.size
      have lz51 := h0.lt
      have lz52 := hz15.lt
      have lz53 := hz40.lt
      have lz54 := hz48.lt
      refine wp_appR2 (some 29) rfl _ _ rfl w.heap.size (v3) i gs (lrow ts) _ rfl hO (.slice (some ⟨Wz29.heap.size, 0, none⟩) 3 3) rfl Wz37.heap.size rfl (cellsR_of_at hz48) (by omega) (by omega) (fun v8 Wz49 own8 gr8 => ?_)
      have hO8 := hO.append (show w.heap.size ≤ Wz29.heap.size by omega) (by omega) (by rw [HRow.out]; exact hz40) (by rw [HRow.out]; rfl) gr8 own8
      replace hB : Below w.heap.size w Wz49 := hB.grown gr8 hB.size (fun k hk => by have := (outR_lt2 hO hk).1; omega)
      replace h0 := h0.grown gr8 (hO.offT h0 (by decide))
      replace hz15 := hz15.grown gr8 (hO.offT hz15 (by decide))
      replace hO := hO8
      refine hK' _ _ ⟨hB, hz15⟩ (fun _ => trivial) ?_
      clear hK' K' gr8 own8 hz40 hz48
      go_frame
      refine y_oper 13 (by kernel_rfl) rfl rfl (fun K' hK' => ?_)
      refine wp_exec (some 4) rfl (v8) (exec_assign _ rfl (v8) rfl) ?_
      refine hK' _ _ ⟨hB, hz15⟩ (fun _ => trivial) ?_
      clear hK' K'
      go_frame
      refine y_done (by kernel_rfl) ?_ _
      go_upto_region 8 with (fail)
      refine wp_region_lit ?_
      refine ls_ex (some 30) (.int .i64 (i + 1)) rfl rfl (exec_add _ _ _ _ rfl i 1 (i + 1) rfl rfl (IntWalk.i64_in _ (by omega))) ?_
      go_frame
      refine ls_ex (some 13) (.int .i64 (i + 1)) rfl rfl (exec_move _ rfl (.int .i64 (i + 1)) rfl) ?_
      go_frame
      refine wpList_nil ?_
      go_wp2_with fail
      go_roundw
      case rel => exact ⟨i + 1, _, _, by omega, by go_num, rfl, hB, h0, hO⟩
      case measure => simp [intOf]; omega
    · have HE : Hid (i = ts.length) := Lib.hid (by omega)
      go_upto_region 5 with (fail)
      refine wp_region_lit ?_
      refine ls_ex (some 14) (.bool false) rfl rfl (exec_lss _ _ _ _ rfl i ts.length rfl rfl false (decide_eq_false (by omega))) ?_
      go_frame
      refine wpList_nil ?_
      go_upto_region 9 with (fail)
      refine wp_region_lit ?_
      refine ls_ex (some 31) (v3) rfl rfl (exec_move _ rfl (v3) rfl) ?_
      go_frame
      refine ls_ex (some 2) (v3) rfl rfl (exec_assign _ rfl (v3) rfl) ?_
      go_frame
      refine ls_ex (some 3) (.int .i64 0) rfl rfl (exec_assign _ rfl (.int .i64 0) rfl) ?_
      go_frame
      refine wpList_nil ?_
      go_wp2_with fail
      go_ret2
      have hsz := hB.size
      refine ⟨_, by rw [HC.out]; rfl, ?_, hB⟩
      rw [HN.out, ← HE.out]
      exact hO.to (Nat.le_refl _)
theorem implLowestPowers_c (p n m k : Int) (A : Option Addr) (c : Nat) (ts : List (List Nat)) (w : World) (hR : RdT w A ts) (hlen : ts.length ≤ 1048576) : Calls Try.prog 26 #[.agg #[.int .i64 p, .int .i64 n, .int .i64 m, .int .i64 k, .slice A ts.length c]] w (ResM w (lpN p n m k ts) (lrow ts) (lpCode p n m k ts)) := by
  cases hs : borderB p n m k ts with
  | false => exact implLowest_a p n m k A c ts w hR hlen hs
  | true => exact implLowest_v p n m k A c ts w hR hlen hs
end Go.Proofs.Ytlpdglmjejfmhaa
