/-
  spec.l01Plain.
-/
import Derived.Test.YtpoekhpchhmkaaaPln2
import Derived.Test.YtpoekhpchhmkaaaLK1
namespace Go.Proofs.Ytpoekhpchhmkaaa
open Go.RowKit
set_option maxRecDepth 100000
section
variable {P : Program} {o : Oper} {a : Act} {w : World}
end
theorem exec_buildRow {o : Oper} {a : Act} {w : World} (x : Operand) (ho : o.op = .buildSlice 44 1 #[(0, x)]) (A1 : Option Addr) (n1 c1 : Nat) (hx : a.eval x = .slice A1 n1 c1) :
    (execOp a.eval o).run Try.prog w = .ok (.value (.slice (some ⟨w.heap.size, 0, none⟩) 1 1)) (w.alloc (.cells #[.slice A1 n1 c1] 66 (0, 0))) := by
  obtain ⟨i, hi0, hz, h1, h2⟩ := info_parts infoIS
  have h := run_buildSlice (P := Try.prog) w 44 66 1 #[(0, .slice A1 n1 c1)] #[.slice A1 n1 c1] i (.slice none 0 0) Try.underlying44 hi0 hz (by rw [h1]; omega) (by rw [h1]; omega) (by rw [h1]; kernel_rfl)
  unfold execOp
  simp [ho, hx, h]
theorem wpList_buildRow {ops : Array Oper} {rest : List Oper} {o : Oper} {a : Act} {w : World} {Q : Exit → Act → World → Prop} (hg : o.guard = none) (x : Operand) (ho : o.op = .buildSlice 44 1 #[(0, x)]) (A1 : Option Addr) (n1 c1 : Nat) (hx : a.eval x = .slice A1 n1 c1)
    (h : ∀ w', New w w' (.cells #[.slice A1 n1 c1] 66 (0, 0)) → wpList Try.prog ops Q rest (a.put o.dst (.slice (some ⟨w.heap.size, 0, none⟩) 1 1)) w') : wpList Try.prog ops Q (o :: rest) a w :=
  wpList_of_exec hg (exec_buildRow x ho A1 n1 c1 hx) (h _ (New.alloc _ _))
def rowVals (gs : Nat → Nat) (row : Nat → List Int) (k : Nat) : List Value := (List.range k).map fun i => .slice (some ⟨gs i, 0, none⟩) (row i).length (row i).length
structure OutR (w : World) (lo hi : Nat) (v : Value) (gs : Nat → Nat) (k : Nat) (row : Nat → List Int) : Prop where
  own : w.ownsRow lo 66 1 v k (rowVals gs row k)
  row : ∀ i, i < k → At w (gs i) (.cells (iar (row i)) 2 (0, 0)) ∧ lo ≤ gs i ∧ gs i < hi
  inj : ∀ i j, i < j → j < k → gs i ≠ gs j
section
variable {w w' : World} {lo hi hi' b k L : Nat} {gs : Nat → Nat} {row : Nat → List Int} {v v' : Value}
theorem OutR.below (h : OutR w lo hi v gs k row) (hb : Below w.heap.size w w') : OutR w' lo hi v gs k row :=
  ⟨World.ownsRow.kept (row := none) h.own ⟨hb.os, hb.tape, hb.output, hb.size, fun k hk _ => hb.block k hk⟩ (by
    rcases hv : v.ownBlock with _ | g
    · exact .inl rfl
    · exact .inr (by simp)), fun i hi => ⟨(h.row i hi).1.after hb, (h.row i hi).2⟩, h.inj⟩
theorem OutR.to (h : OutR w lo hi v gs k row) (hh : hi ≤ w.heap.size) : OwnM w lo w.heap.size v k row := by
  rcases h.own.2 with h0 | ⟨g, cap, cur, rfl, hb, hg, hle, _, hsz, ht⟩
  · exact .inl h0
  · refine .inr ⟨g, cap, cur, gs, rfl, hg, ⟨hb, At.lt hg⟩, fun i hi => ?_, fun i hi => ⟨(h.row i hi).1, (h.row i hi).2.1, Nat.lt_of_lt_of_le (h.row i hi).2.2 hh⟩, h.inj⟩
    have h1 : (cur.toList.take (k * 1))[i]? = (rowVals gs row k)[i]? := by rw [ht]
    rw [List.getElem?_take, if_pos (by omega)] at h1
    rw [← Array.getElem?_toList, h1]
    simp [rowVals, hi]
theorem OutR.off (h : OutR w lo hi v gs k row) {g : Nat} {cs : Array Value} (hg : At w g (.cells cs 2 (0, 0))) : some g ≠ v.ownBlock := fun e => by
  rcases h.own.2 with ⟨rfl, _⟩ | ⟨g', cap, cur, rfl, hb, hgg, _⟩
  · cases e
  · simp only [Value.ownBlock, Option.some.injEq] at e
    subst e
    have h1 : some (Obj.cells cs 2 (0, 0)) = some (Obj.cells cur 66 (0, 0)) := hg.symm.trans hgg
    simp only [Option.some.injEq, Obj.cells.injEq] at h1
    exact absurd h1.2.1 (by decide)
theorem OutR.append (h : OutR w lo hi v gs k row) (hlo : lo ≤ b) (hb : hi ≤ b) (hA : At w b (.cells (iar (row k)) 2 (0, 0))) (hL : (row k).length = L) (gr : w.grownBy w' v.ownBlock)
    (ow : w'.ownsRow lo 66 1 v' (k + 1) (rowVals gs row k ++ [.slice (some ⟨b, 0, none⟩) L L])) : OutR w' lo w'.heap.size v' (fun x => if x = k then b else gs x) (k + 1) row := by
  have hA' := hA.grown gr (h.off hA)
  refine ⟨?_, fun i hi => ?_, fun i j hij hj => ?_⟩
  · have e : rowVals (fun x => if x = k then b else gs x) row (k + 1) = rowVals gs row k ++ [.slice (some ⟨b, 0, none⟩) L L] := by
      simp only [rowVals, List.range_succ, List.map_append, List.map_cons, List.map_nil, if_true, hL]
      congr 1
      apply List.map_congr_left
      intro x hx
      have := List.mem_range.1 hx
      simp only [if_neg (show ¬ x = k by omega)]
    rw [e]
    exact ow
  · by_cases e : i = k
    · subst e
      simp only [if_true]
      exact ⟨hA', hlo, hA'.lt⟩
    · have hr := h.row i (by omega)
      simp only [if_neg e]
      have := hr.1.grown gr (h.off hr.1)
      exact ⟨this, hr.2.1, this.lt⟩
  · have e : i ≠ k := by omega
    simp only [if_neg e]
    split
    · have := (h.row i (by omega)).2.2
      omega
    · exact h.inj i j hij (by omega)
end
theorem OutR.start {w w' : World} {row : Nat → List Int} {gs : Nat → Nat} (h : New w w' (.cells #[] 66 (0, 0))) : OutR w' w.heap.size w'.heap.size (.slice (some ⟨w.heap.size, 0, none⟩) 0 0) gs 0 row :=
  ⟨⟨rfl, .inr ⟨w.heap.size, 0, #[], rfl, Nat.le_refl _, h.at_, by simp, by simp [maxLen], by simp, rfl⟩⟩, by omega, by omega⟩
theorem cells_of_newR {w w' : World} {v : Value} {t : TypeId} (h : New w w' (.cells #[v] t (0, 0))) : ∀ j u, [v][j]? = some u → w'.cell? ((⟨w.heap.size, 0, none⟩ : Addr).add j) = some u := by
  intro j u hu
  rw [add_none, Nat.zero_add, h.at_.at_, ← Array.getElem?_toList]
  exact hu
theorem rem_in {p s x y : Int} (hp : 0 < p) (hp5 : p ≤ 5) (hs : 0 ≤ s ∧ s < p) (hx : 0 ≤ x ∧ x < p) (hy : 0 ≤ y ∧ y < p) : IntKind.i64.wrap (x * y) = x * y ∧ IntKind.i64.wrap (s + x * y) = s + x * y ∧ (s + x * y).tmod p = (s + x * y) % p := by
  have h1 : 0 ≤ x * y := Int.mul_nonneg hx.1 hy.1
  have h2 : x * y ≤ 5 * 5 := Int.mul_le_mul (by omega) (by omega) hy.1 (by omega)
  exact ⟨IntWalk.i64_in _ (by omega), IntWalk.i64_in _ (by omega), Int.tmod_eq_emod_of_nonneg (by omega)⟩
set_option maxHeartbeats 3200000 in
theorem l01Plain_c (p : Int) (A B : Option Addr) (c1 c2 n M K : Nat) (X Y : Nat → List Int) (w : World) (hX : RdM w A n X) (hY : RdM w B M Y) (hp : primeB p = true) (hn : n ≤ 3) (hM1 : 1 ≤ M) (hM : M ≤ 3) (hK : K ≤ 3)
    (hXr : ∀ i, i < n → (X i).length = M ∧ ∀ x ∈ X i, 0 ≤ x ∧ x < p) (hYr : ∀ i, i < M → (Y i).length = K ∧ ∀ x ∈ Y i, 0 ≤ x ∧ x < p) :
    Calls Try.prog 54 #[.int .i64 p, .slice A n c1, .slice B M c2] w (NewM w n (plRow p X Y M K)) := by
  have hpp : 0 < p ∧ p ≤ 5 := by
    simp only [primeB, Bool.or_eq_true, beq_iff_eq] at hp
    omega
  have hp0 : p ≠ 0 := by omega
  clear hp
  have HXr := Lib.hid hXr
  have HYr := Lib.hid hYr
  clear hXr hYr
  go_enter Try.func54, Try.ntmps54
  go_wp2_with fail
  have HS : OutR (w.alloc (.cells #[] 66 (0, 0))) w.heap.size (w.alloc (.cells #[] 66 (0, 0))).heap.size (.slice (some ⟨w.heap.size, 0, none⟩) 0 0) (fun _ => 0) 0 (plRow p X Y M K) := OutR.start (New.alloc _ _)
  go_loopw [7, 8] (fun ov iv wr => ∃ (a : Nat) (gs : Nat → Nat), a ≤ n ∧ iv = .int .i64 a ∧ Below w.heap.size w wr ∧ OutR wr w.heap.size wr.heap.size ov gs a (plRow p X Y M K)) (fun _ iv _ => n - (intOf iv).toNat)
  case atStart => exact ⟨0, _, by omega, rfl, below1 _ _, HS⟩
  case round =>
    clear HS
    obtain ⟨a, gs, ha, rfl, hB, hO⟩ := hrel
    obtain ⟨wa, rfl⟩ : ∃ wa : World, wa = wr := ⟨_, rfl⟩
    by_cases hlt : a < n
    · have e0 : IntKind.i64.wrap ((a : Int) + 1) = (a : Int) + 1 := IntWalk.i64_in _ (by omega)
      have hk' : (a : Int) < (n : Int) := by omega
      have hsz := hB.size
      obtain ⟨b2, off2, B0, cB0, rfl, hc0, _⟩ := (hY.keep hB).at_ (i := 0) (by omega)
      rw [(HYr.out 0 (by omega)).1] at hc0
      have hc0' : wa.cell? ⟨b2, off2, none⟩ = some (.slice B0 K cB0) := hc0
      have hpos : (0 : Int) < (M : Int) := by omega
      go_wp2_with (refine wpList_make_one rfl _ _ 66 rfl 2 (.int .i64 0) 8 Try.underlying66 infoI64 rfl K rfl rfl (by omega) (by omega) ?_; intro w2 n2)
      have hA2 := n2.at_
      rw [iar_zero, mapRow_zero] at hA2
      have hB2 := n2.below (Below.refl wa.heap.size wa) (Nat.le_refl _)
      go_loopw [10] (fun iv wj => ∃ j : Nat, j ≤ M ∧ iv = .int .i64 j ∧ Below wa.heap.size wa wj ∧ At wj wa.heap.size (.cells (iar (mapRow K fun x => plAt p X Y a x j)) 2 (0, 0))) (fun iv _ => M - (intOf iv).toNat)
      case atStart => exact ⟨0, by omega, rfl, hB2, hA2⟩
      case round =>
        clear n2 hA2 hB2
        obtain ⟨j, hj, rfl, hBj, hAj⟩ := hrel
        by_cases hlt2 : j < M
        · have f0 : IntKind.i64.wrap ((j : Int) + 1) = (j : Int) + 1 := IntWalk.i64_in _ (by omega)
          have hj' : (j : Int) < (M : Int) := by omega
          go_wp2_with fail
          go_loopw [11] (fun iv wl => ∃ l : Nat, l ≤ K ∧ iv = .int .i64 l ∧ Below wa.heap.size wa wl ∧ At wl wa.heap.size (.cells (iar (mapRow K fun x => if x < l then plAt p X Y a x (j + 1) else plAt p X Y a x j)) 2 (0, 0))) (fun iv _ => K - (intOf iv).toNat)
          case atStart => exact ⟨0, by omega, rfl, hBj, hAj⟩
          case round =>
            clear hBj hAj
            obtain ⟨l, hl, rfl, hBl, hAl⟩ := hrel
            by_cases hlt3 : l < K
            · have g0 : IntKind.i64.wrap ((l : Int) + 1) = (l : Int) + 1 := IntWalk.i64_in _ (by omega)
              have hl' : (l : Int) < (K : Int) := by omega
              have hBw := below_after hB hBl
              obtain ⟨b1, off1, BX, cx, rfl, hcx, hIx⟩ := (hX.keep hBw).at_ hlt
              obtain ⟨b2', off2', BY, cy, hbe, hcy, hIy⟩ := (hY.keep hBw).at_ hlt2
              simp only [Option.some.injEq, Addr.mk.injEq] at hbe
              obtain ⟨rfl, rfl, _⟩ := hbe
              obtain ⟨b3, off3, rfl, hx⟩ := hIx.at_ (i := j) (by rw [(HXr.out a hlt).1]; exact hlt2)
              obtain ⟨b4, off4, rfl, hy⟩ := hIy.at_ (i := l) (by rw [(HYr.out j hlt2).1]; exact hlt3)
              have hjx : j < (X a).length := by rw [(HXr.out a hlt).1]; exact hlt2
              have hly : l < (Y j).length := by rw [(HYr.out j hlt2).1]; exact hlt3
              have bx := (HXr.out a hlt).2 _ (List.getElem_mem hjx)
              have bY := (HYr.out j hlt2).2 _ (List.getElem_mem hly)
              have bs : 0 ≤ plAt p X Y a l j ∧ plAt p X Y a l j < p := dot_in _ hpp.1 j
              have hcs : wr.cell? ⟨wa.heap.size, l, none⟩ = some (.int .i64 (plAt p X Y a l j)) := by
                rw [hAl.at_ l, mapRow_get _ hlt3, if_neg (Nat.lt_irrefl l)]
              have Hst : Hid (plAt p X Y a l (j + 1) = (plAt p X Y a l j + (X a)[j] * (Y j)[l]) % p) := Lib.hid (by
                rw [plAt_step, List.getElem?_eq_getElem hjx, List.getElem?_eq_getElem hly]
                rfl)
              obtain ⟨w1, w2', w3⟩ := rem_in hpp.1 hpp.2 bs bx bY
              generalize (X a)[j] = x at *
              generalize (Y j)[l] = y at *
              have Hs : Hid (plAt p X Y a l j = plAt p X Y a l j) := Lib.hid rfl
              generalize hs : plAt p X Y a l j = s at hcs w1 w2' w3 bs Hst
              have w2 := w2'
              generalize (X a).length = lx at *
              generalize (Y j).length = ly at *
              go_wp2_with fail
              refine wp_region_still_tail (P := Try.prog) 25 (by kernel_rfl) (by kernel_rfl) ?_
              simp only [List.take_succ_cons, List.take_zero, List.drop_succ_cons, List.drop_zero]
              refine wpStill_of_exec rfl (exec_move _ rfl (.slice (some ⟨wa.heap.size, 0, none⟩) K K) rfl) ?_
              go_frame
              refine wpStill_of_exec rfl (exec_move _ rfl (.int .i64 l) rfl) ?_
              go_frame
              refine wpStill_of_exec rfl (exec_move _ rfl (.slice (some ⟨wa.heap.size, 0, none⟩) K K) rfl) ?_
              go_frame
              refine wpStill_of_exec rfl (exec_move _ rfl (.int .i64 l) rfl) ?_
              go_frame
              refine wpStill_of_exec rfl (exec_index0 _ 2 _ _ rfl wa.heap.size K K l rfl rfl Try.underlying66 (by kernel_rfl) hlt3) ?_
              go_frame
              refine wpStill_of_exec rfl (exec_load_one 2 _ rfl wa.heap.size l rfl (.int .i64 s) _ Try.underlying2 rfl hcs) ?_
              go_frame
              refine wpStill_of_exec rfl (exec_move _ rfl (.slice (some ⟨b1, off1, none⟩) n c1) rfl) ?_
              go_frame
              refine wpStill_of_exec rfl (exec_move _ rfl (.int .i64 a) rfl) ?_
              go_frame
              refine wpStill_of_exec rfl (exec_index1 _ 66 _ _ rfl b1 off1 n c1 a rfl rfl Try.underlying44 (by kernel_rfl) hlt) ?_
              go_frame
              refine wpStill_of_exec rfl (exec_load_one 66 _ rfl b1 (off1 + a) rfl (.slice (some ⟨b3, off3, none⟩) lx cx) _ Try.underlying66 rfl hcx) ?_
              go_frame
              refine wpStill_of_exec rfl (exec_move _ rfl (.int .i64 j) rfl) ?_
              go_frame
              refine wpStill_of_exec rfl (exec_index1 _ 2 _ _ rfl b3 off3 lx cx j rfl rfl Try.underlying66 (by kernel_rfl) hjx) ?_
              go_frame
              refine wpStill_of_exec rfl (exec_load_one 2 _ rfl b3 (off3 + j) rfl (.int .i64 x) _ Try.underlying2 rfl hx) ?_
              go_frame
              refine wpStill_of_exec rfl (exec_move _ rfl (.slice (some ⟨b2, off2, none⟩) M c2) rfl) ?_
              go_frame
              refine wpStill_of_exec rfl (exec_move _ rfl (.int .i64 j) rfl) ?_
              go_frame
              refine wpStill_of_exec rfl (exec_index1 _ 66 _ _ rfl b2 off2 M c2 j rfl rfl Try.underlying44 (by kernel_rfl) hlt2) ?_
              go_frame
              refine wpStill_of_exec rfl (exec_load_one 66 _ rfl b2 (off2 + j) rfl (.slice (some ⟨b4, off4, none⟩) ly cy) _ Try.underlying66 rfl hcy) ?_
              go_frame
              refine wpStill_of_exec rfl (exec_move _ rfl (.int .i64 l) rfl) ?_
              go_frame
              refine wpStill_of_exec rfl (exec_index1 _ 2 _ _ rfl b4 off4 ly cy l rfl rfl Try.underlying66 (by kernel_rfl) hly) ?_
              go_frame
              refine wpStill_of_exec rfl (exec_load_one 2 _ rfl b4 (off4 + l) rfl (.int .i64 y) _ Try.underlying2 rfl hy) ?_
              go_frame
              refine wpStill_of_exec rfl (exec_mul _ _ _ _ rfl x y (x * y) rfl rfl w1) ?_
              go_frame
              refine wpStill_of_exec rfl (exec_add _ _ _ _ rfl s (x * y) (s + x * y) rfl rfl w2) ?_
              go_frame
              refine wpStill_of_exec rfl (exec_move _ rfl (.int .i64 p) rfl) ?_
              go_frame
              refine wpStill_of_exec rfl (exec_rem _ _ _ _ rfl (s + x * y) p ((s + x * y) % p) rfl rfl hp0 w3) ?_
              go_frame
              refine wpStill_of_exec rfl (exec_index0 _ 2 _ _ rfl wa.heap.size K K l rfl rfl Try.underlying66 (by kernel_rfl) hlt3) ?_
              go_frame
              refine wpStill_nil ?_
              go_wp2_with (refine wpList_store_one rfl 2 _ _ rfl rfl wa.heap.size l rfl (.int .i64 ((s + x * y) % p)) rfl rfl rfl _ _ (At.drewN hAl 1) (by kernel_rfl) (by rw [iar_size, mapRow_len]; exact hlt3) ?_; intro w5 p5)
              have hA5 := p5.at_
              rw [iar_set, mapRow_set] at hA5
              have hmr : (mapRow K fun z => if z = l then (s + x * y) % p else if z < l then plAt p X Y a z (j + 1) else plAt p X Y a z j) = mapRow K fun z => if z < l + 1 then plAt p X Y a z (j + 1) else plAt p X Y a z j := mapRow_congr fun z _ => by
                by_cases e : z = l
                · subst e
                  rw [if_pos rfl, if_pos (by omega), Hst.out]
                · by_cases e2 : z < l
                  · rw [if_neg e, if_pos e2, if_pos (by omega)]
                  · rw [if_neg e, if_neg e2, if_neg (by omega)]
              rw [hmr] at hA5
              have hB5 := p5.below hBl.drew (Nat.le_refl _)
              go_roundw
              case rel => exact ⟨l + 1, by omega, by go_num, hB5, hA5⟩
              case measure => simp [intOf]; omega
            · obtain rfl : l = K := by omega
              have hmr : (mapRow l fun z => if z < l then plAt p X Y a z (j + 1) else plAt p X Y a z j) = mapRow l fun z => plAt p X Y a z (j + 1) := mapRow_congr fun z hz => by rw [if_pos hz]
              rw [hmr] at hAl
              go_wp2_with fail
              go_roundw
              case rel => exact ⟨j + 1, by omega, by go_num, hBl, hAl⟩
              case measure => simp [intOf]; omega
        · obtain rfl : j = M := by omega
          have hO2 := hO.below hBj
          have hbz := below_after hB hBj
          have hszj := hBj.size
          obtain ⟨i0, hi0, hz0, hz1, hz2⟩ := info_parts infoIS
          go_wp2_with (first | (refine wpList_buildRow rfl _ rfl _ _ _ rfl ?_; intro W7 n7; have hO7 := hO2.below (n7.below (Below.refl _ _) (Nat.le_refl _)); have hA7 := n7.old hAj; have hB7 := n7.below hbz (by omega)) | (at_builtin; refine wpList_append_own _ rfl _ _ 44 rfl w.heap.size 66 i0 (.slice none 0 0) 1 24 Try.underlying44 hi0 hz0 hz1 hz2 rfl (by decide) _ _ _ rfl hO7.own ⟨_, 0, none⟩ 1 1 [_] rfl rfl (cells_of_newR n7) (by simp [Value.oneCell']) (by unfold maxLen; omega) (by omega) (by exact hB7.size) ?_; intro v1 W8 own8 gr8 nil8))
          have hO8 := hO7.append hsz (Nat.le_refl _) hA7 (mapRow_len _ _) gr8 own8
          have hB8 : Below w.heap.size w W8 := hB7.grown gr8 hB7.size (fun k hk => by
            rcases hO7.own.2 with ⟨e, _⟩ | ⟨g', cap, cur, e, hb, _⟩
            · rw [e] at hk; cases hk
            · rw [e] at hk; have hk2 : some g' = some _ := hk; simp only [Option.some.injEq] at hk2; omega)
          go_roundw
          case rel => exact ⟨a + 1, _, by omega, by go_num, hB8, hO8⟩
          case measure => simp [intOf]; omega
    · obtain rfl : a = n := by omega
      go_wp2_with fail
      go_ret
      exact ⟨_, rfl, hO.to (Nat.le_refl _), hB⟩
end Go.Proofs.Ytpoekhpchhmkaaa
