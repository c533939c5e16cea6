/-
  FormsOf of both sides. (Made by mkpgb.py.)
-/
import Derived.Test.YtokmchadckcilaaPg8
import Derived.Test.YtokmchadckcilaaPln3
namespace Go.Proofs.Ytokmchadckcilaa
open Go.RowKit
set_option maxRecDepth 100000
attribute [local irreducible] wpList
theorem exec_build_shp {o : Oper} {a : Act} {w : World} (x y : Operand) (ho : o.op = .build 69 #[(0, x), (1, y)]) (n m : Int) (hx : a.eval x = .int .i64 n) (hy : a.eval y = .int .i64 m) :
    (execOp a.eval o).run Try.prog w = .ok (.value (.agg #[.int .i64 n, .int .i64 m])) w := by
  have hb : Try.prog.built 69 [(0, .int .i64 n), (1, .int .i64 m)] = some #[.int .i64 n, .int .i64 m] := by kernel_rfl
  have h := run_build (P := Try.prog) w 69 _ _ hb
  unfold execOp
  simp [ho, hx, hy, h]
theorem exec_bs0R {o : Oper} {a : Act} {w : World} (ho : o.op = .buildSlice 40 0 #[]) : (execOp a.eval o).run Try.prog w = .ok (.value (.slice (some ⟨w.heap.size, 0, none⟩) 0 0)) (w.alloc (.cells #[] 46 (0, 0))) := by
  unfold execOp
  rw [ho]
  kernel_rfl
def uniL (N k : Nat) : List Int := (List.replicate N 0).set k 1
theorem uniL_len (N k : Nat) : (uniL N k).length = N := by simp [uniL]
theorem uniL_nums {p : Int} {N k : Nat} (hp : 2 ≤ p) : NumsP p (uniL N k) := fun t => by
  unfold getI uniL
  rw [List.getElem?_set]
  split
  · split
    · simp; omega
    · simp; omega
  · rw [List.getElem?_replicate]
    split
    · simp; omega
    · simp; omega
/-- A row of the forms, when k columns are done, and the first j rows of the next one. -/
def fmRow (p : Int) (ss os : List (List Int)) (N k j : Nat) (i : Nat) : List Int := (List.range N).map fun c => if c < k ∨ (c = k ∧ i < j) then getI (runL p ss os (uniL N c)) i else 0
def fmR (p : Int) (ss os : List (List Int)) (N : Nat) (i : Nat) : List Int := (List.range N).map fun c => getI (runL p ss os (uniL N c)) i
section
variable {p : Int} {ss os : List (List Int)} {N k j i x : Nat}
theorem fmRow_len (p : Int) (ss os : List (List Int)) (N k j i : Nat) : (fmRow p ss os N k j i).length = N := by simp [fmRow]
theorem fmR_len (p : Int) (ss os : List (List Int)) (N i : Nat) : (fmR p ss os N i).length = N := by simp [fmR]
theorem fmRow_ne (h : x ≠ j) : fmRow p ss os N k (j + 1) x = fmRow p ss os N k j x := by
  unfold fmRow
  apply List.map_congr_left
  intro c _
  have e : (c < k ∨ (c = k ∧ x < j + 1)) ↔ (c < k ∨ (c = k ∧ x < j)) := by omega
  simp only [e]
theorem fmRow_set (_hk : k < N) : (fmRow p ss os N k j j).set k (getI (runL p ss os (uniL N k)) j) = fmRow p ss os N k (j + 1) j := by
  apply List.ext_getElem
  · simp [fmRow]
  · intro t h1 h2
    rw [List.getElem_set]
    have ht : t < N := by simpa [fmRow] using h2
    simp only [fmRow, List.getElem_map, List.getElem_range]
    by_cases e : k = t
    · subst e
      rw [if_pos rfl, if_pos (by omega)]
    · rw [if_neg e]
      by_cases h : t < k
      · rw [if_pos (by omega), if_pos (by omega)]
      · rw [if_neg (by omega), if_neg (by omega)]
theorem fmRow_next {J : Nat} (hi : i < J) : fmRow p ss os N k J i = fmRow p ss os N (k + 1) 0 i := by
  unfold fmRow
  apply List.map_congr_left
  intro c _
  have e : (c < k ∨ (c = k ∧ i < J)) ↔ (c < k + 1 ∨ (c = k + 1 ∧ i < 0)) := by omega
  simp only [e]
theorem fmRow_all (i : Nat) : fmRow p ss os N N 0 i = fmR p ss os N i := by
  unfold fmRow fmR
  apply List.map_congr_left
  intro c hc
  have := List.mem_range.1 hc
  rw [if_pos (by omega)]
theorem fmRow_start (p : Int) (ss os : List (List Int)) (N i : Nat) : fmRow p ss os N 0 0 i = List.replicate N 0 := by
  apply List.ext_getElem
  · simp [fmRow]
  · intro t h1 h2
    simp [fmRow]
end
theorem OwnM.form {w : World} {lo hi n : Nat} {v : Value} {row : Nat → List Int} (h : OwnM w lo hi v n row) (hn : 0 < n) : ∃ g c cs gs, v = .slice (some ⟨g, 0, none⟩) n c ∧ MatB w lo hi g cs gs n row := by
  rcases h with ⟨_, h0⟩ | h
  · omega
  · exact h
theorem MatB.drewM {w : World} {lo hi g n : Nat} {cs : Array Value} {gs : Nat → Nat} {row : Nat → List Int} (h : MatB w lo hi g cs gs n row) : MatB w.drew lo hi g cs gs n row := h.below (Below.refl _ _).drew
theorem MatB.cellN {w : World} {lo hi g n L : Nat} {cs : Array Value} {gs : Nat → Nat} {row : Nat → List Int} (h : MatB w lo hi g cs gs n row) {i : Nat} (hi : i < n) (hl : (row i).length = L) : w.cell? ⟨g, i, none⟩ = some (.slice (some ⟨gs i, 0, none⟩) L L) := by
  rw [h.out.at_, h.cell i hi, hl]
theorem OwnI.formN {w : World} {lo n : Nat} {v : Value} {xs : List Int} (h : OwnI w lo v xs) (he : xs.length = n) (hn : 0 < n) : ∃ g c, v = .slice (some ⟨g, 0, none⟩) n c ∧ lo ≤ g ∧ g < w.heap.size := by
  subst he
  exact h.form hn
theorem outR_lt {w : World} {lo hi k g : Nat} {v : Value} {gs : Nat → Nat} {row : Nat → List Int} (h : OutR w lo hi v gs k row) (hg : v.ownBlock = some g) : lo ≤ g ∧ g < w.heap.size := World.ownsRow.lt h.own g hg
theorem wp_appR {o : Oper} {a : Act} {w : World} {K : Act → World → Prop} {Q : Exit → Act → World → Prop} (d : Option Tmp) (hd : o.dst = d) (s x : Operand) (ho : o.op = .call { callee := .builtin .append, args := #[s, x], argTypes := #[40, 40] })
    (lo : Nat) (v : Value) (k : Nat) (gs : Nat → Nat) (row : Nat → List Int) (hi : Nat) (hs : a.eval s = v) (h0 : OutR w lo hi v gs k row) (u : Value) (h1 : u.oneCell' = true) (g : Nat) (hx : a.eval x = .slice (some ⟨g, 0, none⟩) 1 1)
    (hc : ∀ j y, [u][j]? = some y → w.cell? ((⟨g, 0, none⟩ : Addr).add j) = some y) (hle : k ≤ 1000000) (hlo : lo ≤ w.heap.size)
    (h : ∀ v' w', w'.ownsRow lo 46 1 v' (k + 1) (rowVals gs row k ++ [u]) → w.grownBy w' v.ownBlock → K (a.put d v') w') : Oper.wp Try.prog o a w K Q := by
  obtain ⟨i0, hi0, hz0, hz1, hz2⟩ := info_parts infoIS
  refine wp_append' d hd s x 40 ho lo 46 i0 (.slice none 0 0) 1 24 Try.underlying40 hi0 hz0 hz1 hz2 rfl (by decide) v _ _ hs h0.own ⟨g, 0, none⟩ 1 1 [u] hx rfl hc (by simpa using h1) (by unfold maxLen; omega) (by omega) hlo (fun v1 w8 own8 gr8 _ => h v1 w8 own8 gr8)
def fmCode (p n : Int) (ss os : List (List Int)) : Int := if progB p n ss os = true then 0 else 1
def fmN (p n : Int) (ss os : List (List Int)) : Nat := if progB p n ss os = true then os.length else 0
theorem fm_small (p n : Int) (ss os : List (List Int)) : fmN p n ss os + tot (fmR p ss os n.toNat) (fmN p n ss os) ≤ 1048576 := by
  unfold fmN
  split
  · rename_i hp
    have h1 := (progB_parts hp).2.2.2.1
    have h2 := (progB_parts hp).2.1
    have h3 := tot_le (row := fmR p ss os n.toNat) (n := os.length) (K := 30) (fun i _ => by rw [fmR_len]; omega)
    omega
  · simp [tot]
set_option maxHeartbeats 4000000 in
theorem implForms_a (p n : Int) (As Ao : Option Addr) (cs co : Nat) (ss os : List (List Int)) (w : World) (hs : RdK 3 w As ss) (ho : RdK 2 w Ao os) (hns : ss.length ≤ 1048576) (hno : os.length ≤ 1048576) (hpr : progB p n ss os = false) :
    Calls Try.prog 18 #[.agg #[.int .i64 p, .int .i64 n, .slice As ss.length cs, .slice Ao os.length co]] w (ResM w (fmN p n ss os) (fmR p ss os n.toNat) (fmCode p n ss os)) := by
  have hB := Below.refl w.heap.size w
  have Hc : Hid (fmCode p n ss os = 1) := Lib.hid (by unfold fmCode; rw [hpr]; rfl)
  have Hr : Hid (fmN p n ss os = 0) := Lib.hid (by unfold fmN; rw [hpr]; rfl)
  have HP := Lib.hid hpr
  clear hpr
  go_enter Try.func18, Try.ntmps18
  go_upto_region 0 with (fail)
  refine wp_region_lit ?_
  refine ls_op rfl (fun K' hK' => ?_)
  have lz1 := hB.size
  refine wp_new (some 1) rfl (exec_box 36 _ rfl (#[.int .i64 p, .int .i64 n, .slice As ss.length cs, .slice Ao os.length co]) rfl) (fun Wz2 nnz3 => ?_)
  have bz4 := nnz3.below (Below.refl _ _) (Nat.le_refl _)
  replace hB := below_after hB bz4
  have hz5 : At Wz2 w.heap.size (.cells #[.int .i64 p, .int .i64 n, .slice As ss.length cs, .slice Ao os.length co] 36 (0, 0)) := nnz3.at_
  refine hK' _ _ ?_
  clear hK' K' nnz3 bz4
  go_frame
  refine ls_ex (some 2) (.slice none 0 0) rfl rfl (exec_assign _ rfl (.slice none 0 0) rfl) ?_
  go_frame
  refine ls_ex (some 3) (.int .i64 0) rfl rfl (exec_assign _ rfl (.int .i64 0) rfl) ?_
  go_frame
  refine wpList_nil ?_
  go_upto_region 1 with (fail)
  refine wp_region_lit ?_
  refine ls_ex (some 9) (.agg #[.int .i64 p, .int .i64 n, .slice As ss.length cs, .slice Ao os.length co]) rfl rfl (exec_load_all 36 _ rfl w.heap.size rfl _ _ _ hz5 Try.underlying36 rfl 4 (by kernel_rfl) rfl) ?_
  go_frame
  refine ls_op rfl (fun K' hK' => ?_)
  have lz8 := hB.size
  have lz9 := hz5.lt
  refine wp_call1 (some 10) rfl 15 _ _ rfl (fun args w => by kernel_rfl) _ rfl _ (implIsProgram_c p n As Ao cs co ss os _ (hs.keep hB) (ho.keep hB) hns hno) (fun e Wz6 h => ?_)
  obtain ⟨rfl, bz7⟩ := h
  replace hB := below_after hB bz7
  replace hz5 := hz5.after bz7
  rw [HP.out]
  clear bz7
  refine ⟨_, rfl, ?_⟩
  refine hK' _ _ ?_
  clear hK' K'
  go_frame
  refine ls_ex (some 11) (.bool true) rfl rfl (exec_not _ _ rfl false rfl) ?_
  go_frame
  refine wpList_nil ?_
  go_upto_region 2 with (fail)
  refine wp_region_lit ?_
  refine ls_ex (some 2) (.slice none 0 0) rfl rfl (exec_assign _ rfl (.slice none 0 0) rfl) ?_
  go_frame
  refine ls_ex (some 3) (.int .i64 1) rfl rfl (exec_assign _ rfl (.int .i64 1) rfl) ?_
  go_frame
  refine wpList_nil ?_
  go_wp2_with fail
  go_ret2
  exact ⟨_, by rw [Hc.out]; rfl, by rw [Hr.out]; exact OwnM.nil _ _ _ _, hB⟩
set_option maxHeartbeats 25600000 in
theorem implForms_b (p : Int) (N : Nat) (As Ao : Option Addr) (cs co : Nat) (ss os : List (List Int)) (w : World) (hs : RdK 3 w As ss) (ho : RdK 2 w Ao os) (hns : ss.length ≤ 1048576) (hno : os.length ≤ 1048576) (hpr : progB p (N : Int) ss os = true) :
    Calls Try.prog 18 #[.agg #[.int .i64 p, .int .i64 (N : Int), .slice As ss.length cs, .slice Ao os.length co]] w (ResM w (fmN p (N : Int) ss os) (fmR p ss os N) (fmCode p (N : Int) ss os)) := by
  have hB := Below.refl w.heap.size w
  have hpp := progB_parts hpr
  have hp5 := primeB_bounds hpp.1
  have hn9 := hpp.2.1
  have hN9 : N ≤ 30 := by omega
  have hN1 : 1 ≤ N := by omega
  have hl9 := hpp.2.2.1
  have ho9 := hpp.2.2.2.1
  have Hc : Hid (fmCode p (N : Int) ss os = 0) := Lib.hid (by unfold fmCode; rw [hpr]; rfl)
  have Hr : Hid (fmN p (N : Int) ss os = os.length) := Lib.hid (by unfold fmN; rw [hpr]; rfl)
  have HU := Lib.hid (fun k => uniL_nums (N := N) (k := k) (show 2 ≤ p by omega))
  obtain ⟨M, hM⟩ : ∃ M, N + ss.length = M := ⟨_, rfl⟩
  have HM := Lib.hid hM
  have HP := Lib.hid hpr
  clear hM hpr hpp
  go_enter Try.func18, Try.ntmps18
  go_upto_region 0 with (fail)
  refine wp_region_lit ?_
  refine ls_op rfl (fun K' hK' => ?_)
  have lz1 := hB.size
  refine wp_new (some 1) rfl (exec_box 36 _ rfl (#[.int .i64 p, .int .i64 (N : Int), .slice As ss.length cs, .slice Ao os.length co]) rfl) (fun Wz2 nnz3 => ?_)
  have bz4 := nnz3.below (Below.refl _ _) (Nat.le_refl _)
  replace hB := below_after hB bz4
  have hz5 : At Wz2 w.heap.size (.cells #[.int .i64 p, .int .i64 (N : Int), .slice As ss.length cs, .slice Ao os.length co] 36 (0, 0)) := nnz3.at_
  refine hK' _ _ ?_
  clear hK' K' nnz3 bz4
  go_frame
  refine ls_ex (some 2) (.slice none 0 0) rfl rfl (exec_assign _ rfl (.slice none 0 0) rfl) ?_
  go_frame
  refine ls_ex (some 3) (.int .i64 0) rfl rfl (exec_assign _ rfl (.int .i64 0) rfl) ?_
  go_frame
  refine wpList_nil ?_
  go_upto_region 1 with (fail)
  refine wp_region_lit ?_
  refine ls_ex (some 9) (.agg #[.int .i64 p, .int .i64 (N : Int), .slice As ss.length cs, .slice Ao os.length co]) rfl rfl (exec_load_all 36 _ rfl w.heap.size rfl _ _ _ hz5 Try.underlying36 rfl 4 (by kernel_rfl) rfl) ?_
  go_frame
  refine ls_op rfl (fun K' hK' => ?_)
  have lz8 := hB.size
  have lz9 := hz5.lt
  refine wp_call1 (some 10) rfl 15 _ _ rfl (fun args w => by kernel_rfl) _ rfl _ (implIsProgram_c p (N : Int) As Ao cs co ss os _ (hs.keep hB) (ho.keep hB) hns hno) (fun e Wz6 h => ?_)
  obtain ⟨rfl, bz7⟩ := h
  replace hB := below_after hB bz7
  replace hz5 := hz5.after bz7
  rw [HP.out]
  clear bz7
  refine ⟨_, rfl, ?_⟩
  refine hK' _ _ ?_
  clear hK' K'
  go_frame
  refine ls_ex (some 11) (.bool false) rfl rfl (exec_not _ _ rfl true rfl) ?_
  go_frame
  refine wpList_nil ?_
  go_upto_region 3 with (fail)
  refine wp_region_lit ?_
  refine ls_ex (some 12) (.pointer (some ⟨w.heap.size, 3, none⟩)) rfl rfl (exec_fieldAddr 36 _ 3 rfl _ (by kernel_rfl)) ?_
  go_frame
  refine ls_ex (some 13) (.slice Ao os.length co) rfl rfl (exec_load_one 34 _ rfl w.heap.size 3 rfl (.slice Ao os.length co) _ Try.underlying34 rfl (hz5.at_ 3)) ?_
  go_frame
  refine ls_ex (some 14) (.int .i64 os.length) rfl rfl (exec_len _ 34 61 rfl Ao os.length co rfl Try.underlying34) ?_
  go_frame
  refine ls_ex (some 15) (.pointer (some ⟨w.heap.size, 1, none⟩)) rfl rfl (exec_fieldAddr 36 _ 1 rfl _ (by kernel_rfl)) ?_
  go_frame
  refine ls_ex (some 16) (.int .i64 (N : Int)) rfl rfl (exec_load_one 2 _ rfl w.heap.size 1 rfl (.int .i64 (N : Int)) _ Try.underlying2 rfl (hz5.at_ 1)) ?_
  go_frame
  refine ls_ex (some 17) (.agg #[.int .i64 os.length, .int .i64 (N : Int)]) rfl rfl (exec_build_shp _ _ rfl (os.length : Int) (N : Int) rfl rfl) ?_
  go_frame
  refine ls_op rfl (fun K' hK' => ?_)
  have lz12 := hB.size
  have lz13 := hz5.lt
  refine wp_call1 (some 18) rfl 46 _ _ rfl (fun args w => by kernel_rfl) _ rfl _ (zeroMatrix_c os.length N _ (by omega) (by omega)) (fun e Wz10 h => ?_)
  obtain ⟨v4, rfl, hm4, bz11⟩ := h
  replace hB := below_after hB bz11
  replace hz5 := hz5.after bz11
  obtain ⟨g4, c4, cs4, gs, rfl, hM⟩ := OwnM.form hm4 (by omega)
  have hM9 : MatB Wz10 Wz6.heap.size Wz10.heap.size g4 cs4 gs os.length (fmRow p ss os N 0 0) := hM.congr (fun i hi => fmRow_start _ _ _ _ _)
  clear hM
  have hM := hM9
  clear hM9
  clear bz11
  refine ⟨_, rfl, ?_⟩
  refine hK' _ _ ?_
  clear hK' K'
  go_frame
  refine ls_ex (some 4) (.slice (some ⟨g4, 0, none⟩) os.length c4) rfl rfl (exec_assign _ rfl (.slice (some ⟨g4, 0, none⟩) os.length c4) rfl) ?_
  go_frame
  refine wpList_nil ?_
  go_upto_region 4 with (fail)
  refine wp_region_lit ?_
  refine ls_ex (some 19) (.pointer (some ⟨w.heap.size, 1, none⟩)) rfl rfl (exec_fieldAddr 36 _ 1 rfl _ (by kernel_rfl)) ?_
  go_frame
  refine ls_ex (some 20) (.int .i64 (N : Int)) rfl rfl (exec_load_one 2 _ rfl w.heap.size 1 rfl (.int .i64 (N : Int)) _ Try.underlying2 rfl (hz5.at_ 1)) ?_
  go_frame
  refine ls_ex (some 21) (.int .i64 0) rfl rfl (exec_move _ rfl (.int .i64 0) rfl) ?_
  go_frame
  refine wpList_nil ?_
  go_wp2_with fail
  have hsz8 := hM.out.lt
  go_loopw [21] (fun s21 wr => ∃ k : Nat, k ≤ N ∧ s21 = .int .i64 k ∧ Below w.heap.size w wr ∧ At wr w.heap.size (.cells #[.int .i64 p, .int .i64 (N : Int), .slice As ss.length cs, .slice Ao os.length co] 36 (0, 0)) ∧ MatB wr Wz6.heap.size Wz10.heap.size g4 cs4 gs os.length (fmRow p ss os N k 0) ∧ Wz10.heap.size ≤ wr.heap.size) (fun s21 _ => N - (intOf s21).toNat)
  case atStart => exact ⟨0, by omega, rfl, hB, hz5, hM, by omega⟩
  case round =>
    clear hB hz5 hM
    obtain ⟨k, hk, rfl, hB, h0, hM, hz⟩ := hrel
    by_cases hlt : k < N
    · have hsz9 := hM.out.lt
      have hz0 := hz
      go_upto_region 5 with (fail)
      refine wp_region_lit ?_
      refine ls_ex (some 22) (.bool true) rfl rfl (exec_lss _ _ _ _ rfl k ((N : Int)) rfl rfl true (decide_eq_true (by omega))) ?_
      go_frame
      refine wpList_nil ?_
      go_upto_region 6 with (fail)
      refine wp_region_lit ?_
      refine ls_ex (some 23) (.int .i64 k) rfl rfl (exec_move _ rfl (.int .i64 k) rfl) ?_
      go_frame
      refine ls_ex (some 5) (.int .i64 k) rfl rfl (exec_assign _ rfl (.int .i64 k) rfl) ?_
      go_frame
      refine wpList_nil ?_
      go_upto_region 7 with (fail)
      refine wp_region_lit ?_
      refine ls_ex (some 24) (.pointer (some ⟨w.heap.size, 1, none⟩)) rfl rfl (exec_fieldAddr 36 _ 1 rfl _ (by kernel_rfl)) ?_
      go_frame
      refine ls_ex (some 25) (.int .i64 (N : Int)) rfl rfl (exec_load_one 2 _ rfl w.heap.size 1 rfl (.int .i64 (N : Int)) _ Try.underlying2 rfl (h0.at_ 1)) ?_
      go_frame
      refine ls_op rfl (fun K' hK' => ?_)
      have lz14 := hB.size
      have lz15 := h0.lt
      refine wp_make_I (some 26) rfl _ _ rfl N rfl rfl (by omega) (fun Wz16 nnz17 => ?_)
      have bz18 := nnz17.below (Below.refl _ _) (Nat.le_refl _)
      replace hB := below_after hB bz18
      replace h0 := h0.after bz18
      replace hM := hM.below bz18
      replace hz := size_after hz bz18
      have hA : At Wz16 wr.heap.size (.cells (iar (List.replicate N 0)) 2 (0, 0)) := nnz17.at_
      refine hK' _ _ ?_
      clear hK' K' nnz17 bz18
      go_frame
      refine ls_ex (some 6) (.slice (some ⟨wr.heap.size, 0, none⟩) N N) rfl rfl (exec_assign _ rfl (.slice (some ⟨wr.heap.size, 0, none⟩) N N) rfl) ?_
      go_frame
      refine wpList_nil ?_
      go_upto_region 8 with (fail)
      refine wp_region_lit ?_
      refine ls_ex (some 27) (.slice (some ⟨wr.heap.size, 0, none⟩) N N) rfl rfl (exec_move _ rfl (.slice (some ⟨wr.heap.size, 0, none⟩) N N) rfl) ?_
      go_frame
      refine ls_ex (some 28) (.int .i64 k) rfl rfl (exec_move _ rfl (.int .i64 k) rfl) ?_
      go_frame
      refine ls_ex (some 29) (.pointer (some ⟨wr.heap.size, k * 1, none⟩)) rfl rfl (exec_ix0 _ 2 _ _ rfl wr.heap.size N N k 1 rfl rfl Try.underlying46 (by kernel_rfl) (by omega)) ?_
      go_frame
      refine ls_op rfl (fun K' hK' => ?_)
      refine wp_store_one 2 _ _ rfl rfl wr.heap.size (k * 1) rfl (.int .i64 1) rfl rfl rfl _ _ hA (by kernel_rfl) (by rw [iar_size, List.length_replicate]; omega) (fun Wz19 pz20 => ?_)
      replace hB := pz20.below hB (by omega)
      replace h0 := pz20.other h0 (by omega)
      replace hM := hM.keepR (fun x o h1 h2 hx => pz20.other hx (by omega))
      replace hz : Wz10.heap.size ≤ Wz19.heap.size := Nat.le_trans hz (Nat.le_of_eq (pz20.size rfl).symm)
      replace hA : At Wz19 wr.heap.size (.cells (iar (uniL N k)) 2 (0, 0)) := by have h9 := pz20.at_; rwa [Nat.mul_one, iar_set] at h9
      refine hK' _ _ ?_
      clear hK' K' pz20
      refine wpList_nil ?_
      go_upto_region 9 with (fail)
      refine wp_region_lit ?_
      refine ls_ex (some 30) (.agg #[.int .i64 p, .int .i64 (N : Int), .slice As ss.length cs, .slice Ao os.length co]) rfl rfl (exec_load_all 36 _ rfl w.heap.size rfl _ _ _ h0 Try.underlying36 rfl 4 (by kernel_rfl) rfl) ?_
      go_frame
      refine ls_ex (some 31) (.slice (some ⟨wr.heap.size, 0, none⟩) N N) rfl rfl (exec_move _ rfl (.slice (some ⟨wr.heap.size, 0, none⟩) N N) rfl) ?_
      go_frame
      refine ls_op rfl (fun K' hK' => ?_)
      have lz23 := hB.size
      have lz24 := h0.lt
      have lz25 := hA.lt
      refine wp_call2 (some 32) rfl 47 _ _ _ rfl (fun args w => by kernel_rfl) _ _ rfl rfl _ ((by have h9 := outputsFor_c p N M As Ao cs co ss os Wz19 (some ⟨wr.heap.size, 0, none⟩) N (uniL N k) (hs.keep hB) (ho.keep hB) (RdI.of_iar hA) HP.out (uniL_len N k) (HU.out k) HM.out; rw [uniL_len] at h9; exact h9)) (fun e Wz21 h => ?_)
      obtain ⟨v6, rfl, ho6, bz22⟩ := h
      replace hB := below_after hB bz22
      replace h0 := h0.after bz22
      replace hM := hM.below bz22
      replace hz := size_after hz bz22
      replace hA := hA.after bz22
      obtain ⟨g6, c6, rfl, hg6, hg6b⟩ := OwnI.formN ho6 (show (runL p ss os (uniL N k)).length = os.length by unfold runL; rw [outsL_len]) (by omega)
      clear bz22
      refine ⟨_, rfl, ?_⟩
      refine hK' _ _ ?_
      clear hK' K'
      go_frame
      refine ls_ex (some 33) (.int .i64 os.length) rfl rfl (exec_len _ 46 2 rfl ((some ⟨g6, 0, none⟩)) os.length c6 rfl Try.underlying46) ?_
      go_frame
      refine ls_ex (some 34) (.int .i64 0) rfl rfl (exec_move _ rfl (.int .i64 0) rfl) ?_
      go_frame
      refine wpList_nil ?_
      go_wp2_with fail
      have hs6 := hB.size
      obtain ⟨we, rfl⟩ : ∃ x : World, x = wr := ⟨_, rfl⟩
      go_loopw [34] (fun s34 wr => ∃ j : Nat, j ≤ os.length ∧ s34 = .int .i64 j ∧ Below w.heap.size w wr ∧ At wr w.heap.size (.cells #[.int .i64 p, .int .i64 (N : Int), .slice As ss.length cs, .slice Ao os.length co] 36 (0, 0)) ∧ MatB wr Wz6.heap.size Wz10.heap.size g4 cs4 gs os.length (fmRow p ss os N k j) ∧ OwnI wr Wz19.heap.size (.slice (some ⟨g6, 0, none⟩) os.length c6) (runL p ss os (uniL N k)) ∧ Wz10.heap.size ≤ wr.heap.size) (fun s34 _ => os.length - (intOf s34).toNat)
      case atStart => exact ⟨0, by omega, rfl, hB, h0, hM, ho6, hz⟩
      case round =>
        clear hB h0 hM hz ho6
        obtain ⟨j, hj, rfl, hB, h0, hM, ho6, hz⟩ := hrel
        by_cases hlt2 : j < os.length
        · have hgj := (hM.row j hlt2).2
          go_upto_region 10 with (fail)
          refine wp_region_lit ?_
          refine ls_ex (some 35) (.bool true) rfl rfl (exec_lss _ _ _ _ rfl j os.length rfl rfl true (decide_eq_true (by omega))) ?_
          go_frame
          refine wpList_nil ?_
          go_upto_region 11 with (fail)
          refine wp_region_lit ?_
          refine ls_ex (some 36) (.int .i64 j) rfl rfl (exec_move _ rfl (.int .i64 j) rfl) ?_
          go_frame
          refine ls_ex (some 37) (.pointer (some ⟨g6, j * 1, none⟩)) rfl rfl (exec_ix0 _ 2 _ _ rfl g6 os.length c6 j 1 rfl rfl Try.underlying46 (by kernel_rfl) (by omega)) ?_
          go_frame
          refine ls_ex (some 38) (.int .i64 (getI (runL p ss os (uniL N k)) j)) rfl rfl (exec_load_one 2 _ rfl g6 (j * 1) rfl (.int .i64 (getI (runL p ss os (uniL N k)) j)) _ Try.underlying2 rfl (by rw [Nat.mul_one]; exact OwnI.cell ho6 (by unfold runL; rw [outsL_len]; exact hlt2))) ?_
          go_frame
          refine ls_ex (some 7) (.int .i64 j) rfl rfl (exec_assign _ rfl (.int .i64 j) rfl) ?_
          go_frame
          refine ls_ex (some 8) (.int .i64 (getI (runL p ss os (uniL N k)) j)) rfl rfl (exec_assign _ rfl (.int .i64 (getI (runL p ss os (uniL N k)) j)) rfl) ?_
          go_frame
          refine wpList_nil ?_
          go_upto_region 12 with (fail)
          refine wp_region_lit ?_
          refine ls_ex (some 39) (.slice (some ⟨g4, 0, none⟩) os.length c4) rfl rfl (exec_move _ rfl (.slice (some ⟨g4, 0, none⟩) os.length c4) rfl) ?_
          go_frame
          refine ls_ex (some 40) (.int .i64 j) rfl rfl (exec_move _ rfl (.int .i64 j) rfl) ?_
          go_frame
          refine ls_ex (some 41) (.pointer (some ⟨g4, j * 1, none⟩)) rfl rfl (exec_ix0 _ 46 _ _ rfl g4 os.length c4 j 1 rfl rfl Try.underlying40 (by kernel_rfl) (by omega)) ?_
          go_frame
          refine ls_ex (some 42) (.slice (some ⟨gs j, 0, none⟩) N N) rfl rfl (exec_load_one 46 _ rfl g4 (j * 1) rfl (.slice (some ⟨gs j, 0, none⟩) N N) _ Try.underlying46 rfl (by rw [Nat.mul_one]; exact hM.cellN hlt2 (fmRow_len _ _ _ _ _ _ _))) ?_
          go_frame
          refine ls_ex (some 43) (.int .i64 k) rfl rfl (exec_move _ rfl (.int .i64 k) rfl) ?_
          go_frame
          refine ls_ex (some 44) (.int .i64 (getI (runL p ss os (uniL N k)) j)) rfl rfl (exec_move _ rfl (.int .i64 (getI (runL p ss os (uniL N k)) j)) rfl) ?_
          go_frame
          refine ls_ex (some 45) (.pointer (some ⟨gs j, k * 1, none⟩)) rfl rfl (exec_ix0 _ 2 _ _ rfl (gs j) N N k 1 rfl rfl Try.underlying46 (by kernel_rfl) (by omega)) ?_
          go_frame
          refine ls_op rfl (fun K' hK' => ?_)
          refine wp_store_one 2 _ _ rfl rfl (gs j) (k * 1) rfl (.int .i64 (getI (runL p ss os (uniL N k)) j)) rfl rfl rfl _ _ (hM.row j hlt2).1 (by kernel_rfl) (by rw [iar_size, fmRow_len]; omega) (fun Wz26 pz27 => ?_)
          replace hM : MatB Wz26 Wz6.heap.size Wz10.heap.size g4 cs4 gs os.length (fmRow p ss os N k (j + 1)) := hM.put hlt2 (fun x hx => fmRow_ne hx) (by rw [fmRow_len, fmRow_len]) (by have h9 := pz27.at_; rwa [Nat.mul_one, iar_set, fmRow_set hlt] at h9) (fun x o hx ha => pz27.other ha hx)
          replace ho6 := OwnI.put2 ho6 pz27 (OwnI.ne_lt2 ho6 (by omega))
          replace hB := pz27.below hB (by omega)
          replace h0 := pz27.other h0 (by omega)
          replace hz : Wz10.heap.size ≤ Wz26.heap.size := Nat.le_trans hz (Nat.le_of_eq (pz27.size rfl).symm)
          refine hK' _ _ ?_
          clear hK' K' pz27
          refine wpList_nil ?_
          go_upto_region 13 with (fail)
          refine wp_region_lit ?_
          refine ls_ex (some 46) (.int .i64 (j + 1)) rfl rfl (exec_add _ _ _ _ rfl j 1 (j + 1) rfl rfl (IntWalk.i64_in _ (by omega))) ?_
          go_frame
          refine ls_ex (some 34) (.int .i64 (j + 1)) rfl rfl (exec_move _ rfl (.int .i64 (j + 1)) rfl) ?_
          go_frame
          refine wpList_nil ?_
          go_wp2_with fail
          go_roundw
          case rel => exact ⟨j + 1, by omega, by go_num, hB, h0, hM, ho6, hz⟩
          case measure => simp [intOf]; omega
        · have hM2 : MatB wr Wz6.heap.size Wz10.heap.size g4 cs4 gs os.length (fmRow p ss os N (k + 1) 0) := hM.congr (fun i hi => by rw [show j = os.length by omega]; exact (fmRow_next hi).symm)
          clear hM
          go_upto_region 10 with (fail)
          refine wp_region_lit ?_
          refine ls_ex (some 35) (.bool false) rfl rfl (exec_lss _ _ _ _ rfl j os.length rfl rfl false (decide_eq_false (by omega))) ?_
          go_frame
          refine wpList_nil ?_
          go_upto_region 14 with (fail)
          refine wp_region_lit ?_
          refine ls_ex (some 47) (.int .i64 (k + 1)) rfl rfl (exec_add _ _ _ _ rfl k 1 (k + 1) rfl rfl (IntWalk.i64_in _ (by omega))) ?_
          go_frame
          refine ls_ex (some 21) (.int .i64 (k + 1)) rfl rfl (exec_move _ rfl (.int .i64 (k + 1)) rfl) ?_
          go_frame
          refine wpList_nil ?_
          go_wp2_with fail
          go_roundw
          case rel => exact ⟨k + 1, by omega, by go_num, hB, h0, hM2, hz⟩
          case measure => simp [intOf]; omega
    · have hM2 : MatB wr Wz6.heap.size Wz10.heap.size g4 cs4 gs os.length (fmR p ss os N) := hM.congr (fun i hi => by rw [show k = N by omega]; exact (fmRow_all _).symm)
      clear hM
      go_upto_region 5 with (fail)
      refine wp_region_lit ?_
      refine ls_ex (some 22) (.bool false) rfl rfl (exec_lss _ _ _ _ rfl k ((N : Int)) rfl rfl false (decide_eq_false (by omega))) ?_
      go_frame
      refine wpList_nil ?_
      go_upto_region 15 with (fail)
      refine wp_region_lit ?_
      refine ls_ex (some 48) (.slice (some ⟨g4, 0, none⟩) os.length c4) rfl rfl (exec_move _ rfl (.slice (some ⟨g4, 0, none⟩) os.length c4) rfl) ?_
      go_frame
      refine ls_ex (some 2) (.slice (some ⟨g4, 0, none⟩) os.length c4) rfl rfl (exec_assign _ rfl (.slice (some ⟨g4, 0, none⟩) os.length c4) rfl) ?_
      go_frame
      refine ls_ex (some 3) (.int .i64 0) rfl rfl (exec_assign _ rfl (.int .i64 0) rfl) ?_
      go_frame
      refine wpList_nil ?_
      go_wp2_with fail
      go_ret2
      have hsz := hB.size
      exact ⟨_, by rw [Hc.out]; rfl, by rw [Hr.out]; exact OwnM.mono (.inr ⟨g4, c4, cs4, gs, rfl, hM2⟩) (by omega) (by omega), hB⟩
set_option maxHeartbeats 25600000 in
theorem l07Forms_c (p : Int) (N : Nat) (As Ao : Option Addr) (cs co : Nat) (ss os : List (List Int)) (w : World) (hs : RdK 3 w As ss) (ho : RdK 2 w Ao os) (hns : ss.length ≤ 1048576) (hno : os.length ≤ 1048576) (hpr : progB p (N : Int) ss os = true) :
    Calls Try.prog 45 #[.agg #[.int .i64 p, .int .i64 (N : Int), .slice As ss.length cs, .slice Ao os.length co]] w (NewM w os.length (fmR p ss os N)) := by
  have hB := Below.refl w.heap.size w
  have _u0 := hns
  have _u1 := hno
  clear _u0 _u1
  have hpp := progB_parts hpr
  have hp5 := primeB_bounds hpp.1
  have hn9 := hpp.2.1
  have hN9 : N ≤ 30 := by omega
  have hN1 : 1 ≤ N := by omega
  have hl9 := hpp.2.2.1
  have ho9 := hpp.2.2.2.1
  have Hc : Hid (fmCode p (N : Int) ss os = 0) := Lib.hid (by unfold fmCode; rw [hpr]; rfl)
  have Hr : Hid (fmN p (N : Int) ss os = os.length) := Lib.hid (by unfold fmN; rw [hpr]; rfl)
  have HU := Lib.hid (fun k => uniL_nums (N := N) (k := k) (show 2 ≤ p by omega))
  obtain ⟨M, hM⟩ : ∃ M, N + ss.length = M := ⟨_, rfl⟩
  have HM := Lib.hid hM
  have HP := Lib.hid hpr
  clear hM hpr hpp
  go_enter Try.func45, Try.ntmps45
  go_upto_region 0 with (fail)
  refine wp_region_lit ?_
  refine ls_op rfl (fun K' hK' => ?_)
  have lz1 := hB.size
  refine wp_new (some 1) rfl (exec_box 36 _ rfl (#[.int .i64 p, .int .i64 (N : Int), .slice As ss.length cs, .slice Ao os.length co]) rfl) (fun Wz2 nnz3 => ?_)
  have bz4 := nnz3.below (Below.refl _ _) (Nat.le_refl _)
  replace hB := below_after hB bz4
  have hz5 : At Wz2 w.heap.size (.cells #[.int .i64 p, .int .i64 (N : Int), .slice As ss.length cs, .slice Ao os.length co] 36 (0, 0)) := nnz3.at_
  refine hK' _ _ ?_
  clear hK' K' nnz3 bz4
  go_frame
  refine ls_ex (some 2) (.slice none 0 0) rfl rfl (exec_assign _ rfl (.slice none 0 0) rfl) ?_
  go_frame
  refine wpList_nil ?_
  go_upto_region 1 with (fail)
  refine wp_region_lit ?_
  refine ls_op rfl (fun K' hK' => ?_)
  have lz6 := hB.size
  have lz7 := hz5.lt
  refine wp_new (some 10) rfl (exec_bs0R rfl) (fun Wz8 nnz9 => ?_)
  have bz10 := nnz9.below (Below.refl _ _) (Nat.le_refl _)
  replace hB := below_after hB bz10
  replace hz5 := hz5.after bz10
  have hO : OutR Wz8 Wz2.heap.size Wz8.heap.size (.slice (some ⟨Wz2.heap.size, 0, none⟩) 0 0) (fun _ => 0) 0 (fun _ => List.replicate N 0) := OutR.start nnz9
  have hz : Wz2.heap.size ≤ Wz8.heap.size := by have := nnz9.at_.lt; omega
  refine hK' _ _ ?_
  clear hK' K' nnz9 bz10
  go_frame
  refine ls_ex (some 3) (.slice (some ⟨Wz2.heap.size, 0, none⟩) 0 0) rfl rfl (exec_assign _ rfl (.slice (some ⟨Wz2.heap.size, 0, none⟩) 0 0) rfl) ?_
  go_frame
  refine wpList_nil ?_
  go_upto_region 2 with (fail)
  refine wp_region_lit ?_
  refine ls_ex (some 4) (.int .i64 0) rfl rfl (exec_assign _ rfl (.int .i64 0) rfl) ?_
  go_frame
  refine wpList_nil ?_
  go_wp2_with fail
  go_loopw [4, 3] (fun s4 s3 wr => ∃ (i : Nat) (v3 : Value) (gs : Nat → Nat), i ≤ os.length ∧ s4 = .int .i64 i ∧ v3 = s3 ∧ Below w.heap.size w wr ∧ At wr w.heap.size (.cells #[.int .i64 p, .int .i64 (N : Int), .slice As ss.length cs, .slice Ao os.length co] 36 (0, 0)) ∧ OutR wr Wz2.heap.size wr.heap.size v3 gs i (fun _ => List.replicate N 0) ∧ Wz2.heap.size ≤ wr.heap.size) (fun s4 _ _ => os.length - (intOf s4).toNat)
  case atStart => exact ⟨0, _, _, by omega, rfl, rfl, hB, hz5, hO, hz⟩
  case round =>
    clear hB hz5 hz hO
    obtain ⟨i, v3, gs, hi9, rfl, rfl, hB, h0, hO, hz⟩ := hrel
    by_cases hlt : i < os.length
    · have hlo9 := hB.size
      have hz0 := hz
      go_upto_region 3 with (fail)
      refine wp_region_lit ?_
      refine ls_ex (some 11) (.int .i64 i) rfl rfl (exec_move _ rfl (.int .i64 i) rfl) ?_
      go_frame
      refine ls_ex (some 12) (.pointer (some ⟨w.heap.size, 3, none⟩)) rfl rfl (exec_fieldAddr 36 _ 3 rfl _ (by kernel_rfl)) ?_
      go_frame
      refine ls_ex (some 13) (.slice Ao os.length co) rfl rfl (exec_load_one 34 _ rfl w.heap.size 3 rfl (.slice Ao os.length co) _ Try.underlying34 rfl (h0.at_ 3)) ?_
      go_frame
      refine ls_ex (some 14) (.int .i64 os.length) rfl rfl (exec_len _ 34 61 rfl Ao os.length co rfl Try.underlying34) ?_
      go_frame
      refine ls_ex (some 15) (.bool true) rfl rfl (exec_lss _ _ _ _ rfl i os.length rfl rfl true (decide_eq_true (by omega))) ?_
      go_frame
      refine wpList_nil ?_
      go_upto_region 5 with (fail)
      refine wp_region_lit ?_
      refine ls_ex (some 18) (v3) rfl rfl (exec_move _ rfl (v3) rfl) ?_
      go_frame
      refine ls_ex (some 19) (.pointer (some ⟨w.heap.size, 1, none⟩)) rfl rfl (exec_fieldAddr 36 _ 1 rfl _ (by kernel_rfl)) ?_
      go_frame
      refine ls_ex (some 20) (.int .i64 (N : Int)) rfl rfl (exec_load_one 2 _ rfl w.heap.size 1 rfl (.int .i64 (N : Int)) _ Try.underlying2 rfl (h0.at_ 1)) ?_
      go_frame
      refine ls_op rfl (fun K' hK' => ?_)
      have lz11 := hB.size
      have lz12 := h0.lt
      refine wp_make_I (some 21) rfl _ _ rfl N rfl rfl (by omega) (fun Wz13 nnz14 => ?_)
      have bz15 := nnz14.below (Below.refl _ _) (Nat.le_refl _)
      replace hB := below_after hB bz15
      replace h0 := h0.after bz15
      replace hO := hO.below bz15
      replace hz := size_after hz bz15
      have hA : At Wz13 wr.heap.size (.cells (iar (List.replicate N 0)) 2 (0, 0)) := nnz14.at_
      refine hK' _ _ ?_
      clear hK' K' nnz14 bz15
      go_frame
      refine ls_op rfl (fun K' hK' => ?_)
      have lz19 := hB.size
      have lz20 := h0.lt
      have lz21 := hA.lt
      refine wp_new (some 22) rfl (exec_buildRow _ rfl (some ⟨wr.heap.size, 0, none⟩) N N rfl) (fun Wz16 nnz17 => ?_)
      have bz18 := nnz17.below (Below.refl _ _) (Nat.le_refl _)
      replace hB := below_after hB bz18
      replace h0 := h0.after bz18
      replace hO := hO.below bz18
      replace hz := size_after hz bz18
      replace hA := hA.after bz18
      have hcl := cells_of_newR nnz17
      refine hK' _ _ ?_
      clear hK' K' nnz17 bz18
      go_frame
      refine ls_op rfl (fun K' hK' => ?_)
      have lz23 := hB.size
      have lz24 := h0.lt
      have lz25 := hA.lt
      refine wp_appR (some 23) rfl _ _ rfl Wz2.heap.size v3 i gs (fun _ => List.replicate N 0) _ rfl hO (.slice (some ⟨wr.heap.size, 0, none⟩) N N) rfl Wz13.heap.size rfl hcl (by omega) (by omega) (fun v8 Wz22 own8 gr8 => ?_)
      have hO8 := hO.append (show Wz2.heap.size ≤ wr.heap.size by omega) (by omega) (by exact hA) (List.length_replicate ..) gr8 own8
      have hB8 : Below w.heap.size w Wz22 := hB.grown gr8 hB.size (fun k hk => by have := (outR_lt hO hk).1; omega)
      have h08 := h0.grown gr8 (fun e => by have := (outR_lt hO e.symm).1; omega)
      have hz8 := Nat.le_trans hz gr8.size
      clear hB h0 hO hA hcl gr8 own8 hz
      refine hK' _ _ ?_
      clear hK' K'
      go_frame
      refine ls_ex (some 3) (v8) rfl rfl (exec_assign _ rfl (v8) rfl) ?_
      go_frame
      refine wpList_nil ?_
      go_upto_region 4 with (fail)
      refine wp_region_lit ?_
      refine ls_ex (some 16) (.int .i64 i) rfl rfl (exec_move _ rfl (.int .i64 i) rfl) ?_
      go_frame
      refine ls_ex (some 17) (.int .i64 (i + 1)) rfl rfl (exec_add _ _ _ _ rfl i 1 (i + 1) rfl rfl (IntWalk.i64_in _ (by omega))) ?_
      go_frame
      refine ls_ex (some 4) (.int .i64 (i + 1)) rfl rfl (exec_assign _ rfl (.int .i64 (i + 1)) rfl) ?_
      go_frame
      refine wpList_nil ?_
      go_wp2_with fail
      go_roundw
      case rel => exact ⟨i + 1, _, _, by omega, by go_num, rfl, hB8, h08, hO8, hz8⟩
      case measure => simp [intOf]; omega
    · have hm4 := hO.to (Nat.le_refl _)
      have hm5 : OwnM wr Wz2.heap.size wr.heap.size v3 os.length (fun _ => List.replicate N 0) := by rw [← show i = os.length by omega]; exact hm4
      clear hO hm4
      obtain ⟨g4, c4, cs4, gs4, rfl, hM9⟩ := OwnM.form hm5 (by omega)
      clear hm5
      have hM : MatB wr Wz2.heap.size wr.heap.size g4 cs4 gs4 os.length (fmRow p ss os N 0 0) := hM9.congr (fun i hi => fmRow_start _ _ _ _ _)
      clear hM9
      clear gs
      rename Nat → Nat => gs
      go_upto_region 3 with (fail)
      refine wp_region_lit ?_
      refine ls_ex (some 11) (.int .i64 i) rfl rfl (exec_move _ rfl (.int .i64 i) rfl) ?_
      go_frame
      refine ls_ex (some 12) (.pointer (some ⟨w.heap.size, 3, none⟩)) rfl rfl (exec_fieldAddr 36 _ 3 rfl _ (by kernel_rfl)) ?_
      go_frame
      refine ls_ex (some 13) (.slice Ao os.length co) rfl rfl (exec_load_one 34 _ rfl w.heap.size 3 rfl (.slice Ao os.length co) _ Try.underlying34 rfl (h0.at_ 3)) ?_
      go_frame
      refine ls_ex (some 14) (.int .i64 os.length) rfl rfl (exec_len _ 34 61 rfl Ao os.length co rfl Try.underlying34) ?_
      go_frame
      refine ls_ex (some 15) (.bool false) rfl rfl (exec_lss _ _ _ _ rfl i os.length rfl rfl false (decide_eq_false (by omega))) ?_
      go_frame
      refine wpList_nil ?_
      go_upto_region 6 with (fail)
      refine wp_region_lit ?_
      refine ls_ex (some 5) (.int .i64 0) rfl rfl (exec_assign _ rfl (.int .i64 0) rfl) ?_
      go_frame
      refine wpList_nil ?_
      go_wp2_with fail
      have hsz8 := hM.out.lt
      obtain ⟨wd, rfl⟩ : ∃ x : World, x = wr := ⟨_, rfl⟩
      go_loopw [5] (fun s5 wr => ∃ k : Nat, k ≤ N ∧ s5 = .int .i64 k ∧ Below w.heap.size w wr ∧ At wr w.heap.size (.cells #[.int .i64 p, .int .i64 (N : Int), .slice As ss.length cs, .slice Ao os.length co] 36 (0, 0)) ∧ MatB wr Wz2.heap.size wd.heap.size g4 cs4 gs os.length (fmRow p ss os N k 0) ∧ wd.heap.size ≤ wr.heap.size) (fun s5 _ => N - (intOf s5).toNat)
      case atStart => exact ⟨0, by omega, rfl, hB, h0, hM, by omega⟩
      case round =>
        clear hB h0 hM
        obtain ⟨k, hk, rfl, hB, h0, hM, hz⟩ := hrel
        by_cases hlt : k < N
        · have hsz9 := hM.out.lt
          have hz0 := hz
          go_upto_region 7 with (fail)
          refine wp_region_lit ?_
          refine ls_ex (some 24) (.int .i64 k) rfl rfl (exec_move _ rfl (.int .i64 k) rfl) ?_
          go_frame
          refine ls_ex (some 25) (.pointer (some ⟨w.heap.size, 1, none⟩)) rfl rfl (exec_fieldAddr 36 _ 1 rfl _ (by kernel_rfl)) ?_
          go_frame
          refine ls_ex (some 26) (.int .i64 (N : Int)) rfl rfl (exec_load_one 2 _ rfl w.heap.size 1 rfl (.int .i64 (N : Int)) _ Try.underlying2 rfl (h0.at_ 1)) ?_
          go_frame
          refine ls_ex (some 27) (.bool true) rfl rfl (exec_lss _ _ _ _ rfl k ((N : Int)) rfl rfl true (decide_eq_true (by omega))) ?_
          go_frame
          refine wpList_nil ?_
          go_upto_region 9 with (fail)
          refine wp_region_lit ?_
          refine ls_ex (some 30) (.pointer (some ⟨w.heap.size, 1, none⟩)) rfl rfl (exec_fieldAddr 36 _ 1 rfl _ (by kernel_rfl)) ?_
          go_frame
          refine ls_ex (some 31) (.int .i64 (N : Int)) rfl rfl (exec_load_one 2 _ rfl w.heap.size 1 rfl (.int .i64 (N : Int)) _ Try.underlying2 rfl (h0.at_ 1)) ?_
          go_frame
          refine ls_op rfl (fun K' hK' => ?_)
          have lz26 := hB.size
          have lz27 := h0.lt
          refine wp_make_I (some 32) rfl _ _ rfl N rfl rfl (by omega) (fun Wz28 nnz29 => ?_)
          have bz30 := nnz29.below (Below.refl _ _) (Nat.le_refl _)
          replace hB := below_after hB bz30
          replace h0 := h0.after bz30
          replace hM := hM.below bz30
          replace hz := size_after hz bz30
          have hA : At Wz28 wr.heap.size (.cells (iar (List.replicate N 0)) 2 (0, 0)) := nnz29.at_
          refine hK' _ _ ?_
          clear hK' K' nnz29 bz30
          go_frame
          refine ls_ex (some 6) (.slice (some ⟨wr.heap.size, 0, none⟩) N N) rfl rfl (exec_assign _ rfl (.slice (some ⟨wr.heap.size, 0, none⟩) N N) rfl) ?_
          go_frame
          refine wpList_nil ?_
          go_upto_region 10 with (fail)
          refine wp_region_lit ?_
          refine ls_ex (some 33) (.slice (some ⟨wr.heap.size, 0, none⟩) N N) rfl rfl (exec_move _ rfl (.slice (some ⟨wr.heap.size, 0, none⟩) N N) rfl) ?_
          go_frame
          refine ls_ex (some 34) (.int .i64 k) rfl rfl (exec_move _ rfl (.int .i64 k) rfl) ?_
          go_frame
          refine ls_ex (some 35) (.pointer (some ⟨wr.heap.size, k * 1, none⟩)) rfl rfl (exec_ix0 _ 2 _ _ rfl wr.heap.size N N k 1 rfl rfl Try.underlying46 (by kernel_rfl) (by omega)) ?_
          go_frame
          refine ls_op rfl (fun K' hK' => ?_)
          refine wp_store_one 2 _ _ rfl rfl wr.heap.size (k * 1) rfl (.int .i64 1) rfl rfl rfl _ _ hA (by kernel_rfl) (by rw [iar_size, List.length_replicate]; omega) (fun Wz31 pz32 => ?_)
          replace hB := pz32.below hB (by omega)
          replace h0 := pz32.other h0 (by omega)
          replace hM := hM.keepR (fun x o h1 h2 hx => pz32.other hx (by omega))
          replace hz : wd.heap.size ≤ Wz31.heap.size := Nat.le_trans hz (Nat.le_of_eq (pz32.size rfl).symm)
          replace hA : At Wz31 wr.heap.size (.cells (iar (uniL N k)) 2 (0, 0)) := by have h9 := pz32.at_; rwa [Nat.mul_one, iar_set] at h9
          refine hK' _ _ ?_
          clear hK' K' pz32
          refine wpList_nil ?_
          go_upto_region 11 with (fail)
          refine wp_region_lit ?_
          refine ls_ex (some 36) (.agg #[.int .i64 p, .int .i64 (N : Int), .slice As ss.length cs, .slice Ao os.length co]) rfl rfl (exec_load_all 36 _ rfl w.heap.size rfl _ _ _ h0 Try.underlying36 rfl 4 (by kernel_rfl) rfl) ?_
          go_frame
          refine ls_ex (some 37) (.slice (some ⟨wr.heap.size, 0, none⟩) N N) rfl rfl (exec_move _ rfl (.slice (some ⟨wr.heap.size, 0, none⟩) N N) rfl) ?_
          go_frame
          refine ls_op rfl (fun K' hK' => ?_)
          have lz35 := hB.size
          have lz36 := h0.lt
          have lz37 := hA.lt
          refine wp_call2 (some 38) rfl 57 _ _ _ rfl (fun args w => by kernel_rfl) _ _ rfl rfl _ ((by have h9 := l07Run_c p (N : Int) As Ao cs co ss os Wz31 (hs.keep hB) (ho.keep hB) (some ⟨wr.heap.size, 0, none⟩) N (uniL N k) (RdI.of_iar hA) (by rw [uniL_len]; omega) HP.out (by rw [uniL_len]) (HU.out k); rw [uniL_len] at h9; exact h9)) (fun e Wz33 h => ?_)
          obtain ⟨v6, rfl, ho6, bz34⟩ := h
          replace hB := below_after hB bz34
          replace h0 := h0.after bz34
          replace hM := hM.below bz34
          replace hz := size_after hz bz34
          replace hA := hA.after bz34
          obtain ⟨g6, c6, rfl, hg6, hg6b⟩ := OwnI.formN ho6 (show (runL p ss os (uniL N k)).length = os.length by unfold runL; rw [outsL_len]) (by omega)
          clear bz34
          refine ⟨_, rfl, ?_⟩
          refine hK' _ _ ?_
          clear hK' K'
          go_frame
          refine ls_ex (some 7) (.slice (some ⟨g6, 0, none⟩) os.length c6) rfl rfl (exec_assign _ rfl (.slice (some ⟨g6, 0, none⟩) os.length c6) rfl) ?_
          go_frame
          refine wpList_nil ?_
          go_upto_region 12 with (fail)
          refine wp_region_lit ?_
          refine ls_ex (some 8) (.int .i64 0) rfl rfl (exec_assign _ rfl (.int .i64 0) rfl) ?_
          go_frame
          refine wpList_nil ?_
          go_wp2_with fail
          have hs6 := hB.size
          obtain ⟨we, rfl⟩ : ∃ x : World, x = wr := ⟨_, rfl⟩
          go_loopw [8] (fun s8 wr => ∃ j : Nat, j ≤ os.length ∧ s8 = .int .i64 j ∧ Below w.heap.size w wr ∧ At wr w.heap.size (.cells #[.int .i64 p, .int .i64 (N : Int), .slice As ss.length cs, .slice Ao os.length co] 36 (0, 0)) ∧ MatB wr Wz2.heap.size wd.heap.size g4 cs4 gs os.length (fmRow p ss os N k j) ∧ OwnI wr Wz31.heap.size (.slice (some ⟨g6, 0, none⟩) os.length c6) (runL p ss os (uniL N k)) ∧ wd.heap.size ≤ wr.heap.size) (fun s8 _ => os.length - (intOf s8).toNat)
          case atStart => exact ⟨0, by omega, rfl, hB, h0, hM, ho6, hz⟩
          case round =>
            clear hB h0 hM hz ho6
            obtain ⟨j, hj, rfl, hB, h0, hM, ho6, hz⟩ := hrel
            by_cases hlt2 : j < os.length
            · have hgj := (hM.row j hlt2).2
              go_upto_region 13 with (fail)
              refine wp_region_lit ?_
              refine ls_ex (some 39) (.int .i64 j) rfl rfl (exec_move _ rfl (.int .i64 j) rfl) ?_
              go_frame
              refine ls_ex (some 40) (.slice (some ⟨g6, 0, none⟩) os.length c6) rfl rfl (exec_move _ rfl (.slice (some ⟨g6, 0, none⟩) os.length c6) rfl) ?_
              go_frame
              refine ls_ex (some 41) (.int .i64 os.length) rfl rfl (exec_len _ 46 2 rfl ((some ⟨g6, 0, none⟩)) os.length c6 rfl Try.underlying46) ?_
              go_frame
              refine ls_ex (some 42) (.bool true) rfl rfl (exec_lss _ _ _ _ rfl j os.length rfl rfl true (decide_eq_true (by omega))) ?_
              go_frame
              refine wpList_nil ?_
              go_upto_region 15 with (fail)
              refine wp_region_lit ?_
              refine ls_ex (some 45) (.slice (some ⟨g4, 0, none⟩) os.length c4) rfl rfl (exec_move _ rfl (.slice (some ⟨g4, 0, none⟩) os.length c4) rfl) ?_
              go_frame
              refine ls_ex (some 46) (.int .i64 j) rfl rfl (exec_move _ rfl (.int .i64 j) rfl) ?_
              go_frame
              refine ls_ex (some 47) (.pointer (some ⟨g4, j * 1, none⟩)) rfl rfl (exec_ix0 _ 46 _ _ rfl g4 os.length c4 j 1 rfl rfl Try.underlying40 (by kernel_rfl) (by omega)) ?_
              go_frame
              refine ls_ex (some 48) (.slice (some ⟨gs j, 0, none⟩) N N) rfl rfl (exec_load_one 46 _ rfl g4 (j * 1) rfl (.slice (some ⟨gs j, 0, none⟩) N N) _ Try.underlying46 rfl (by rw [Nat.mul_one]; exact hM.cellN hlt2 (fmRow_len _ _ _ _ _ _ _))) ?_
              go_frame
              refine ls_ex (some 9) (.slice (some ⟨gs j, 0, none⟩) N N) rfl rfl (exec_assign _ rfl (.slice (some ⟨gs j, 0, none⟩) N N) rfl) ?_
              go_frame
              refine wpList_nil ?_
              go_upto_region 16 with (fail)
              refine wp_region_lit ?_
              refine ls_ex (some 49) (.slice (some ⟨gs j, 0, none⟩) N N) rfl rfl (exec_move _ rfl (.slice (some ⟨gs j, 0, none⟩) N N) rfl) ?_
              go_frame
              refine ls_ex (some 50) (.int .i64 k) rfl rfl (exec_move _ rfl (.int .i64 k) rfl) ?_
              go_frame
              refine ls_ex (some 51) (.slice (some ⟨g6, 0, none⟩) os.length c6) rfl rfl (exec_move _ rfl (.slice (some ⟨g6, 0, none⟩) os.length c6) rfl) ?_
              go_frame
              refine ls_ex (some 52) (.int .i64 j) rfl rfl (exec_move _ rfl (.int .i64 j) rfl) ?_
              go_frame
              refine ls_ex (some 53) (.pointer (some ⟨g6, j * 1, none⟩)) rfl rfl (exec_ix0 _ 2 _ _ rfl g6 os.length c6 j 1 rfl rfl Try.underlying46 (by kernel_rfl) (by omega)) ?_
              go_frame
              refine ls_ex (some 54) (.int .i64 (getI (runL p ss os (uniL N k)) j)) rfl rfl (exec_load_one 2 _ rfl g6 (j * 1) rfl (.int .i64 (getI (runL p ss os (uniL N k)) j)) _ Try.underlying2 rfl (by rw [Nat.mul_one]; exact OwnI.cell ho6 (by unfold runL; rw [outsL_len]; exact hlt2))) ?_
              go_frame
              refine ls_ex (some 55) (.pointer (some ⟨gs j, k * 1, none⟩)) rfl rfl (exec_ix0 _ 2 _ _ rfl (gs j) N N k 1 rfl rfl Try.underlying46 (by kernel_rfl) (by omega)) ?_
              go_frame
              refine ls_op rfl (fun K' hK' => ?_)
              refine wp_store_one 2 _ _ rfl rfl (gs j) (k * 1) rfl (.int .i64 (getI (runL p ss os (uniL N k)) j)) rfl rfl rfl _ _ (hM.row j hlt2).1 (by kernel_rfl) (by rw [iar_size, fmRow_len]; omega) (fun Wz38 pz39 => ?_)
              replace hM : MatB Wz38 Wz2.heap.size wd.heap.size g4 cs4 gs os.length (fmRow p ss os N k (j + 1)) := hM.put hlt2 (fun x hx => fmRow_ne hx) (by rw [fmRow_len, fmRow_len]) (by have h9 := pz39.at_; rwa [Nat.mul_one, iar_set, fmRow_set hlt] at h9) (fun x o hx ha => pz39.other ha hx)
              replace ho6 := OwnI.put2 ho6 pz39 (OwnI.ne_lt2 ho6 (by omega))
              replace hB := pz39.below hB (by omega)
              replace h0 := pz39.other h0 (by omega)
              replace hz : wd.heap.size ≤ Wz38.heap.size := Nat.le_trans hz (Nat.le_of_eq (pz39.size rfl).symm)
              refine hK' _ _ ?_
              clear hK' K' pz39
              refine wpList_nil ?_
              go_upto_region 14 with (fail)
              refine wp_region_lit ?_
              refine ls_ex (some 43) (.int .i64 j) rfl rfl (exec_move _ rfl (.int .i64 j) rfl) ?_
              go_frame
              refine ls_ex (some 44) (.int .i64 (j + 1)) rfl rfl (exec_add _ _ _ _ rfl j 1 (j + 1) rfl rfl (IntWalk.i64_in _ (by omega))) ?_
              go_frame
              refine ls_ex (some 8) (.int .i64 (j + 1)) rfl rfl (exec_assign _ rfl (.int .i64 (j + 1)) rfl) ?_
              go_frame
              refine wpList_nil ?_
              go_wp2_with fail
              go_roundw
              case rel => exact ⟨j + 1, by omega, by go_num, hB, h0, hM, ho6, hz⟩
              case measure => simp [intOf]; omega
            · have hM2 : MatB wr Wz2.heap.size wd.heap.size g4 cs4 gs os.length (fmRow p ss os N (k + 1) 0) := hM.congr (fun i hi => by rw [show j = os.length by omega]; exact (fmRow_next hi).symm)
              clear hM
              go_upto_region 13 with (fail)
              refine wp_region_lit ?_
              refine ls_ex (some 39) (.int .i64 j) rfl rfl (exec_move _ rfl (.int .i64 j) rfl) ?_
              go_frame
              refine ls_ex (some 40) (.slice (some ⟨g6, 0, none⟩) os.length c6) rfl rfl (exec_move _ rfl (.slice (some ⟨g6, 0, none⟩) os.length c6) rfl) ?_
              go_frame
              refine ls_ex (some 41) (.int .i64 os.length) rfl rfl (exec_len _ 46 2 rfl ((some ⟨g6, 0, none⟩)) os.length c6 rfl Try.underlying46) ?_
              go_frame
              refine ls_ex (some 42) (.bool false) rfl rfl (exec_lss _ _ _ _ rfl j os.length rfl rfl false (decide_eq_false (by omega))) ?_
              go_frame
              refine wpList_nil ?_
              go_upto_region 8 with (fail)
              refine wp_region_lit ?_
              refine ls_ex (some 28) (.int .i64 k) rfl rfl (exec_move _ rfl (.int .i64 k) rfl) ?_
              go_frame
              refine ls_ex (some 29) (.int .i64 (k + 1)) rfl rfl (exec_add _ _ _ _ rfl k 1 (k + 1) rfl rfl (IntWalk.i64_in _ (by omega))) ?_
              go_frame
              refine ls_ex (some 5) (.int .i64 (k + 1)) rfl rfl (exec_assign _ rfl (.int .i64 (k + 1)) rfl) ?_
              go_frame
              refine wpList_nil ?_
              go_wp2_with fail
              go_roundw
              case rel => exact ⟨k + 1, by omega, by go_num, hB, h0, hM2, hz⟩
              case measure => simp [intOf]; omega
        · have hM2 : MatB wr Wz2.heap.size wd.heap.size g4 cs4 gs os.length (fmR p ss os N) := hM.congr (fun i hi => by rw [show k = N by omega]; exact (fmRow_all _).symm)
          clear hM
          go_upto_region 7 with (fail)
          refine wp_region_lit ?_
          refine ls_ex (some 24) (.int .i64 k) rfl rfl (exec_move _ rfl (.int .i64 k) rfl) ?_
          go_frame
          refine ls_ex (some 25) (.pointer (some ⟨w.heap.size, 1, none⟩)) rfl rfl (exec_fieldAddr 36 _ 1 rfl _ (by kernel_rfl)) ?_
          go_frame
          refine ls_ex (some 26) (.int .i64 (N : Int)) rfl rfl (exec_load_one 2 _ rfl w.heap.size 1 rfl (.int .i64 (N : Int)) _ Try.underlying2 rfl (h0.at_ 1)) ?_
          go_frame
          refine ls_ex (some 27) (.bool false) rfl rfl (exec_lss _ _ _ _ rfl k ((N : Int)) rfl rfl false (decide_eq_false (by omega))) ?_
          go_frame
          refine wpList_nil ?_
          go_upto_region 17 with (fail)
          refine wp_region_lit ?_
          refine ls_ex (some 56) (.slice (some ⟨g4, 0, none⟩) os.length c4) rfl rfl (exec_move _ rfl (.slice (some ⟨g4, 0, none⟩) os.length c4) rfl) ?_
          go_frame
          refine ls_ex (some 2) (.slice (some ⟨g4, 0, none⟩) os.length c4) rfl rfl (exec_assign _ rfl (.slice (some ⟨g4, 0, none⟩) os.length c4) rfl) ?_
          go_frame
          refine wpList_nil ?_
          go_wp2_with fail
          go_ret
          have hsz := hB.size
          exact ⟨_, rfl, OwnM.mono (.inr ⟨g4, c4, cs4, gs, rfl, hM2⟩) (by omega) (by omega), hB⟩
set_option maxHeartbeats 4000000 in
theorem specForms_a (p n : Int) (As Ao : Option Addr) (cs co : Nat) (ss os : List (List Int)) (w : World) (hs : RdK 3 w As ss) (ho : RdK 2 w Ao os) (hns : ss.length ≤ 1048576) (hno : os.length ≤ 1048576) (hpr : progB p n ss os = false) :
    Calls Try.prog 17 #[.agg #[.int .i64 p, .int .i64 n, .slice As ss.length cs, .slice Ao os.length co]] w (ResM w (fmN p n ss os) (fmR p ss os n.toNat) (fmCode p n ss os)) := by
  have hB := Below.refl w.heap.size w
  have Hc : Hid (fmCode p n ss os = 1) := Lib.hid (by unfold fmCode; rw [hpr]; rfl)
  have Hr : Hid (fmN p n ss os = 0) := Lib.hid (by unfold fmN; rw [hpr]; rfl)
  have HP := Lib.hid hpr
  clear hpr
  go_enter Try.func17, Try.ntmps17
  go_upto_region 0 with (fail)
  refine wp_region_lit ?_
  refine ls_op rfl (fun K' hK' => ?_)
  have lz1 := hB.size
  refine wp_new (some 1) rfl (exec_box 36 _ rfl (#[.int .i64 p, .int .i64 n, .slice As ss.length cs, .slice Ao os.length co]) rfl) (fun Wz2 nnz3 => ?_)
  have bz4 := nnz3.below (Below.refl _ _) (Nat.le_refl _)
  replace hB := below_after hB bz4
  have hz5 : At Wz2 w.heap.size (.cells #[.int .i64 p, .int .i64 n, .slice As ss.length cs, .slice Ao os.length co] 36 (0, 0)) := nnz3.at_
  refine hK' _ _ ?_
  clear hK' K' nnz3 bz4
  go_frame
  refine ls_ex (some 2) (.slice none 0 0) rfl rfl (exec_assign _ rfl (.slice none 0 0) rfl) ?_
  go_frame
  refine ls_ex (some 3) (.int .i64 0) rfl rfl (exec_assign _ rfl (.int .i64 0) rfl) ?_
  go_frame
  refine wpList_nil ?_
  go_upto_region 1 with (fail)
  refine wp_region_lit ?_
  refine ls_ex (some 4) (.agg #[.int .i64 p, .int .i64 n, .slice As ss.length cs, .slice Ao os.length co]) rfl rfl (exec_load_all 36 _ rfl w.heap.size rfl _ _ _ hz5 Try.underlying36 rfl 4 (by kernel_rfl) rfl) ?_
  go_frame
  refine ls_op rfl (fun K' hK' => ?_)
  have lz8 := hB.size
  have lz9 := hz5.lt
  refine wp_call1 (some 5) rfl 35 _ _ rfl (fun args w => by kernel_rfl) _ rfl _ (l07Is_c p n As Ao cs co ss os _ (hs.keep hB) (ho.keep hB) hns hno) (fun e Wz6 h => ?_)
  obtain ⟨rfl, bz7⟩ := h
  replace hB := below_after hB bz7
  replace hz5 := hz5.after bz7
  rw [HP.out]
  clear bz7
  refine ⟨_, rfl, ?_⟩
  refine hK' _ _ ?_
  clear hK' K'
  go_frame
  refine ls_ex (some 6) (.bool true) rfl rfl (exec_not _ _ rfl false rfl) ?_
  go_frame
  refine wpList_nil ?_
  go_upto_region 2 with (fail)
  refine wp_region_lit ?_
  refine ls_ex (some 2) (.slice none 0 0) rfl rfl (exec_assign _ rfl (.slice none 0 0) rfl) ?_
  go_frame
  refine ls_ex (some 3) (.int .i64 1) rfl rfl (exec_assign _ rfl (.int .i64 1) rfl) ?_
  go_frame
  refine wpList_nil ?_
  go_wp2_with fail
  go_ret2
  exact ⟨_, by rw [Hc.out]; rfl, by rw [Hr.out]; exact OwnM.nil _ _ _ _, hB⟩
set_option maxHeartbeats 4000000 in
theorem specForms_b (p : Int) (N : Nat) (As Ao : Option Addr) (cs co : Nat) (ss os : List (List Int)) (w : World) (hs : RdK 3 w As ss) (ho : RdK 2 w Ao os) (hns : ss.length ≤ 1048576) (hno : os.length ≤ 1048576) (hpr : progB p (N : Int) ss os = true) :
    Calls Try.prog 17 #[.agg #[.int .i64 p, .int .i64 (N : Int), .slice As ss.length cs, .slice Ao os.length co]] w (ResM w (fmN p (N : Int) ss os) (fmR p ss os N) (fmCode p (N : Int) ss os)) := by
  have hB := Below.refl w.heap.size w
  have Hc : Hid (fmCode p (N : Int) ss os = 0) := Lib.hid (by unfold fmCode; rw [hpr]; rfl)
  have Hr : Hid (fmN p (N : Int) ss os = os.length) := Lib.hid (by unfold fmN; rw [hpr]; rfl)
  have HP := Lib.hid hpr
  clear hpr
  go_enter Try.func17, Try.ntmps17
  go_upto_region 0 with (fail)
  refine wp_region_lit ?_
  refine ls_op rfl (fun K' hK' => ?_)
  have lz1 := hB.size
  refine wp_new (some 1) rfl (exec_box 36 _ rfl (#[.int .i64 p, .int .i64 (N : Int), .slice As ss.length cs, .slice Ao os.length co]) rfl) (fun Wz2 nnz3 => ?_)
  have bz4 := nnz3.below (Below.refl _ _) (Nat.le_refl _)
  replace hB := below_after hB bz4
  have hz5 : At Wz2 w.heap.size (.cells #[.int .i64 p, .int .i64 (N : Int), .slice As ss.length cs, .slice Ao os.length co] 36 (0, 0)) := nnz3.at_
  refine hK' _ _ ?_
  clear hK' K' nnz3 bz4
  go_frame
  refine ls_ex (some 2) (.slice none 0 0) rfl rfl (exec_assign _ rfl (.slice none 0 0) rfl) ?_
  go_frame
  refine ls_ex (some 3) (.int .i64 0) rfl rfl (exec_assign _ rfl (.int .i64 0) rfl) ?_
  go_frame
  refine wpList_nil ?_
  go_upto_region 1 with (fail)
  refine wp_region_lit ?_
  refine ls_ex (some 4) (.agg #[.int .i64 p, .int .i64 (N : Int), .slice As ss.length cs, .slice Ao os.length co]) rfl rfl (exec_load_all 36 _ rfl w.heap.size rfl _ _ _ hz5 Try.underlying36 rfl 4 (by kernel_rfl) rfl) ?_
  go_frame
  refine ls_op rfl (fun K' hK' => ?_)
  have lz8 := hB.size
  have lz9 := hz5.lt
  refine wp_call1 (some 5) rfl 35 _ _ rfl (fun args w => by kernel_rfl) _ rfl _ (l07Is_c p (N : Int) As Ao cs co ss os _ (hs.keep hB) (ho.keep hB) hns hno) (fun e Wz6 h => ?_)
  obtain ⟨rfl, bz7⟩ := h
  replace hB := below_after hB bz7
  replace hz5 := hz5.after bz7
  rw [HP.out]
  clear bz7
  refine ⟨_, rfl, ?_⟩
  refine hK' _ _ ?_
  clear hK' K'
  go_frame
  refine ls_ex (some 6) (.bool false) rfl rfl (exec_not _ _ rfl true rfl) ?_
  go_frame
  refine wpList_nil ?_
  go_upto_region 3 with (fail)
  refine wp_region_lit ?_
  refine ls_ex (some 7) (.agg #[.int .i64 p, .int .i64 (N : Int), .slice As ss.length cs, .slice Ao os.length co]) rfl rfl (exec_load_all 36 _ rfl w.heap.size rfl _ _ _ hz5 Try.underlying36 rfl 4 (by kernel_rfl) rfl) ?_
  go_frame
  refine ls_op rfl (fun K' hK' => ?_)
  have lz12 := hB.size
  have lz13 := hz5.lt
  refine wp_call1 (some 8) rfl 45 _ _ rfl (fun args w => by kernel_rfl) _ rfl _ (l07Forms_c p N As Ao cs co ss os _ (hs.keep hB) (ho.keep hB) hns hno HP.out) (fun e Wz10 h => ?_)
  obtain ⟨v, rfl, hv, bz11⟩ := h
  replace hB := below_after hB bz11
  replace hz5 := hz5.after bz11
  have hz9 : Wz6.heap.size ≤ Wz10.heap.size := bz11.size
  have hv2 := hv.mono (lo' := w.heap.size) (hi' := Wz10.heap.size) (by omega) (Nat.le_refl _)
  clear hv
  clear bz11
  refine ⟨_, rfl, ?_⟩
  refine hK' _ _ ?_
  clear hK' K'
  go_frame
  refine ls_ex (some 2) (v) rfl rfl (exec_assign _ rfl (v) rfl) ?_
  go_frame
  refine ls_ex (some 3) (.int .i64 0) rfl rfl (exec_assign _ rfl (.int .i64 0) rfl) ?_
  go_frame
  refine wpList_nil ?_
  go_wp2_with fail
  go_ret2
  exact ⟨_, by rw [Hc.out]; rfl, by rw [Hr.out]; exact hv2, hB⟩
theorem specFormsOf_c (p n : Int) (As Ao : Option Addr) (cs co : Nat) (ss os : List (List Int)) (w : World) (hs : RdK 3 w As ss) (ho : RdK 2 w Ao os) (hns : ss.length ≤ 1048576) (hno : os.length ≤ 1048576) : Calls Try.prog 17 #[.agg #[.int .i64 p, .int .i64 n, .slice As ss.length cs, .slice Ao os.length co]] w (ResM w (fmN p n ss os) (fmR p ss os n.toNat) (fmCode p n ss os)) := by
  cases hpr : progB p n ss os with
  | false => exact specForms_a p n As Ao cs co ss os w hs ho hns hno hpr
  | true =>
    obtain ⟨N, rfl⟩ := Int.eq_ofNat_of_zero_le (show 0 ≤ n by have := (progB_parts hpr).2.1; omega)
    exact specForms_b p N As Ao cs co ss os w hs ho hns hno hpr
theorem implFormsOf_c (p n : Int) (As Ao : Option Addr) (cs co : Nat) (ss os : List (List Int)) (w : World) (hs : RdK 3 w As ss) (ho : RdK 2 w Ao os) (hns : ss.length ≤ 1048576) (hno : os.length ≤ 1048576) : Calls Try.prog 18 #[.agg #[.int .i64 p, .int .i64 n, .slice As ss.length cs, .slice Ao os.length co]] w (ResM w (fmN p n ss os) (fmR p ss os n.toNat) (fmCode p n ss os)) := by
  cases hpr : progB p n ss os with
  | false => exact implForms_a p n As Ao cs co ss os w hs ho hns hno hpr
  | true =>
    obtain ⟨N, rfl⟩ := Int.eq_ofNat_of_zero_le (show 0 ≤ n by have := (progB_parts hpr).2.1; omega)
    exact implForms_b p N As Ao cs co ss os w hs ho hns hno hpr
end Go.Proofs.Ytokmchadckcilaa
