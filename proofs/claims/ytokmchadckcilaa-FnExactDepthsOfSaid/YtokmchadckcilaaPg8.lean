/-
  impl.outputsFor. (Made by mkpg8.py.)
-/
import Derived.Test.YtokmchadckcilaaPg7
namespace Go.Proofs.Ytokmchadckcilaa
open Go.RowKit
set_option maxRecDepth 100000
attribute [local irreducible] wpList
theorem isInput_yes (g o : Nat) (w : World) (hc : w.cell? ⟨g, o, none⟩ = some (.pointer none)) : Calls Try.prog 58 #[.pointer (some ⟨g, o, none⟩)] w fun e w' => e = .returned (.bool true) ∧ w = w' := by
  go_enter Try.func58, Try.ntmps58
  go_wp2_with fail
  go_ret
  exact ⟨rfl, rfl⟩
theorem isInput_no (g o : Nat) (ad : Addr) (w : World) (hc : w.cell? ⟨g, o, none⟩ = some (.pointer (some ad))) : Calls Try.prog 58 #[.pointer (some ⟨g, o, none⟩)] w fun e w' => e = .returned (.bool false) ∧ w = w' := by
  go_enter Try.func58, Try.ntmps58
  go_wp2_with fail
  go_ret
  exact ⟨rfl, rfl⟩
theorem getI_at {xs : List Int} {i : Nat} (h : i < xs.length) : getI xs i = xs[i] := by simp [getI, h]
theorem getI_left {xs : List Int} (ys : List Int) {i : Nat} (h : i < xs.length) : getI (xs ++ ys) i = getI xs i := by unfold getI; rw [List.getElem?_append_left h]
theorem getI_last (xs : List Int) (y : Int) : getI (xs ++ [y]) xs.length = y := by simp [getI]
section
variable {p : Int} {ss : List (List Int)} {xs : List Int} {N : Nat}
theorem valsL_more {k : Nat} : ∀ K, k ≤ K → ∀ j, j < xs.length + k → getI (valsL p ss xs K) j = getI (valsL p ss xs k) j := by
  intro K
  induction K with
  | zero => intro hk j _; rw [show k = 0 by omega]
  | succ K ih =>
    intro hk j hj
    by_cases e : k = K + 1
    · rw [e]
    · simp only [valsL]
      rw [getI_left _ (by rw [valsL_len]; omega)]
      exact ih (by omega) j hj
theorem valsL_pre {a : Nat} (h : a < xs.length) (K : Nat) : getI (valsL p ss xs K) a = getI xs a := valsL_more (k := 0) K (Nat.zero_le _) a h
theorem valsL_new (h1 : xs.length ≤ N) (h2 : N ≤ xs.length) {k L R : Nat} {f : Int} (hk : k < ss.length) (hq : ss[k] = [(L : Int), (R : Int), f]) (hL : L < N + k) (hR : R < N + k) :
    getI (valsL p ss xs ss.length) (N + k) = (getI (valsL p ss xs ss.length) L + f * getI (valsL p ss xs ss.length) R).tmod p := by
  rw [valsL_more (k := k + 1) ss.length (by omega) (N + k) (by omega), valsL_more (k := k) ss.length (by omega) L (by omega), valsL_more (k := k) ss.length (by omega) R (by omega), valsL_step p xs hk, hq]
  have hl := valsL_len p ss xs k
  rw [show N + k = (valsL p ss xs k).length by omega, getI_last]
  rfl
/-- The nodes when the first a numbers are known. -/
def ndV (p : Int) (ss : List (List Int)) (xs : List Int) (N a : Nat) (j : Nat) : Nd := { ndOf N ss ss.length j with nu := if j < a then getI (valsL p ss xs ss.length) j else 0 }
theorem ndV_zero (p : Int) (ss : List (List Int)) (xs : List Int) (N j : Nat) : ndV p ss xs N 0 j = ndOf N ss ss.length j := by
  unfold ndV
  rw [if_neg (by omega)]
  rfl
theorem ndV_step {a : Nat} {y : Int} (hy : getI (valsL p ss xs ss.length) a = y) : ∀ j, updN (ndV p ss xs N a) a { ndOf N ss ss.length a with nu := y } j = ndV p ss xs N (a + 1) j := by
  intro j
  subst hy
  unfold updN ndV
  by_cases e : j = a
  · subst e
    rw [if_pos rfl, if_pos (by omega)]
  · rw [if_neg e]
    by_cases h : j < a
    · rw [if_pos h, if_pos (by omega)]
    · rw [if_neg h, if_neg (by omega)]
theorem ndV_nu {g a j : Nat} (h : j < a) : (ndC g (ndV p ss xs N a j))[4]? = some (.int .i64 (getI (valsL p ss xs ss.length) j)) := by
  unfold ndV
  rw [if_pos h]
  rfl
theorem ndV_in {g : Nat} (p : Int) (ss : List (List Int)) (xs : List Int) {a : Nat} (h : a < N) : (ndC g (ndV p ss xs N a a))[0]? = some (.pointer none) := by
  have h1 : lkN N ss ss.length a = none := by unfold lkN; rw [if_neg (by omega)]
  show some (ndP g ((lkN N ss ss.length a).map fun q => (k0 q).toNat)) = _
  rw [h1]
  rfl
theorem ndV_old {k L R : Nat} {f : Int} (hk : k < ss.length) (hq : ss[k] = [(L : Int), (R : Int), f]) : ndV p ss xs N (N + k) (N + k) = ⟨some L, some R, f, ((N + k : Nat) : Int), 0, getI (depsL N ss ss.length) (N + k), false⟩ := by
  have h1 : lkN N ss ss.length (N + k) = some [(L : Int), (R : Int), f] := by
    unfold lkN
    rw [if_pos (by omega), show N + k - N = k by omega, List.take_length, List.getElem?_eq_getElem hk, hq]
  unfold ndV ndOf
  rw [h1, if_neg (by omega)]
  rfl
end
theorem fill_app {xs : List Int} {j L : Nat} {y : Int} (hl : xs.length = j) (hj : j < L) : (xs ++ List.replicate (L - j) 0).set j y = (xs ++ [y]) ++ List.replicate (L - (j + 1)) 0 := by
  rw [List.set_append_right _ _ (by omega), hl, Nat.sub_self, show L - j = (L - (j + 1)) + 1 by omega, List.replicate_succ, List.set_cons_zero, List.append_assoc]
  rfl
theorem wp_make_I {o : Oper} {a : Act} {w : World} {K : Act → World → Prop} {Q : Exit → Act → World → Prop} (d : Option Tmp) (hd : o.dst = d) (l c : Operand) (hop : o.op = Op.makeSlice 46 l c)
    (n : Nat) (hl : a.eval l = .int .i64 n) (hc : a.eval c = .int .i64 n) (hb : n ≤ 1000000)
    (h : ∀ w', New w w' (.cells (iar (List.replicate n 0)) 2 (0, 0)) → K (a.put d (.slice (some ⟨w.heap.size, 0, none⟩) n n)) w') : Oper.wp Try.prog o a w K Q := by
  subst hd
  obtain ⟨i, hi0, hz, h1, h2⟩ := info_parts infoI64
  have hr := run_make (P := Try.prog) w 46 2 i _ Try.underlying46 hi0 hz .i64 .i64 n n (by omega) (Int.le_refl _) (by rw [h2]; omega) (by omega)
  have hzc : (Value.int .i64 0).cells = #[Value.int .i64 0] := rfl
  simp only [Int.toNat_natCast, h1, hzc, made_one, iar_zero] at hr
  unfold Oper.wp
  simp [execOp, hop, hl, hc, hr, Result.andThen]
  exact h _ (New.alloc _ _)
set_option maxHeartbeats 25600000 in
theorem outputsFor_c (p : Int) (N M : Nat) (As Ao : Option Addr) (cs co : Nat) (ss os : List (List Int)) (w : World) (Ax : Option Addr) (cx : Nat) (xs : List Int) (hs : RdK 3 w As ss) (ho : RdK 2 w Ao os) (hx : RdI w Ax xs) (hpr : progB p (N : Int) ss os = true) (hxn : xs.length = N) (hxb : NumsP p xs) (hM : N + ss.length = M) :
    Calls Try.prog 47 #[.agg #[.int .i64 p, .int .i64 (N : Int), .slice As ss.length cs, .slice Ao os.length co], .slice Ax xs.length cx] w (fun e w' => ∃ v, e = .returned v ∧ OwnI w' w.heap.size v (runL p ss os xs) ∧ Below w.heap.size w w') := by
  have hB := Below.refl w.heap.size w
  have hpp := progB_parts hpr
  have hp5 := primeB_bounds hpp.1
  have hn9 := hpp.2.1
  have hN9 : N ≤ 30 := by omega
  have hl9 := hpp.2.2.1
  have ho9 := hpp.2.2.2.1
  have hM1 : N + ss.length ≤ M := by omega
  have hM2 : M ≤ N + ss.length := by omega
  have hxa : xs.length ≤ N := by omega
  have hxb2 : N ≤ xs.length := by omega
  have HSt := Lib.hid (fun k (hk : k < ss.length) => stp_at hs.good hpr hk)
  have HSt2 : Hid (∀ k (hk : k < ss.length), ∃ (L R : Nat) (f : Int), ss[k] = [(L : Int), (R : Int), f] ∧ L < N + k ∧ R < N + k ∧ L ≠ R) := Lib.hid (fun k hk => by obtain ⟨L, R, f, hq, h1, h2, h3, _⟩ := HSt.out k hk; exact ⟨L, R, f, hq, by omega, by omega, h3⟩)
  have HOt := Lib.hid (fun j (hj : j < os.length) => otp_at ho.good hpr hj)
  have HV : Hid (∀ k, k ≤ ss.length → NumsP p (valsL p ss xs k)) := Lib.hid (valsL_nums hpr hs.good hxb)
  clear hxn hpr hpp hxb hM
  go_enter Try.func47, Try.ntmps47
  go_upto_region 0 with (fail)
  refine wp_region_lit ?_
  refine ls_op rfl (fun K' hK' => ?_)
  have lz1 := hB.size
  refine wp_new (some 2) rfl (exec_box 36 _ rfl (#[.int .i64 p, .int .i64 (N : Int), .slice As ss.length cs, .slice Ao os.length co]) rfl) (fun Wz2 nnz3 => ?_)
  have bz4 := nnz3.below (Below.refl _ _) (Nat.le_refl _)
  replace hB := below_after hB bz4
  have hz5 : At Wz2 w.heap.size (.cells #[.int .i64 p, .int .i64 (N : Int), .slice As ss.length cs, .slice Ao os.length co] 36 (0, 0)) := nnz3.at_
  refine hK' _ _ ?_
  clear hK' K' nnz3 bz4
  go_frame
  refine ls_ex (some 4) (.slice none 0 0) rfl rfl (exec_assign _ rfl (.slice none 0 0) rfl) ?_
  go_frame
  refine wpList_nil ?_
  go_upto_region 1 with (fail)
  refine wp_region_lit ?_
  refine ls_ex (some 11) (.agg #[.int .i64 p, .int .i64 (N : Int), .slice As ss.length cs, .slice Ao os.length co]) rfl rfl (exec_load_all 36 _ rfl w.heap.size rfl _ _ _ hz5 Try.underlying36 rfl 4 (by kernel_rfl) rfl) ?_
  go_frame
  refine ls_op rfl (fun K' hK' => ?_)
  have lz8 := hB.size
  have lz9 := hz5.lt
  refine wp_call1 (some 12) rfl 50 _ _ rfl (fun args w => by kernel_rfl) _ rfl _ (nodesOf_c p N M As Ao cs co ss os _ (hs.keep hB) hM1 hM2 hN9 hl9 HSt2.out) (fun e Wz6 h => ?_)
  obtain ⟨g5, rfl, hg5, hN, bz7⟩ := h
  replace hB := below_after hB bz7
  replace hz5 := hz5.after bz7
  clear bz7
  refine ⟨_, rfl, ?_⟩
  refine hK' _ _ ?_
  clear hK' K'
  go_frame
  refine ls_ex (some 5) (.slice (some ⟨g5, 0, none⟩) M M) rfl rfl (exec_assign _ rfl (.slice (some ⟨g5, 0, none⟩) M M) rfl) ?_
  go_frame
  refine wpList_nil ?_
  go_upto_region 2 with (fail)
  refine wp_region_lit ?_
  refine ls_ex (some 13) (.slice (some ⟨g5, 0, none⟩) M M) rfl rfl (exec_move _ rfl (.slice (some ⟨g5, 0, none⟩) M M) rfl) ?_
  go_frame
  refine ls_ex (some 14) (.int .i64 M) rfl rfl (exec_len _ 73 77 rfl ((some ⟨g5, 0, none⟩)) M M rfl Try.underlying73) ?_
  go_frame
  refine ls_ex (some 15) (.int .i64 0) rfl rfl (exec_move _ rfl (.int .i64 0) rfl) ?_
  go_frame
  refine wpList_nil ?_
  go_wp2_with fail
  go_loopw [15] (fun s15 wr => ∃ a : Nat, a ≤ M ∧ s15 = .int .i64 a ∧ Below w.heap.size w wr ∧ At wr w.heap.size (.cells #[.int .i64 p, .int .i64 (N : Int), .slice As ss.length cs, .slice Ao os.length co] 36 (0, 0)) ∧ At wr g5 (.cells (ndArr g5 M (ndV p ss xs N a)) 77 (0, 0))) (fun s15 _ => M - (intOf s15).toNat)
  case atStart => exact ⟨0, by omega, rfl, hB, hz5, by have h9 := hN; rwa [← ndArr_congr (fun j _ => ndV_zero p ss xs N j)] at h9⟩
  case round =>
    clear hB hz5 hN
    obtain ⟨a, ha, rfl, hB, h0, hN⟩ := hrel
    by_cases hlt : a < M
    · by_cases hin : a < N
      · obtain ⟨bx, offx, rfl, hcx⟩ := (hx.keep hB).at_ (i := a) (by omega)
        have Hcx := Lib.hid hcx
        clear hcx
        have hxa9 : a < xs.length := by omega
        have HS : Hid (∀ j, updN (ndV p ss xs N a) a { ndOf N ss ss.length a with nu := getI xs a } j = (ndV p ss xs N (a + 1)) j) := Lib.hid (ndV_step (valsL_pre hxa9 _))
        have Hl : Hid ((ndC g5 ((ndV p ss xs N a) a))[0]? = some (.pointer none)) := Lib.hid (by rw [ndV_in _ _ _ (show a < N by omega)])
        go_upto_region 3 with (fail)
        refine wp_region_lit ?_
        refine ls_ex (some 16) (.bool true) rfl rfl (exec_lss _ _ _ _ rfl a M rfl rfl true (decide_eq_true (by omega))) ?_
        go_frame
        refine wpList_nil ?_
        go_upto_region 4 with (fail)
        refine wp_region_lit ?_
        refine ls_ex (some 17) (.int .i64 a) rfl rfl (exec_move _ rfl (.int .i64 a) rfl) ?_
        go_frame
        refine ls_ex (some 6) (.int .i64 a) rfl rfl (exec_assign _ rfl (.int .i64 a) rfl) ?_
        go_frame
        refine wpList_nil ?_
        go_upto_region 5 with (fail)
        refine wp_region_lit ?_
        refine ls_ex (some 18) (.slice (some ⟨g5, 0, none⟩) M M) rfl rfl (exec_move _ rfl (.slice (some ⟨g5, 0, none⟩) M M) rfl) ?_
        go_frame
        refine ls_ex (some 19) (.int .i64 a) rfl rfl (exec_move _ rfl (.int .i64 a) rfl) ?_
        go_frame
        refine ls_ex (some 20) (.pointer (some ⟨g5, a * 7, none⟩)) rfl rfl (exec_ix0 _ 77 _ _ rfl g5 M M a 7 rfl rfl Try.underlying73 (by kernel_rfl) (by omega)) ?_
        go_frame
        refine ls_ex (some 7) (.pointer (some ⟨g5, a * 7, none⟩)) rfl rfl (exec_assign _ rfl (.pointer (some ⟨g5, a * 7, none⟩)) rfl) ?_
        go_frame
        refine wpList_nil ?_
        go_upto_region 6 with (fail)
        refine wp_region_lit ?_
        refine ls_ex (some 21) (.pointer (some ⟨g5, a * 7, none⟩)) rfl rfl (exec_move _ rfl (.pointer (some ⟨g5, a * 7, none⟩)) rfl) ?_
        go_frame
        refine ls_op rfl (fun K' hK' => ?_)
        have lz12 := hB.size
        have lz13 := h0.lt
        have lz14 := hN.lt
        refine wp_call1 (some 22) rfl 58 _ _ rfl (fun args w => by kernel_rfl) _ rfl _ (isInput_yes g5 (a * 7) _ (nd_cell hN (show a < M by omega) 0 (by omega) _ Hl.out)) (fun e Wz10 h => ?_)
        obtain ⟨rfl, rfl⟩ := h
        refine ⟨_, rfl, ?_⟩
        refine hK' _ _ ?_
        clear hK' K'
        go_frame
        refine wpList_nil ?_
        go_upto_region 7 with (fail)
        refine wp_region_lit ?_
        refine ls_ex (some 23) (.pointer (some ⟨g5, a * 7, none⟩)) rfl rfl (exec_move _ rfl (.pointer (some ⟨g5, a * 7, none⟩)) rfl) ?_
        go_frame
        refine ls_ex (some 24) (.slice (some ⟨bx, offx, none⟩) xs.length cx) rfl rfl (exec_move _ rfl (.slice (some ⟨bx, offx, none⟩) xs.length cx) rfl) ?_
        go_frame
        refine ls_ex (some 25) (.int .i64 a) rfl rfl (exec_move _ rfl (.int .i64 a) rfl) ?_
        go_frame
        refine ls_ex (some 26) (.pointer (some ⟨bx, offx + a * 1, none⟩)) rfl rfl (exec_index_slice _ 2 _ _ rfl bx offx xs.length cx a 1 rfl rfl Try.underlying46 (by kernel_rfl) (by omega)) ?_
        go_frame
        refine ls_ex (some 27) (.int .i64 (getI xs a)) rfl rfl (exec_load_one 2 _ rfl bx (offx + a * 1) rfl (.int .i64 (getI xs a)) _ Try.underlying2 rfl (by rw [Nat.mul_one, getI_at hxa9]; exact Hcx.out)) ?_
        go_frame
        refine ls_ex (some 28) (.pointer (some ⟨g5, a * 7, none⟩)) rfl rfl (exec_nilCheck _ rfl ⟨g5, a * 7, none⟩ rfl) ?_
        go_frame
        refine ls_ex (some 29) (.pointer (some ⟨g5, a * 7 + 4, none⟩)) rfl rfl (exec_fieldAddr 77 _ 4 rfl _ (by kernel_rfl)) ?_
        go_frame
        refine ls_op rfl (fun K' hK' => ?_)
        refine wp_store_nd 2 _ _ rfl rfl g5 M a 4 ((ndV p ss xs N a)) { ndOf N ss ss.length a with nu := getI xs a } rfl (.int .i64 (getI xs a)) rfl _ hN (by kernel_rfl) (by omega) (by omega) (rfl) (by simp [ndC, ndP]) (fun Wz15 pz16 => ?_)
        replace hB := pz16.below hB (by omega)
        replace h0 := pz16.other h0 (by omega)
        replace hN : At Wz15 g5 (.cells (ndArr g5 M (updN ((ndV p ss xs N a)) a { ndOf N ss ss.length a with nu := getI xs a })) 77 (0, 0)) := pz16.at_
        refine hK' _ _ ?_
        clear hK' K' pz16
        refine wpList_nil ?_
        go_upto_region 9 with (fail)
        refine wp_region_lit ?_
        refine ls_ex (some 56) (.int .i64 (a + 1)) rfl rfl (exec_add _ _ _ _ rfl a 1 (a + 1) rfl rfl (IntWalk.i64_in _ (by omega))) ?_
        go_frame
        refine ls_ex (some 15) (.int .i64 (a + 1)) rfl rfl (exec_move _ rfl (.int .i64 (a + 1)) rfl) ?_
        go_frame
        refine wpList_nil ?_
        go_wp2_with fail
        go_roundw
        case rel => exact ⟨a + 1, by omega, by go_num, hB, h0, by have h9 := hN; rwa [ndArr_congr (fun j _ => HS.out j)] at h9⟩
        case measure => simp [intOf]; omega
      · obtain ⟨k, rfl⟩ : ∃ k, a = N + k := ⟨a - N, by omega⟩
        have hks : k < ss.length := by omega
        obtain ⟨L, R, f, hq, hL, hR, _, hf1, hf2⟩ := HSt.out k hks
        have hLk : L < N + k := by omega
        have hRk : R < N + k := by omega
        have hvL := (HV.out ss.length (Nat.le_refl _)) L
        have hvR := (HV.out ss.length (Nat.le_refl _)) R
        have hm := mul25 hp5.2 (show 0 ≤ f by omega) (show f < p by omega) hvR.1 hvR.2
        obtain ⟨y, hy⟩ : ∃ y, (getI (valsL p ss xs ss.length) L + f * getI (valsL p ss xs ss.length) R).tmod p = y := ⟨_, rfl⟩
        have Hy := Lib.hid hy
        have hyv : getI (valsL p ss xs ss.length) (N + k) = y := by rw [← hy]; exact valsL_new hxa hxb2 hks hq hLk hRk
        have HS : Hid (∀ j, updN (ndV p ss xs N (N + k)) (N + k) { ndOf N ss ss.length (N + k) with nu := y } j = (ndV p ss xs N (N + k + 1)) j) := Lib.hid (ndV_step hyv)
        have Hx : Hid ((ndV p ss xs N (N + k)) (N + k) = ⟨some L, some R, f, ((N + k : Nat) : Int), 0, getI (depsL N ss ss.length) (N + k), false⟩) := Lib.hid (ndV_old hks hq)
        have Hl : Hid ((ndC g5 ((ndV p ss xs N (N + k)) (N + k)))[0]? = some (.pointer (some ⟨g5, L * 7, none⟩))) := Lib.hid (by rw [Hx.out]; rfl)
        clear hq hy hyv
        go_upto_region 3 with (fail)
        refine wp_region_lit ?_
        refine ls_ex (some 16) (.bool true) rfl rfl (exec_lss _ _ _ _ rfl (((N + k : Nat) : Int)) M rfl rfl true (decide_eq_true (by omega))) ?_
        go_frame
        refine wpList_nil ?_
        go_upto_region 4 with (fail)
        refine wp_region_lit ?_
        refine ls_ex (some 17) (.int .i64 ((N + k : Nat) : Int)) rfl rfl (exec_move _ rfl (.int .i64 ((N + k : Nat) : Int)) rfl) ?_
        go_frame
        refine ls_ex (some 6) (.int .i64 ((N + k : Nat) : Int)) rfl rfl (exec_assign _ rfl (.int .i64 ((N + k : Nat) : Int)) rfl) ?_
        go_frame
        refine wpList_nil ?_
        go_upto_region 5 with (fail)
        refine wp_region_lit ?_
        refine ls_ex (some 18) (.slice (some ⟨g5, 0, none⟩) M M) rfl rfl (exec_move _ rfl (.slice (some ⟨g5, 0, none⟩) M M) rfl) ?_
        go_frame
        refine ls_ex (some 19) (.int .i64 ((N + k : Nat) : Int)) rfl rfl (exec_move _ rfl (.int .i64 ((N + k : Nat) : Int)) rfl) ?_
        go_frame
        refine ls_ex (some 20) (.pointer (some ⟨g5, ((N + k)) * 7, none⟩)) rfl rfl (exec_ix0 _ 77 _ _ rfl g5 M M ((N + k)) 7 rfl rfl Try.underlying73 (by kernel_rfl) (by omega)) ?_
        go_frame
        refine ls_ex (some 7) (.pointer (some ⟨g5, ((N + k)) * 7, none⟩)) rfl rfl (exec_assign _ rfl (.pointer (some ⟨g5, ((N + k)) * 7, none⟩)) rfl) ?_
        go_frame
        refine wpList_nil ?_
        go_upto_region 6 with (fail)
        refine wp_region_lit ?_
        refine ls_ex (some 21) (.pointer (some ⟨g5, ((N + k)) * 7, none⟩)) rfl rfl (exec_move _ rfl (.pointer (some ⟨g5, ((N + k)) * 7, none⟩)) rfl) ?_
        go_frame
        refine ls_op rfl (fun K' hK' => ?_)
        have lz19 := hB.size
        have lz20 := h0.lt
        have lz21 := hN.lt
        refine wp_call1 (some 22) rfl 58 _ _ rfl (fun args w => by kernel_rfl) _ rfl _ (isInput_no g5 ((N + k) * 7) ⟨g5, L * 7, none⟩ _ (nd_cell hN (show (N + k) < M by omega) 0 (by omega) _ Hl.out)) (fun e Wz17 h => ?_)
        obtain ⟨rfl, rfl⟩ := h
        refine ⟨_, rfl, ?_⟩
        refine hK' _ _ ?_
        clear hK' K'
        go_frame
        refine wpList_nil ?_
        go_upto_region 8 with (fail)
        refine wp_region_y (zs := [26]) (S := fun w' => Below w.heap.size w w' ∧ At w' w.heap.size (.cells #[.int .i64 p, .int .i64 (N : Int), .slice As ss.length cs, .slice Ao os.length co] 36 (0, 0))) (S2 := fun w' => At w' g5 (.cells (ndArr g5 M (ndV p ss xs N (N + k))) 77 (0, 0))) (by kernel_rfl) ?_
        change wpAnyY _ _ _ _ _ _ _ _ _ _ (World.drew _)
        generalize hwdz22 : World.drew _ = wdz22
        replace hB : Below w.heap.size w wdz22 := by rw [← hwdz22]; exact hB.drew
        replace h0 : At wdz22 w.heap.size (.cells #[.int .i64 p, .int .i64 (N : Int), .slice As ss.length cs, .slice Ao os.length co] 36 (0, 0)) := by rw [← hwdz22]; exact h0
        replace hN : At wdz22 g5 (.cells (ndArr g5 M (ndV p ss xs N (N + k))) 77 (0, 0)) := by rw [← hwdz22]; exact hN
        clear hwdz22
        refine y_yield 0 (some 30) (.pointer (some ⟨g5, ((N + k)) * 7, none⟩)) rfl (by kernel_rfl) (by kernel_rfl) (by kernel_rfl) (fun _ _ _ h => h) rfl rfl ⟨hB, h0⟩ (fun w' h' => exec_move _ rfl (.pointer (some ⟨g5, ((N + k)) * 7, none⟩)) rfl) ?_
        go_frame
        refine y_yield 1 (some 31) (.pointer (some ⟨g5, ((N + k)) * 7, none⟩)) rfl (by kernel_rfl) (by kernel_rfl) (by kernel_rfl) (fun _ _ _ h => h) rfl rfl ⟨hB, h0⟩ (fun w' h' => exec_move _ rfl (.pointer (some ⟨g5, ((N + k)) * 7, none⟩)) rfl) ?_
        go_frame
        refine y_yield 2 (some 32) (.pointer (some ⟨g5, ((N + k)) * 7, none⟩)) rfl (by kernel_rfl) (by kernel_rfl) (by kernel_rfl) (fun _ _ _ h => h) rfl rfl ⟨hB, h0⟩ (fun w' h' => exec_nilCheck _ rfl ⟨g5, ((N + k)) * 7, none⟩ rfl) ?_
        go_frame
        refine y_yield 3 (some 33) (.pointer (some ⟨g5, ((N + k)) * 7, none⟩)) rfl (by kernel_rfl) (by kernel_rfl) (by kernel_rfl) (fun _ _ _ h => h) rfl rfl ⟨hB, h0⟩ (fun w' h' => exec_fieldAddr 77 _ 0 rfl _ (by kernel_rfl)) ?_
        go_frame
        refine y_yield3 4 (some 34) (.pointer (some ⟨g5, L * 7, none⟩)) rfl 27 (by kernel_rfl) (by kernel_rfl) (by kernel_rfl) (by kernel_rfl) (by kernel_rfl) (fun _ _ _ h => h) rfl rfl ⟨hB, h0⟩ hN (fun w' h' h2' => exec_load_one 75 _ rfl g5 ((N + k) * 7) rfl (.pointer (some ⟨g5, L * 7, none⟩)) _ Try.underlying75 rfl (nd_cell h2' (show N + k < M by omega) 0 (by omega) _ (by rw [Hx.out]; rfl))) ?_
        go_frame
        refine y_yield 5 (some 35) (.pointer (some ⟨g5, L * 7, none⟩)) rfl (by kernel_rfl) (by kernel_rfl) (by kernel_rfl) (fun _ _ _ h => h) rfl rfl ⟨hB, h0⟩ (fun w' h' => exec_nilCheck _ rfl ⟨g5, L * 7, none⟩ rfl) ?_
        go_frame
        refine y_yield 6 (some 36) (.pointer (some ⟨g5, L * 7 + 4, none⟩)) rfl (by kernel_rfl) (by kernel_rfl) (by kernel_rfl) (fun _ _ _ h => h) rfl rfl ⟨hB, h0⟩ (fun w' h' => exec_fieldAddr 77 _ 4 rfl _ (by kernel_rfl)) ?_
        go_frame
        refine y_yield3 7 (some 37) (.int .i64 (getI (valsL p ss xs ss.length) L)) rfl 27 (by kernel_rfl) (by kernel_rfl) (by kernel_rfl) (by kernel_rfl) (by kernel_rfl) (fun _ _ _ h => h) rfl rfl ⟨hB, h0⟩ hN (fun w' h' h2' => exec_load_one 2 _ rfl g5 (L * 7 + 4) rfl (.int .i64 (getI (valsL p ss xs ss.length) L)) _ Try.underlying2 rfl (nd_cell h2' (show L < M by omega) 4 (by omega) _ (ndV_nu hLk))) ?_
        go_frame
        refine y_yield 8 (some 38) (.pointer (some ⟨g5, ((N + k)) * 7, none⟩)) rfl (by kernel_rfl) (by kernel_rfl) (by kernel_rfl) (fun _ _ _ h => h) rfl rfl ⟨hB, h0⟩ (fun w' h' => exec_move _ rfl (.pointer (some ⟨g5, ((N + k)) * 7, none⟩)) rfl) ?_
        go_frame
        refine y_yield 9 (some 39) (.pointer (some ⟨g5, ((N + k)) * 7, none⟩)) rfl (by kernel_rfl) (by kernel_rfl) (by kernel_rfl) (fun _ _ _ h => h) rfl rfl ⟨hB, h0⟩ (fun w' h' => exec_nilCheck _ rfl ⟨g5, ((N + k)) * 7, none⟩ rfl) ?_
        go_frame
        refine y_yield 10 (some 40) (.pointer (some ⟨g5, ((N + k)) * 7 + 2, none⟩)) rfl (by kernel_rfl) (by kernel_rfl) (by kernel_rfl) (fun _ _ _ h => h) rfl rfl ⟨hB, h0⟩ (fun w' h' => exec_fieldAddr 77 _ 2 rfl _ (by kernel_rfl)) ?_
        go_frame
        refine y_yield3 11 (some 41) (.int .i64 f) rfl 27 (by kernel_rfl) (by kernel_rfl) (by kernel_rfl) (by kernel_rfl) (by kernel_rfl) (fun _ _ _ h => h) rfl rfl ⟨hB, h0⟩ hN (fun w' h' h2' => exec_load_one 2 _ rfl g5 ((N + k) * 7 + 2) rfl (.int .i64 f) _ Try.underlying2 rfl (nd_cell h2' (show N + k < M by omega) 2 (by omega) _ (by rw [Hx.out]; rfl))) ?_
        go_frame
        refine y_yield 12 (some 42) (.pointer (some ⟨g5, ((N + k)) * 7, none⟩)) rfl (by kernel_rfl) (by kernel_rfl) (by kernel_rfl) (fun _ _ _ h => h) rfl rfl ⟨hB, h0⟩ (fun w' h' => exec_move _ rfl (.pointer (some ⟨g5, ((N + k)) * 7, none⟩)) rfl) ?_
        go_frame
        refine y_yield 13 (some 43) (.pointer (some ⟨g5, ((N + k)) * 7, none⟩)) rfl (by kernel_rfl) (by kernel_rfl) (by kernel_rfl) (fun _ _ _ h => h) rfl rfl ⟨hB, h0⟩ (fun w' h' => exec_nilCheck _ rfl ⟨g5, ((N + k)) * 7, none⟩ rfl) ?_
        go_frame
        refine y_yield 14 (some 44) (.pointer (some ⟨g5, ((N + k)) * 7 + 1, none⟩)) rfl (by kernel_rfl) (by kernel_rfl) (by kernel_rfl) (fun _ _ _ h => h) rfl rfl ⟨hB, h0⟩ (fun w' h' => exec_fieldAddr 77 _ 1 rfl _ (by kernel_rfl)) ?_
        go_frame
        refine y_yield3 15 (some 45) (.pointer (some ⟨g5, R * 7, none⟩)) rfl 27 (by kernel_rfl) (by kernel_rfl) (by kernel_rfl) (by kernel_rfl) (by kernel_rfl) (fun _ _ _ h => h) rfl rfl ⟨hB, h0⟩ hN (fun w' h' h2' => exec_load_one 75 _ rfl g5 ((N + k) * 7 + 1) rfl (.pointer (some ⟨g5, R * 7, none⟩)) _ Try.underlying75 rfl (nd_cell h2' (show N + k < M by omega) 1 (by omega) _ (by rw [Hx.out]; rfl))) ?_
        go_frame
        refine y_yield 16 (some 46) (.pointer (some ⟨g5, R * 7, none⟩)) rfl (by kernel_rfl) (by kernel_rfl) (by kernel_rfl) (fun _ _ _ h => h) rfl rfl ⟨hB, h0⟩ (fun w' h' => exec_nilCheck _ rfl ⟨g5, R * 7, none⟩ rfl) ?_
        go_frame
        refine y_yield 17 (some 47) (.pointer (some ⟨g5, R * 7 + 4, none⟩)) rfl (by kernel_rfl) (by kernel_rfl) (by kernel_rfl) (fun _ _ _ h => h) rfl rfl ⟨hB, h0⟩ (fun w' h' => exec_fieldAddr 77 _ 4 rfl _ (by kernel_rfl)) ?_
        go_frame
        refine y_yield3 18 (some 48) (.int .i64 (getI (valsL p ss xs ss.length) R)) rfl 27 (by kernel_rfl) (by kernel_rfl) (by kernel_rfl) (by kernel_rfl) (by kernel_rfl) (fun _ _ _ h => h) rfl rfl ⟨hB, h0⟩ hN (fun w' h' h2' => exec_load_one 2 _ rfl g5 (R * 7 + 4) rfl (.int .i64 (getI (valsL p ss xs ss.length) R)) _ Try.underlying2 rfl (nd_cell h2' (show R < M by omega) 4 (by omega) _ (ndV_nu hRk))) ?_
        go_frame
        refine y_yield 19 (some 49) (.int .i64 (f * (getI (valsL p ss xs ss.length) R))) rfl (by kernel_rfl) (by kernel_rfl) (by kernel_rfl) (fun _ _ _ h => h) rfl rfl ⟨hB, h0⟩ (fun w' h' => exec_mul _ _ _ _ rfl f ((getI (valsL p ss xs ss.length) R)) (f * (getI (valsL p ss xs ss.length) R)) rfl rfl (IntWalk.i64_in _ (by omega))) ?_
        go_frame
        refine y_yield 20 (some 50) (.int .i64 ((getI (valsL p ss xs ss.length) L) + (f * (getI (valsL p ss xs ss.length) R)))) rfl (by kernel_rfl) (by kernel_rfl) (by kernel_rfl) (fun _ _ _ h => h) rfl rfl ⟨hB, h0⟩ (fun w' h' => exec_add _ _ _ _ rfl ((getI (valsL p ss xs ss.length) L)) ((f * (getI (valsL p ss xs ss.length) R))) ((getI (valsL p ss xs ss.length) L) + (f * (getI (valsL p ss xs ss.length) R))) rfl rfl (IntWalk.i64_in _ (by omega))) ?_
        go_frame
        refine y_yield 21 (some 51) (.pointer (some ⟨w.heap.size, 0, none⟩)) rfl (by kernel_rfl) (by kernel_rfl) (by kernel_rfl) (fun _ _ _ h => h) rfl rfl ⟨hB, h0⟩ (fun w' h' => exec_fieldAddr 36 _ 0 rfl _ (by kernel_rfl)) ?_
        go_frame
        refine y_yield 22 (some 52) (.int .i64 p) rfl (by kernel_rfl) (by kernel_rfl) (by kernel_rfl) (fun _ _ _ h => h) rfl rfl ⟨hB, h0⟩ (fun w' h' => exec_load_one 2 _ rfl w.heap.size 0 rfl (.int .i64 p) _ Try.underlying2 rfl (h'.2.at_ 0)) ?_
        go_frame
        refine y_yield 23 (some 53) (.int .i64 y) rfl (by kernel_rfl) (by kernel_rfl) (by kernel_rfl) (fun _ _ _ h => h) rfl rfl ⟨hB, h0⟩ (fun w' h' => exec_rem _ _ _ _ rfl (getI (valsL p ss xs ss.length) L + (f * getI (valsL p ss xs ss.length) R)) p y rfl rfl (by omega) Hy.out) ?_
        go_frame
        refine y_yield 24 (some 54) (.pointer (some ⟨g5, ((N + k)) * 7, none⟩)) rfl (by kernel_rfl) (by kernel_rfl) (by kernel_rfl) (fun _ _ _ h => h) rfl rfl ⟨hB, h0⟩ (fun w' h' => exec_nilCheck _ rfl ⟨g5, ((N + k)) * 7, none⟩ rfl) ?_
        go_frame
        refine y_yield 25 (some 55) (.pointer (some ⟨g5, ((N + k)) * 7 + 4, none⟩)) rfl (by kernel_rfl) (by kernel_rfl) (by kernel_rfl) (fun _ _ _ h => h) rfl rfl ⟨hB, h0⟩ (fun w' h' => exec_fieldAddr 77 _ 4 rfl _ (by kernel_rfl)) ?_
        go_frame
        refine y_oper 26 (by kernel_rfl) rfl rfl (fun K' hK' => ?_)
        refine wp_store_nd 2 _ _ rfl rfl g5 M ((N + k)) 4 ((ndV p ss xs N (N + k))) { ndOf N ss ss.length (N + k) with nu := y } rfl (.int .i64 y) rfl _ hN (by kernel_rfl) (by omega) (by omega) (rfl) (by simp [ndC, ndP]) (fun Wz23 pz24 => ?_)
        replace hB := pz24.below hB (by omega)
        replace h0 := pz24.other h0 (by omega)
        replace hN : At Wz23 g5 (.cells (ndArr g5 M (updN ((ndV p ss xs N (N + k))) ((N + k)) { ndOf N ss ss.length (N + k) with nu := y })) 77 (0, 0)) := pz24.at_
        refine hK' _ _ ⟨hB, h0⟩ (fun h => absurd (by decide) h) ?_
        clear hK' K' pz24
        refine y_done (by kernel_rfl) ?_ _
        go_upto_region 9 with (fail)
        refine wp_region_lit ?_
        refine ls_ex (some 56) (.int .i64 ((N + k + 1 : Nat) : Int)) rfl rfl (exec_add _ _ _ _ rfl ((N + k : Nat) : Int) 1 ((N + k + 1 : Nat) : Int) rfl rfl (by rw [IntWalk.i64_in _ (by omega)]; omega)) ?_
        go_frame
        refine ls_ex (some 15) (.int .i64 ((N + k + 1 : Nat) : Int)) rfl rfl (exec_move _ rfl (.int .i64 ((N + k + 1 : Nat) : Int)) rfl) ?_
        go_frame
        refine wpList_nil ?_
        go_wp2_with fail
        go_roundw
        case rel => exact ⟨N + k + 1, by omega, by go_num, hB, h0, by have h9 := hN; rwa [ndArr_congr (fun j _ => HS.out j)] at h9⟩
        case measure => simp [intOf]; omega
    · have hN2 : At wr g5 (.cells (ndArr g5 M (ndV p ss xs N M)) 77 (0, 0)) := by have h9 := hN; rwa [show a = M by omega] at h9
      clear hN
      go_upto_region 3 with (fail)
      refine wp_region_lit ?_
      refine ls_ex (some 16) (.bool false) rfl rfl (exec_lss _ _ _ _ rfl a M rfl rfl false (decide_eq_false (by omega))) ?_
      go_frame
      refine wpList_nil ?_
      go_upto_region 10 with (fail)
      refine wp_region_lit ?_
      refine ls_ex (some 57) (.pointer (some ⟨w.heap.size, 3, none⟩)) rfl rfl (exec_fieldAddr 36 _ 3 rfl _ (by kernel_rfl)) ?_
      go_frame
      refine ls_ex (some 58) (.slice Ao os.length co) rfl rfl (exec_load_one 34 _ rfl w.heap.size 3 rfl (.slice Ao os.length co) _ Try.underlying34 rfl (h0.at_ 3)) ?_
      go_frame
      refine ls_ex (some 59) (.int .i64 os.length) rfl rfl (exec_len _ 34 61 rfl Ao os.length co rfl Try.underlying34) ?_
      go_frame
      refine ls_op rfl (fun K' hK' => ?_)
      have lz25 := hB.size
      have lz26 := h0.lt
      have lz27 := hN2.lt
      refine wp_make_I (some 60) rfl _ _ rfl os.length rfl rfl (by omega) (fun Wz28 nnz29 => ?_)
      have bz30 := nnz29.below (Below.refl _ _) (Nat.le_refl _)
      replace hB := below_after hB bz30
      replace h0 := h0.after bz30
      replace hN2 := hN2.after bz30
      have hO : At Wz28 wr.heap.size (.cells (iar (List.replicate os.length 0)) 2 (0, 0)) := nnz29.at_
      refine hK' _ _ ?_
      clear hK' K' nnz29 bz30
      go_frame
      refine ls_ex (some 8) (.slice (some ⟨wr.heap.size, 0, none⟩) os.length os.length) rfl rfl (exec_assign _ rfl (.slice (some ⟨wr.heap.size, 0, none⟩) os.length os.length) rfl) ?_
      go_frame
      refine wpList_nil ?_
      go_upto_region 11 with (fail)
      refine wp_region_lit ?_
      refine ls_ex (some 61) (.pointer (some ⟨w.heap.size, 3, none⟩)) rfl rfl (exec_fieldAddr 36 _ 3 rfl _ (by kernel_rfl)) ?_
      go_frame
      refine ls_ex (some 62) (.slice Ao os.length co) rfl rfl (exec_load_one 34 _ rfl w.heap.size 3 rfl (.slice Ao os.length co) _ Try.underlying34 rfl (h0.at_ 3)) ?_
      go_frame
      refine ls_ex (some 63) (.int .i64 os.length) rfl rfl (exec_len _ 34 61 rfl Ao os.length co rfl Try.underlying34) ?_
      go_frame
      refine ls_ex (some 64) (.int .i64 0) rfl rfl (exec_move _ rfl (.int .i64 0) rfl) ?_
      go_frame
      refine wpList_nil ?_
      go_wp2_with fail
      have hlo := hO.lt
      have hl5 := hN2.lt
      obtain ⟨we, rfl⟩ : ∃ x : World, x = wr := ⟨_, rfl⟩
      go_loopw [64] (fun s64 wr => ∃ j : Nat, j ≤ os.length ∧ s64 = .int .i64 j ∧ Below w.heap.size w wr ∧ At wr w.heap.size (.cells #[.int .i64 p, .int .i64 (N : Int), .slice As ss.length cs, .slice Ao os.length co] 36 (0, 0)) ∧ At wr g5 (.cells (ndArr g5 M (ndV p ss xs N M)) 77 (0, 0)) ∧ At wr we.heap.size (.cells (iar ((outsL p os (valsL p ss xs ss.length) j) ++ List.replicate (os.length - j) 0)) 2 (0, 0))) (fun s64 _ => os.length - (intOf s64).toNat)
      case atStart => exact ⟨0, by omega, rfl, hB, h0, hN2, by have h9 := hO; exact h9⟩
      case round =>
        clear hB h0 hN2 hO
        obtain ⟨j, hj, rfl, hB, h0, hN2, hO⟩ := hrel
        by_cases hlt : j < os.length
        · obtain ⟨b, off, rfl, hc⟩ := (ho.keep hB).at_ hlt
          clear hc
          obtain ⟨V, f, hq, hVl, hf1, hf2, _⟩ := HOt.out j hlt
          have Hq := Lib.hid hq
          have HS : Hid (outsL p os (valsL p ss xs ss.length) (j + 1) = (outsL p os (valsL p ss xs ss.length) j) ++ [outV p (valsL p ss xs ss.length) [(V : Int), f]]) := Lib.hid (by rw [outsL_step p _ hlt, hq])
          clear hq
          have hvV := (HV.out ss.length (Nat.le_refl _)) V
          have hm := mul25 hp5.2 (show 0 ≤ f by omega) (show f < p by omega) hvV.1 hvV.2
          go_upto_region 12 with (fail)
          refine wp_region_lit ?_
          refine ls_ex (some 65) (.bool true) rfl rfl (exec_lss _ _ _ _ rfl j os.length rfl rfl true (decide_eq_true (by omega))) ?_
          go_frame
          refine wpList_nil ?_
          go_upto_region 13 with (fail)
          refine wp_region_lit ?_
          refine ls_ex (some 66) (.int .i64 j) rfl rfl (exec_move _ rfl (.int .i64 j) rfl) ?_
          go_frame
          refine ls_ex (some 67) (.pointer (some ⟨b, off + j * 2, none⟩)) rfl rfl (exec_index_slice _ 61 _ _ rfl b off os.length co j 2 rfl rfl Try.underlying34 (by kernel_rfl) (by omega)) ?_
          go_frame
          refine ls_ex (some 68) (.agg #[.int .i64 (V : Int), .int .i64 f]) rfl rfl (exec_load_2 61 _ rfl b (off + j * 2) rfl (V : Int) f _ (RdK.cells_2 (ho.keep hB) hlt Hq.out) Try.underlying61 rfl (by kernel_rfl)) ?_
          go_frame
          refine ls_op rfl (fun K' hK' => ?_)
          have lz31 := hB.size
          have lz32 := h0.lt
          have lz33 := hN2.lt
          have lz34 := hO.lt
          refine wp_new (some 10) rfl (al_impl_Output rfl) (fun Wz35 nnz36 => ?_)
          have bz37 := nnz36.below (Below.refl _ _) (Nat.le_refl _)
          replace hB := below_after hB bz37
          replace h0 := h0.after bz37
          replace hN2 := hN2.after bz37
          replace hO := hO.after bz37
          have hz38 : At Wz35 wr.heap.size (.cells #[.int .i64 0, .int .i64 0] 61 (0, 0)) := nnz36.at_
          refine hK' _ _ ?_
          clear hK' K' nnz36 bz37
          go_frame
          refine ls_ex (some 9) (.int .i64 j) rfl rfl (exec_assign _ rfl (.int .i64 j) rfl) ?_
          go_frame
          refine ls_op rfl (fun K' hK' => ?_)
          refine wp_store_all 61 _ _ rfl rfl wr.heap.size rfl #[.int .i64 (V : Int), .int .i64 f] rfl _ _ hz38 2 (by kernel_rfl) rfl rfl (by intro x hx; simp at hx; rcases hx with rfl | rfl <;> rfl) (fun Wz39 pz40 => ?_)
          replace hB := pz40.below hB (by omega)
          replace h0 := pz40.other h0 (by omega)
          replace hN2 := pz40.other hN2 (by omega)
          replace hO := pz40.other hO (by omega)
          replace hz38 : At Wz39 wr.heap.size (.cells #[.int .i64 (V : Int), .int .i64 f] 61 (0, 0)) := pz40.at_
          refine hK' _ _ ?_
          clear hK' K' pz40
          refine wpList_nil ?_
          go_upto_region 14 with (fail)
          refine wp_region_y (zs := [15]) (S := fun w' => Below w.heap.size w w' ∧ At w' wr.heap.size (.cells #[.int .i64 (V : Int), .int .i64 f] 61 (0, 0)) ∧ At w' g5 (.cells (ndArr g5 M (ndV p ss xs N M)) 77 (0, 0)) ∧ At w' w.heap.size (.cells #[.int .i64 p, .int .i64 (N : Int), .slice As ss.length cs, .slice (some ⟨b, off, none⟩) os.length co] 36 (0, 0))) (S2 := fun w' => True) (by kernel_rfl) ?_
          change wpAnyY _ _ _ _ _ _ _ _ _ _ (World.drew _)
          generalize hwdz41 : World.drew _ = wdz41
          replace hB : Below w.heap.size w wdz41 := by rw [← hwdz41]; exact hB.drew
          replace h0 : At wdz41 w.heap.size (.cells #[.int .i64 p, .int .i64 (N : Int), .slice As ss.length cs, .slice (some ⟨b, off, none⟩) os.length co] 36 (0, 0)) := by rw [← hwdz41]; exact h0
          replace hN2 : At wdz41 g5 (.cells (ndArr g5 M (ndV p ss xs N M)) 77 (0, 0)) := by rw [← hwdz41]; exact hN2
          replace hO : At wdz41 we.heap.size (.cells (iar ((outsL p os (valsL p ss xs ss.length) j) ++ List.replicate (os.length - j) 0)) 2 (0, 0)) := by rw [← hwdz41]; exact hO
          replace hz38 : At wdz41 wr.heap.size (.cells #[.int .i64 (V : Int), .int .i64 f] 61 (0, 0)) := by rw [← hwdz41]; exact hz38
          clear hwdz41
          refine y_yield 0 (some 69) (.slice (some ⟨we.heap.size, 0, none⟩) os.length os.length) rfl (by kernel_rfl) (by kernel_rfl) (by kernel_rfl) (fun _ _ _ h => h) rfl rfl ⟨hB, hz38, hN2, h0⟩ (fun w' h' => exec_move _ rfl (.slice (some ⟨we.heap.size, 0, none⟩) os.length os.length) rfl) ?_
          go_frame
          refine y_yield 1 (some 70) (.int .i64 j) rfl (by kernel_rfl) (by kernel_rfl) (by kernel_rfl) (fun _ _ _ h => h) rfl rfl ⟨hB, hz38, hN2, h0⟩ (fun w' h' => exec_move _ rfl (.int .i64 j) rfl) ?_
          go_frame
          refine y_yield 2 (some 71) (.pointer (some ⟨wr.heap.size, 1, none⟩)) rfl (by kernel_rfl) (by kernel_rfl) (by kernel_rfl) (fun _ _ _ h => h) rfl rfl ⟨hB, hz38, hN2, h0⟩ (fun w' h' => exec_fieldAddr 61 _ 1 rfl _ (by kernel_rfl)) ?_
          go_frame
          refine y_yield 3 (some 72) (.int .i64 f) rfl (by kernel_rfl) (by kernel_rfl) (by kernel_rfl) (fun _ _ _ h => h) rfl rfl ⟨hB, hz38, hN2, h0⟩ (fun w' h' => exec_load_one 2 _ rfl wr.heap.size 1 rfl (.int .i64 f) _ Try.underlying2 rfl (h'.2.1.at_ 1)) ?_
          go_frame
          refine y_yield 4 (some 73) (.slice (some ⟨g5, 0, none⟩) M M) rfl (by kernel_rfl) (by kernel_rfl) (by kernel_rfl) (fun _ _ _ h => h) rfl rfl ⟨hB, hz38, hN2, h0⟩ (fun w' h' => exec_move _ rfl (.slice (some ⟨g5, 0, none⟩) M M) rfl) ?_
          go_frame
          refine y_yield 5 (some 74) (.pointer (some ⟨wr.heap.size, 0, none⟩)) rfl (by kernel_rfl) (by kernel_rfl) (by kernel_rfl) (fun _ _ _ h => h) rfl rfl ⟨hB, hz38, hN2, h0⟩ (fun w' h' => exec_fieldAddr 61 _ 0 rfl _ (by kernel_rfl)) ?_
          go_frame
          refine y_yield 6 (some 75) (.int .i64 (V : Int)) rfl (by kernel_rfl) (by kernel_rfl) (by kernel_rfl) (fun _ _ _ h => h) rfl rfl ⟨hB, hz38, hN2, h0⟩ (fun w' h' => exec_load_one 2 _ rfl wr.heap.size 0 rfl (.int .i64 (V : Int)) _ Try.underlying2 rfl (h'.2.1.at_ 0)) ?_
          go_frame
          refine y_yield 7 (some 76) (.pointer (some ⟨g5, V * 7, none⟩)) rfl (by kernel_rfl) (by kernel_rfl) (by kernel_rfl) (fun _ _ _ h => h) rfl rfl ⟨hB, hz38, hN2, h0⟩ (fun w' h' => exec_ix0 _ 77 _ _ rfl g5 M M V 7 rfl rfl Try.underlying73 (by kernel_rfl) (by omega)) ?_
          go_frame
          refine y_yield 8 (some 77) (.pointer (some ⟨g5, V * 7 + 4, none⟩)) rfl (by kernel_rfl) (by kernel_rfl) (by kernel_rfl) (fun _ _ _ h => h) rfl rfl ⟨hB, hz38, hN2, h0⟩ (fun w' h' => exec_fieldAddr 77 _ 4 rfl _ (by kernel_rfl)) ?_
          go_frame
          refine y_yield 9 (some 78) (.int .i64 (getI (valsL p ss xs ss.length) V)) rfl (by kernel_rfl) (by kernel_rfl) (by kernel_rfl) (fun _ _ _ h => h) rfl rfl ⟨hB, hz38, hN2, h0⟩ (fun w' h' => exec_load_one 2 _ rfl g5 (V * 7 + 4) rfl (.int .i64 (getI (valsL p ss xs ss.length) V)) _ Try.underlying2 rfl (nd_cell h'.2.2.1 (show V < M by omega) 4 (by omega) _ (ndV_nu (show V < M by omega)))) ?_
          go_frame
          refine y_yield 10 (some 79) (.int .i64 (f * (getI (valsL p ss xs ss.length) V))) rfl (by kernel_rfl) (by kernel_rfl) (by kernel_rfl) (fun _ _ _ h => h) rfl rfl ⟨hB, hz38, hN2, h0⟩ (fun w' h' => exec_mul _ _ _ _ rfl f ((getI (valsL p ss xs ss.length) V)) (f * (getI (valsL p ss xs ss.length) V)) rfl rfl (IntWalk.i64_in _ (by omega))) ?_
          go_frame
          refine y_yield 11 (some 80) (.pointer (some ⟨w.heap.size, 0, none⟩)) rfl (by kernel_rfl) (by kernel_rfl) (by kernel_rfl) (fun _ _ _ h => h) rfl rfl ⟨hB, hz38, hN2, h0⟩ (fun w' h' => exec_fieldAddr 36 _ 0 rfl _ (by kernel_rfl)) ?_
          go_frame
          refine y_yield 12 (some 81) (.int .i64 p) rfl (by kernel_rfl) (by kernel_rfl) (by kernel_rfl) (fun _ _ _ h => h) rfl rfl ⟨hB, hz38, hN2, h0⟩ (fun w' h' => exec_load_one 2 _ rfl w.heap.size 0 rfl (.int .i64 p) _ Try.underlying2 rfl (h'.2.2.2.at_ 0)) ?_
          go_frame
          refine y_yield 13 (some 82) (.int .i64 (outV p (valsL p ss xs ss.length) [(V : Int), f])) rfl (by kernel_rfl) (by kernel_rfl) (by kernel_rfl) (fun _ _ _ h => h) rfl rfl ⟨hB, hz38, hN2, h0⟩ (fun w' h' => exec_rem _ _ _ _ rfl (f * getI (valsL p ss xs ss.length) V) p _ rfl rfl (by omega) rfl) ?_
          go_frame
          refine y_yield 14 (some 83) (.pointer (some ⟨we.heap.size, j * 1, none⟩)) rfl (by kernel_rfl) (by kernel_rfl) (by kernel_rfl) (fun _ _ _ h => h) rfl rfl ⟨hB, hz38, hN2, h0⟩ (fun w' h' => exec_ix0 _ 2 _ _ rfl we.heap.size os.length os.length j 1 rfl rfl Try.underlying46 (by kernel_rfl) (by omega)) ?_
          go_frame
          refine y_oper 15 (by kernel_rfl) rfl rfl (fun K' hK' => ?_)
          refine wp_store_one 2 _ _ rfl rfl we.heap.size (j * 1) rfl (.int .i64 (outV p (valsL p ss xs ss.length) [(V : Int), f])) rfl rfl rfl _ _ hO (by kernel_rfl) (by rw [iar_size, List.length_append, outsL_len, List.length_replicate]; omega) (fun Wz42 pz43 => ?_)
          replace hB := pz43.below hB (by omega)
          replace h0 := pz43.other h0 (by omega)
          replace hN2 := pz43.other hN2 (by omega)
          replace hz38 := pz43.other hz38 (by omega)
          replace hO : At Wz42 we.heap.size (.cells (iar (((outsL p os (valsL p ss xs ss.length) j) ++ [outV p (valsL p ss xs ss.length) [(V : Int), f]]) ++ List.replicate (os.length - (j + 1)) 0)) 2 (0, 0)) := by have h9 := pz43.at_; rwa [Nat.mul_one, iar_set, fill_app (outsL_len _ _ _ _) hlt] at h9
          refine hK' _ _ ⟨hB, hz38, hN2, h0⟩ (fun h => absurd (by decide) h) ?_
          clear hK' K' pz43
          refine y_done (by kernel_rfl) ?_ _
          go_upto_region 15 with (fail)
          refine wp_region_lit ?_
          refine ls_ex (some 84) (.int .i64 (j + 1)) rfl rfl (exec_add _ _ _ _ rfl j 1 (j + 1) rfl rfl (IntWalk.i64_in _ (by omega))) ?_
          go_frame
          refine ls_ex (some 64) (.int .i64 (j + 1)) rfl rfl (exec_move _ rfl (.int .i64 (j + 1)) rfl) ?_
          go_frame
          refine wpList_nil ?_
          go_wp2_with fail
          go_roundw
          case rel => exact ⟨j + 1, by omega, by go_num, hB, h0, hN2, by rw [HS.out]; exact hO⟩
          case measure => simp [intOf]; omega
        · have hO2 : At wr we.heap.size (.cells (iar (runL p ss os xs)) 2 (0, 0)) := by have h9 := hO; rw [show j = os.length by omega, Nat.sub_self, List.replicate_zero, List.append_nil] at h9; exact h9
          clear hO
          go_upto_region 12 with (fail)
          refine wp_region_lit ?_
          refine ls_ex (some 65) (.bool false) rfl rfl (exec_lss _ _ _ _ rfl j os.length rfl rfl false (decide_eq_false (by omega))) ?_
          go_frame
          refine wpList_nil ?_
          go_upto_region 16 with (fail)
          refine wp_region_lit ?_
          refine ls_ex (some 85) (.slice (some ⟨we.heap.size, 0, none⟩) os.length os.length) rfl rfl (exec_move _ rfl (.slice (some ⟨we.heap.size, 0, none⟩) os.length os.length) rfl) ?_
          go_frame
          refine ls_ex (some 4) (.slice (some ⟨we.heap.size, 0, none⟩) os.length os.length) rfl rfl (exec_assign _ rfl (.slice (some ⟨we.heap.size, 0, none⟩) os.length os.length) rfl) ?_
          go_frame
          refine wpList_nil ?_
          go_wp2_with fail
          go_ret
          have hol := hO2.lt
          exact ⟨_, rfl, by have h9 := OwnI.of_at (lo := w.heap.size) hO2 (by omega) (by unfold runL; rw [outsL_len]; omega); rwa [show (runL p ss os xs).length = os.length by unfold runL; rw [outsL_len]] at h9, hB⟩
end Go.Proofs.Ytokmchadckcilaa
