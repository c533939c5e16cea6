/-
  impl.RestTensor. (Made by mkrt2.py.)
-/
import Derived.Test.YtdbcgbbokodndaaRq
namespace Go.Proofs.Ytdbcgbbokodndaa
open Go.RowKit
set_option maxRecDepth 100000
theorem wp_make_Iz {o : Oper} {a : Act} {w : World} {K : Act → World → Prop} {Q : Exit → Act → World → Prop} (d : Option Tmp) (hd : o.dst = d) (l c : Operand) (hop : o.op = Op.makeSlice 22 l c)
    (n : Nat) (hl : a.eval l = .int .i64 n) (hc : a.eval c = .int .i64 n) (hb : n ≤ 1000000)
    (h : ∀ w', New w w' (.cells (iar (List.replicate n 0)) 2 (0, 0)) → K (a.put d (.slice (some ⟨w.heap.size, 0, none⟩) n n)) w') : Oper.wp Try.prog o a w K Q := by
  subst hd
  obtain ⟨i, hi0, hz, h1, h2⟩ := info_parts infoI64
  have hr := run_make (P := Try.prog) w 22 2 i _ Try.underlying22 hi0 hz .i64 .i64 n n (by omega) (Int.le_refl _) (by rw [h2]; omega) (by omega)
  have hzc : (Value.int .i64 0).cells = #[Value.int .i64 0] := rfl
  simp only [Int.toNat_natCast, h1, hzc, made_one, iar_zero] at hr
  unfold Oper.wp
  simp [execOp, hop, hl, hc, hr, Result.andThen]
  exact h _ (New.alloc _ _)

theorem exec_buildRowR {o : Oper} {a : Act} {w : World} (x : Operand) (ho : o.op = .buildSlice 64 1 #[(0, x)]) (A1 : Option Addr) (n1 c1 : Nat) (hx : a.eval x = .slice A1 n1 c1) :
    (execOp a.eval o).run Try.prog w = .ok (.value (.slice (some ⟨w.heap.size, 0, none⟩) 1 1)) (w.alloc (.cells #[.slice A1 n1 c1] 22 (0, 0))) := by
  obtain ⟨i, hi0, hz, h1, h2⟩ := info_parts infoIS
  have h := run_buildSlice (P := Try.prog) w 64 22 1 #[(0, .slice A1 n1 c1)] #[.slice A1 n1 c1] i (.slice none 0 0) Try.underlying64 hi0 hz (by rw [h1]; omega) (by rw [h1]; omega) (by rw [h1]; kernel_rfl)
  unfold execOp
  simp [ho, hx, h]
theorem exec_mkfn1o {P : Program} {o : Oper} {a : Act} {w : World} (f : FuncId) (x : Operand) (ho : o.op = .makeFunc (.func f) #[] #[x]) (u : Value) (hx : a.eval x = u) : (execOp a.eval o).run P w = .ok (.value (.func (.func f) #[] #[u])) w := by
  subst hx
  unfold execOp
  simp only [ho]
  simp [go_sem]
theorem isBetweenT_c (a n b : Int) (w : World) : Calls Try.prog 44 #[.int .i64 a, .int .i64 n, .int .i64 b] w fun e w' => e = .returned (.bool (decide (a ≤ n) && decide (n ≤ b))) ∧ w = w' := by
  by_cases h : a ≤ n
  · have h1 : decide (a ≤ n) = true := by simp [h]
    go_enter Try.func44, Try.ntmps44
    go_wp2_with fail
    go_ret
    exact ⟨by simp [h], rfl⟩
  · have h1 : decide (a ≤ n) = false := by simp [h]
    go_enter Try.func44, Try.ntmps44
    go_wp2_with fail
    go_ret
    exact ⟨by simp, rfl⟩
theorem exec_build_boxT {o : Oper} {a : Act} {w : World} (x y z : Operand) (ho : o.op = .build 68 #[(0, x), (1, y), (2, z)]) (n m k : Int) (hx : a.eval x = .int .i64 n) (hy : a.eval y = .int .i64 m) (hz : a.eval z = .int .i64 k) :
    (execOp a.eval o).run Try.prog w = .ok (.value (.agg #[.int .i64 n, .int .i64 m, .int .i64 k])) w := by
  have hb : Try.prog.built 68 [(0, .int .i64 n), (1, .int .i64 m), (2, .int .i64 k)] = some #[.int .i64 n, .int .i64 m, .int .i64 k] := by kernel_rfl
  unfold execOp
  have := run_build (P := Try.prog) w 68 #[(0, .int .i64 n), (1, .int .i64 m), (2, .int .i64 k)] _ hb
  simp [ho, hx, hy, hz, this]

def tZ (code x : Int) : Int := if code = 0 then x else 0
def tL (code : Int) (l : List Int) : List Int := if code = 0 then l else []
theorem tL_len {code : Int} {l : List Int} {N : Nat} (h : code = 0 → l.length ≤ N) : (tL code l).length ≤ N := by
  unfold tL
  split
  · exact h (by assumption)
  · simp

/-- The rests of the powers of x; the first of them. -/
def restR (p : Int) (xs : List Int) (z : Nat) : List Int := Nat.rec ((List.replicate xs.length (0 : Int)).set 0 1) (fun _ r => stepR p xs r) z
theorem restR_zero (p : Int) (xs : List Int) : restR p xs 0 = (List.replicate xs.length (0 : Int)).set 0 1 := rfl
theorem restR_succ (p : Int) (xs : List Int) (z : Nat) : restR p xs (z + 1) = stepR p xs (restR p xs z) := rfl
theorem restR_len (p : Int) (xs : List Int) (z : Nat) : (restR p xs z).length = xs.length := by
  induction z with
  | zero => simp [restR_zero]
  | succ z ih => rw [restR_succ, stepR_len, ih]
theorem restR_in {p : Int} (hp : 2 ≤ p) (xs : List Int) (z : Nat) : inP p (restR p xs z) := by
  cases z with
  | zero =>
    intro x hx
    rw [restR_zero] at hx
    rcases List.mem_or_eq_of_mem_set hx with hx | rfl
    · have := List.eq_of_mem_replicate hx; omega
    · omega
  | succ z => rw [restR_succ]; exact stepR_in hp _ _
def restsL (p : Int) (xs : List Int) (z : Nat) : List (List Int) := (List.range z).map (restR p xs)
theorem restsL_len (p : Int) (xs : List Int) (z : Nat) : (restsL p xs z).length = z := by simp [restsL]
theorem restsL_get (p : Int) (xs : List Int) {z i : Nat} (h : i < z) : (restsL p xs z)[i]? = some (restR p xs i) := by simp [restsL, h]
theorem restsL_step (p : Int) (xs : List Int) (z : Nat) : restsL p xs z ++ [restR p xs z] = restsL p xs (z + 1) := by simp [restsL, List.range_succ]
theorem restsL_one (p : Int) (xs : List Int) : restsL p xs 1 = [restR p xs 0] := rfl
def rsF (p : Int) (xs : List Int) (i j k : Nat) : Int := (restR p xs (i + j))[k]?.getD 0
theorem rsF_get (p : Int) (xs : List Int) {i j k : Nat} (hk : k < xs.length) : (restR p xs (i + j))[k]? = some (rsF p xs i j k) := by
  unfold rsF
  rw [List.getElem?_eq_getElem (by rw [restR_len]; exact hk)]
  rfl
theorem rsF_nn {p : Int} (hp : 2 ≤ p) (xs : List Int) {i j k : Nat} (hk : k < xs.length) : 0 ≤ rsF p xs i j k := ((restR_in hp xs (i + j)).get (rsF_get p xs hk)).1
def rsB (p : Int) (xs : List Int) : Bool := primeB p && ((decide (1 ≤ (xs.length : Int)) && decide ((xs.length : Int) ≤ 4)) && numsB p xs)
def rsCode (p : Int) (xs : List Int) : Int := if rsB p xs = true then 0 else 2
def rsL (p : Int) (xs : List Int) : List Int := genL xs.length xs.length p (rsF p xs) (xs.length * xs.length * xs.length)
theorem rs_len {p : Int} {xs : List Int} : (tL (rsCode p xs) (rsL p xs)).length ≤ 1048576 := tL_len fun h => by
  unfold rsCode at h
  split at h
  · next h2 =>
    simp only [rsB, Bool.and_eq_true, decide_eq_true_eq] at h2
    have := places_729 (n0 := xs.length) (n1 := xs.length) (n2 := xs.length) (by omega) (by omega) (by omega)
    simp [rsL, genL]
    omega
  · omega
theorem rsB_parts {p : Int} {xs : List Int} (h : rsB p xs = true) : primeB p = true ∧ (1 ≤ xs.length ∧ xs.length ≤ 4) ∧ numsB p xs = true := by
  simp only [rsB, Bool.and_eq_true, decide_eq_true_eq] at h
  exact ⟨h.1, by omega, h.2.2⟩
theorem numsB_inP {p : Int} {xs : List Int} (h : numsB p xs = true) : inP p xs := fun x hx => by
  simp only [numsB, List.all_eq_true] at h
  have := h x hx
  simp [inB] at this
  omega
theorem OwnI.ne_lt9 {w : World} {lo g : Nat} {v : Value} {xs : List Int} (h : OwnI w lo v xs) (hg : g < lo) : some g ≠ v.ownBlock := fun e => by have := (h.lt e.symm).1; omega
theorem iarZ_nil (xs : List Int) : iarZ xs [] = iar xs := by simp [iarZ, iar]
theorem isListD_c (A : Option Addr) (c : Nat) (p : Int) (d : Nat) (xs : List Int) (w : World) (hr : RdI w A xs) (hd : xs.length = d) (hn : d ≤ 1048576) :
    Calls Try.prog 45 #[.int .i64 p, .int .i64 d, .slice A d c] w fun e w' => e = .returned (.bool (listB p d xs)) ∧ Below w.heap.size w w' := by
  subst hd
  exact isList_c A c p xs.length xs w hr hn
theorem listB_of {p : Int} {xs : List Int} (b : Bool) (h : numsB p xs = b) : listB p xs.length xs = b := by simp [listB, h]
theorem al_____int64 {o : Oper} {a : Act} {w : World} (ho : o.op = .alloc 64) : (execOp a.eval o).run Try.prog w = .ok (.value (.pointer (some ⟨w.heap.size, 0, none⟩))) (w.alloc (.cells #[.slice none 0 0] 64 (0, 0))) := by
  unfold execOp
  rw [ho]
  kernel_rfl
theorem al_impl_Tensor {o : Oper} {a : Act} {w : World} (ho : o.op = .alloc 31) : (execOp a.eval o).run Try.prog w = .ok (.value (.pointer (some ⟨w.heap.size, 0, none⟩))) (w.alloc (.cells #[.int .i64 0, .int .i64 0, .int .i64 0, .int .i64 0, .slice none 0 0] 31 (0, 0))) := by
  unfold execOp
  rw [ho]
  kernel_rfl
set_option maxHeartbeats 4000000 in
theorem rest1_c (i j k c0 lo b n c d g c1 : Nat) (vs : List Value) (R : List (List Int)) (q : List Int) (X : Int) (w : World) (hc : At w c0 (.cells #[.slice (some ⟨b, 0, none⟩) n c] 64 (0, 0))) (hQ : OwnQ w lo (.slice (some ⟨b, 0, none⟩) n c) d vs R) (hij : i + j < n) (hn : n ≤ 1000) (hk : k < d) (HV : Hid (vs[i + j]? = some (Value.slice (some ⟨g, 0, none⟩) d c1))) (HR : Hid (R[i + j]? = some q)) (HX : Hid (q[k]? = some X)) :
    Calls Try.prog 48 #[.int .i64 i, .int .i64 j, .int .i64 k, .pointer (some ⟨c0, 0, none⟩)] w (fun e w' => e = .returned (.int .i64 X) ∧ Below w.heap.size w w') := by
  have hB := Below.refl w.heap.size w
  skip
  go_enter Try.func48, Try.ntmps48
  go_upto_region 0 with (fail)
  refine wp_region_lit ?_
  refine ls_ex (some 7) (.int .i64 0) rfl rfl (exec_assign _ rfl (.int .i64 0) rfl) ?_
  go_frame
  refine wpList_nil ?_
  go_upto_region 1 with (fail)
  refine wp_region_lit ?_
  refine ls_ex (some 8) (.slice (some ⟨b, 0, none⟩) n c) rfl rfl (exec_load_one 64 _ rfl c0 0 rfl (.slice (some ⟨b, 0, none⟩) n c) _ Try.underlying64 rfl (hc.at_ 0)) ?_
  go_frame
  refine ls_ex (some 9) (.int .i64 i) rfl rfl (exec_move _ rfl (.int .i64 i) rfl) ?_
  go_frame
  refine ls_ex (some 10) (.int .i64 j) rfl rfl (exec_move _ rfl (.int .i64 j) rfl) ?_
  go_frame
  refine ls_ex (some 11) (.int .i64 (i + j : Nat)) rfl rfl (exec_add _ _ _ _ rfl i j (i + j : Nat) rfl rfl (by rw [IntWalk.i64_in _ (by omega)]; omega)) ?_
  go_frame
  refine ls_ex (some 12) (.pointer (some ⟨b, 0 + (i + j) * 1, none⟩)) rfl rfl (exec_index_slice _ 22 _ _ rfl b 0 n c (i + j) 1 rfl rfl Try.underlying64 (by kernel_rfl) hij) ?_
  go_frame
  refine ls_ex (some 13) (.slice (some ⟨g, 0, none⟩) d c1) rfl rfl (exec_load_one 22 _ rfl b (0 + (i + j) * 1) rfl (.slice (some ⟨g, 0, none⟩) d c1) _ Try.underlying22 rfl (by rw [Nat.zero_add]; exact hQ.cell HV.out)) ?_
  go_frame
  refine ls_ex (some 14) (.int .i64 k) rfl rfl (exec_move _ rfl (.int .i64 k) rfl) ?_
  go_frame
  refine ls_ex (some 15) (.pointer (some ⟨g, 0 + k * 1, none⟩)) rfl rfl (exec_index_slice _ 2 _ _ rfl g 0 d c1 k 1 rfl rfl Try.underlying22 (by kernel_rfl) hk) ?_
  go_frame
  refine ls_ex (some 16) (.int .i64 X) rfl rfl (exec_load_one 2 _ rfl g (0 + k * 1) rfl (.int .i64 X) _ Try.underlying2 rfl (RdI.c1r (hQ.rd HV.out HR.out) HX.out)) ?_
  go_frame
  refine ls_ex (some 7) (.int .i64 X) rfl rfl (exec_assign _ rfl (.int .i64 X) rfl) ?_
  go_frame
  refine wpList_nil ?_
  go_wp2_with fail
  go_ret
  exact ⟨rfl, hB⟩
set_option maxHeartbeats 4000000 in
theorem implRest_a (p : Int) (B : Option Addr) (cB : Nat) (xs : List Int) (w : World) (hX : RdI w B xs) (hlen : xs.length ≤ 1048576) (hp : primeB p = false) :
    Calls Try.prog 19 #[.int .i64 p, .slice B xs.length cB] w (ResT w (tZ (rsCode p xs) p) (tZ (rsCode p xs) (xs.length : Nat)) (tZ (rsCode p xs) (xs.length : Nat)) (tZ (rsCode p xs) (xs.length : Nat)) (tL (rsCode p xs) (rsL p xs)) (rsCode p xs)) := by
  have hB := Below.refl w.heap.size w
  have _u0 := hX
  have _u1 := hlen
  clear _u0 _u1
  have HC : Hid (rsCode p xs = 2) := Lib.hid (by unfold rsCode rsB; rw [hp]; rfl)
  have HP := Lib.hid hp
  clear hp
  go_enter Try.func19, Try.ntmps19
  go_upto_region 0 with (fail)
  refine wp_region_lit ?_
  refine ls_op rfl (fun K' hK' => ?_)
  have lz1 := hB.size
  refine wp_new (some 4) rfl (al_impl_Tensor rfl) (fun Wz2 nnz3 => ?_)
  have bz4 := nnz3.below (Below.refl _ _) (Nat.le_refl _)
  replace hB := below_after hB bz4
  have hz5 : At Wz2 w.heap.size (.cells #[.int .i64 0, .int .i64 0, .int .i64 0, .int .i64 0, .slice none 0 0] 31 (0, 0)) := nnz3.at_
  refine hK' _ _ ?_
  clear hK' K' nnz3 bz4
  go_frame
  refine ls_ex (some 5) (.int .i64 0) rfl rfl (exec_assign _ rfl (.int .i64 0) rfl) ?_
  go_frame
  refine wpList_nil ?_
  go_upto_region 1 with (fail)
  refine wp_region_lit ?_
  refine ls_ex (some 10) (.slice B xs.length cB) rfl rfl (exec_move _ rfl (.slice B xs.length cB) rfl) ?_
  go_frame
  refine ls_ex (some 11) (.int .i64 xs.length) rfl rfl (exec_len _ 22 2 rfl B xs.length cB rfl Try.underlying22) ?_
  go_frame
  refine ls_ex (some 6) (.int .i64 xs.length) rfl rfl (exec_assign _ rfl (.int .i64 xs.length) rfl) ?_
  go_frame
  refine wpList_nil ?_
  go_upto_region 2 with (fail)
  refine wp_region_lit ?_
  refine ls_ex (some 12) (.int .i64 p) rfl rfl (exec_move _ rfl (.int .i64 p) rfl) ?_
  go_frame
  refine ls_op rfl (fun K' hK' => ?_)
  have lz8 := hB.size
  have lz9 := hz5.lt
  refine wp_call1 (some 13) rfl 43 _ _ rfl (fun args w => by kernel_rfl) _ rfl _ (isPrime_c p _) (fun e Wz6 h => ?_)
  obtain ⟨rfl, rfl⟩ := h
  rw [HP.out]
  refine ⟨_, rfl, ?_⟩
  refine hK' _ _ ?_
  clear hK' K'
  go_frame
  refine ls_ex (some 14) (.bool true) rfl rfl (exec_not _ _ rfl false rfl) ?_
  go_frame
  refine ls_ex (some 15) (.bool true) rfl rfl (exec_move _ rfl (.bool true) rfl) ?_
  go_frame
  refine ls_skip_g (some 16) rfl rfl ?_
  go_frame
  refine ls_skip_g (some 17) rfl rfl ?_
  go_frame
  refine ls_skip_g (some 18) rfl rfl ?_
  go_frame
  refine ls_ex (some 19) (.bool true) rfl rfl (exec_pick _ _ _ rfl true rfl (.bool true) rfl) ?_
  go_frame
  refine ls_ex (some 20) (.bool true) rfl rfl (exec_move _ rfl (.bool true) rfl) ?_
  go_frame
  refine ls_skip_g (some 21) rfl rfl ?_
  go_frame
  refine ls_skip_g (some 22) rfl rfl ?_
  go_frame
  refine ls_skip_g (some 23) rfl rfl ?_
  go_frame
  refine ls_skip_g (some 24) rfl rfl ?_
  go_frame
  refine ls_skip_g (some 25) rfl rfl ?_
  go_frame
  refine ls_ex (some 26) (.bool true) rfl rfl (exec_pick _ _ _ rfl true rfl (.bool true) rfl) ?_
  go_frame
  refine wpList_nil ?_
  go_upto_region 3 with (fail)
  refine wp_region_lit ?_
  refine ls_ex (some 27) (.agg #[.int .i64 0, .int .i64 0, .int .i64 0, .int .i64 0, .slice none 0 0]) rfl rfl (exec_build_nil 31 rfl _ (by kernel_rfl)) ?_
  go_frame
  refine ls_op rfl (fun K' hK' => ?_)
  refine wp_store_all 31 _ _ rfl rfl w.heap.size rfl #[.int .i64 0, .int .i64 0, .int .i64 0, .int .i64 0, .slice none 0 0] rfl _ _ hz5 5 (by kernel_rfl) rfl rfl (one5 _ _ _ _ _ _ _) (fun Wz10 pz11 => ?_)
  replace hB := pz11.below hB (by omega)
  replace hz5 : At Wz10 w.heap.size (.cells #[.int .i64 0, .int .i64 0, .int .i64 0, .int .i64 0, .slice none 0 0] 31 (0, 0)) := pz11.at_
  refine hK' _ _ ?_
  clear hK' K' pz11
  refine ls_ex (some 5) (.int .i64 2) rfl rfl (exec_assign _ rfl (.int .i64 2) rfl) ?_
  go_frame
  refine wpList_nil ?_
  go_wp2_with fail
  refine bodyPost_ret (results_at2 rfl _ _ w.heap.size _ _ _ rfl _ rfl hz5 Try.underlying31 rfl 5 (by kernel_rfl) rfl) rfl ?_
  unfold ResT tZ tL
  rw [HC.out]
  exact ⟨_, rfl, OwnI.nil _ _, hB⟩
set_option maxHeartbeats 4000000 in
theorem implRest_b (p : Int) (B : Option Addr) (cB : Nat) (xs : List Int) (w : World) (hX : RdI w B xs) (hlen : xs.length ≤ 1048576) (hp : primeB p = true) (hn : (decide (1 ≤ (xs.length : Int)) && decide ((xs.length : Int) ≤ 4)) = false) :
    Calls Try.prog 19 #[.int .i64 p, .slice B xs.length cB] w (ResT w (tZ (rsCode p xs) p) (tZ (rsCode p xs) (xs.length : Nat)) (tZ (rsCode p xs) (xs.length : Nat)) (tZ (rsCode p xs) (xs.length : Nat)) (tL (rsCode p xs) (rsL p xs)) (rsCode p xs)) := by
  have hB := Below.refl w.heap.size w
  have _u0 := hX
  have _u1 := hlen
  clear _u0 _u1
  have HC : Hid (rsCode p xs = 2) := Lib.hid (by unfold rsCode rsB; rw [hp, hn]; rfl)
  have HP := Lib.hid hp
  have HN := Lib.hid hn
  clear hp hn
  go_enter Try.func19, Try.ntmps19
  go_upto_region 0 with (fail)
  refine wp_region_lit ?_
  refine ls_op rfl (fun K' hK' => ?_)
  have lz1 := hB.size
  refine wp_new (some 4) rfl (al_impl_Tensor rfl) (fun Wz2 nnz3 => ?_)
  have bz4 := nnz3.below (Below.refl _ _) (Nat.le_refl _)
  replace hB := below_after hB bz4
  have hz5 : At Wz2 w.heap.size (.cells #[.int .i64 0, .int .i64 0, .int .i64 0, .int .i64 0, .slice none 0 0] 31 (0, 0)) := nnz3.at_
  refine hK' _ _ ?_
  clear hK' K' nnz3 bz4
  go_frame
  refine ls_ex (some 5) (.int .i64 0) rfl rfl (exec_assign _ rfl (.int .i64 0) rfl) ?_
  go_frame
  refine wpList_nil ?_
  go_upto_region 1 with (fail)
  refine wp_region_lit ?_
  refine ls_ex (some 10) (.slice B xs.length cB) rfl rfl (exec_move _ rfl (.slice B xs.length cB) rfl) ?_
  go_frame
  refine ls_ex (some 11) (.int .i64 xs.length) rfl rfl (exec_len _ 22 2 rfl B xs.length cB rfl Try.underlying22) ?_
  go_frame
  refine ls_ex (some 6) (.int .i64 xs.length) rfl rfl (exec_assign _ rfl (.int .i64 xs.length) rfl) ?_
  go_frame
  refine wpList_nil ?_
  go_upto_region 2 with (fail)
  refine wp_region_lit ?_
  refine ls_ex (some 12) (.int .i64 p) rfl rfl (exec_move _ rfl (.int .i64 p) rfl) ?_
  go_frame
  refine ls_op rfl (fun K' hK' => ?_)
  have lz8 := hB.size
  have lz9 := hz5.lt
  refine wp_call1 (some 13) rfl 43 _ _ rfl (fun args w => by kernel_rfl) _ rfl _ (isPrime_c p _) (fun e Wz6 h => ?_)
  obtain ⟨rfl, rfl⟩ := h
  rw [HP.out]
  refine ⟨_, rfl, ?_⟩
  refine hK' _ _ ?_
  clear hK' K'
  go_frame
  refine ls_ex (some 14) (.bool false) rfl rfl (exec_not _ _ rfl true rfl) ?_
  go_frame
  refine ls_ex (some 15) (.bool false) rfl rfl (exec_move _ rfl (.bool false) rfl) ?_
  go_frame
  refine ls_ex_g (some 16) (.int .i64 xs.length) rfl rfl (exec_move _ rfl (.int .i64 xs.length) rfl) ?_
  go_frame
  refine ls_op_g rfl (fun K' hK' => ?_)
  have lz12 := hB.size
  have lz13 := hz5.lt
  refine wp_call3 (some 17) rfl 44 _ _ _ _ rfl (fun args w => by kernel_rfl) _ _ _ rfl rfl rfl _ (isBetweenT_c 1 xs.length 4 _) (fun e Wz10 h => ?_)
  obtain ⟨rfl, rfl⟩ := h
  rw [HN.out]
  refine ⟨_, rfl, ?_⟩
  refine hK' _ _ ?_
  clear hK' K'
  go_frame
  refine ls_ex_g (some 18) (.bool true) rfl rfl (exec_not _ _ rfl false rfl) ?_
  go_frame
  refine ls_ex (some 19) (.bool true) rfl rfl (exec_pick _ _ _ rfl false rfl (.bool true) rfl) ?_
  go_frame
  refine ls_ex (some 20) (.bool true) rfl rfl (exec_move _ rfl (.bool true) rfl) ?_
  go_frame
  refine ls_skip_g (some 21) rfl rfl ?_
  go_frame
  refine ls_skip_g (some 22) rfl rfl ?_
  go_frame
  refine ls_skip_g (some 23) rfl rfl ?_
  go_frame
  refine ls_skip_g (some 24) rfl rfl ?_
  go_frame
  refine ls_skip_g (some 25) rfl rfl ?_
  go_frame
  refine ls_ex (some 26) (.bool true) rfl rfl (exec_pick _ _ _ rfl true rfl (.bool true) rfl) ?_
  go_frame
  refine wpList_nil ?_
  go_upto_region 3 with (fail)
  refine wp_region_lit ?_
  refine ls_ex (some 27) (.agg #[.int .i64 0, .int .i64 0, .int .i64 0, .int .i64 0, .slice none 0 0]) rfl rfl (exec_build_nil 31 rfl _ (by kernel_rfl)) ?_
  go_frame
  refine ls_op rfl (fun K' hK' => ?_)
  refine wp_store_all 31 _ _ rfl rfl w.heap.size rfl #[.int .i64 0, .int .i64 0, .int .i64 0, .int .i64 0, .slice none 0 0] rfl _ _ hz5 5 (by kernel_rfl) rfl rfl (one5 _ _ _ _ _ _ _) (fun Wz14 pz15 => ?_)
  replace hB := pz15.below hB (by omega)
  replace hz5 : At Wz14 w.heap.size (.cells #[.int .i64 0, .int .i64 0, .int .i64 0, .int .i64 0, .slice none 0 0] 31 (0, 0)) := pz15.at_
  refine hK' _ _ ?_
  clear hK' K' pz15
  refine ls_ex (some 5) (.int .i64 2) rfl rfl (exec_assign _ rfl (.int .i64 2) rfl) ?_
  go_frame
  refine wpList_nil ?_
  go_wp2_with fail
  refine bodyPost_ret (results_at2 rfl _ _ w.heap.size _ _ _ rfl _ rfl hz5 Try.underlying31 rfl 5 (by kernel_rfl) rfl) rfl ?_
  unfold ResT tZ tL
  rw [HC.out]
  exact ⟨_, rfl, OwnI.nil _ _, hB⟩
set_option maxHeartbeats 4000000 in
theorem implRest_d (p : Int) (B : Option Addr) (cB : Nat) (xs : List Int) (w : World) (hX : RdI w B xs) (hlen : xs.length ≤ 1048576) (hp : primeB p = true) (hn : (decide (1 ≤ (xs.length : Int)) && decide ((xs.length : Int) ≤ 4)) = true) (hl : numsB p xs = false) :
    Calls Try.prog 19 #[.int .i64 p, .slice B xs.length cB] w (ResT w (tZ (rsCode p xs) p) (tZ (rsCode p xs) (xs.length : Nat)) (tZ (rsCode p xs) (xs.length : Nat)) (tZ (rsCode p xs) (xs.length : Nat)) (tL (rsCode p xs) (rsL p xs)) (rsCode p xs)) := by
  have hB := Below.refl w.heap.size w
  have HC : Hid (rsCode p xs = 2) := Lib.hid (by unfold rsCode rsB; rw [hp, hn, hl]; rfl)
  have HP := Lib.hid hp
  have HN := Lib.hid hn
  have HL : Hid (listB p xs.length xs = false) := Lib.hid (listB_of _ hl)
  clear hp hn hl
  go_enter Try.func19, Try.ntmps19
  go_upto_region 0 with (fail)
  refine wp_region_lit ?_
  refine ls_op rfl (fun K' hK' => ?_)
  have lz1 := hB.size
  refine wp_new (some 4) rfl (al_impl_Tensor rfl) (fun Wz2 nnz3 => ?_)
  have bz4 := nnz3.below (Below.refl _ _) (Nat.le_refl _)
  replace hB := below_after hB bz4
  have hz5 : At Wz2 w.heap.size (.cells #[.int .i64 0, .int .i64 0, .int .i64 0, .int .i64 0, .slice none 0 0] 31 (0, 0)) := nnz3.at_
  refine hK' _ _ ?_
  clear hK' K' nnz3 bz4
  go_frame
  refine ls_ex (some 5) (.int .i64 0) rfl rfl (exec_assign _ rfl (.int .i64 0) rfl) ?_
  go_frame
  refine wpList_nil ?_
  go_upto_region 1 with (fail)
  refine wp_region_lit ?_
  refine ls_ex (some 10) (.slice B xs.length cB) rfl rfl (exec_move _ rfl (.slice B xs.length cB) rfl) ?_
  go_frame
  refine ls_ex (some 11) (.int .i64 xs.length) rfl rfl (exec_len _ 22 2 rfl B xs.length cB rfl Try.underlying22) ?_
  go_frame
  refine ls_ex (some 6) (.int .i64 xs.length) rfl rfl (exec_assign _ rfl (.int .i64 xs.length) rfl) ?_
  go_frame
  refine wpList_nil ?_
  go_upto_region 2 with (fail)
  refine wp_region_lit ?_
  refine ls_ex (some 12) (.int .i64 p) rfl rfl (exec_move _ rfl (.int .i64 p) rfl) ?_
  go_frame
  refine ls_op rfl (fun K' hK' => ?_)
  have lz8 := hB.size
  have lz9 := hz5.lt
  refine wp_call1 (some 13) rfl 43 _ _ rfl (fun args w => by kernel_rfl) _ rfl _ (isPrime_c p _) (fun e Wz6 h => ?_)
  obtain ⟨rfl, rfl⟩ := h
  rw [HP.out]
  refine ⟨_, rfl, ?_⟩
  refine hK' _ _ ?_
  clear hK' K'
  go_frame
  refine ls_ex (some 14) (.bool false) rfl rfl (exec_not _ _ rfl true rfl) ?_
  go_frame
  refine ls_ex (some 15) (.bool false) rfl rfl (exec_move _ rfl (.bool false) rfl) ?_
  go_frame
  refine ls_ex_g (some 16) (.int .i64 xs.length) rfl rfl (exec_move _ rfl (.int .i64 xs.length) rfl) ?_
  go_frame
  refine ls_op_g rfl (fun K' hK' => ?_)
  have lz12 := hB.size
  have lz13 := hz5.lt
  refine wp_call3 (some 17) rfl 44 _ _ _ _ rfl (fun args w => by kernel_rfl) _ _ _ rfl rfl rfl _ (isBetweenT_c 1 xs.length 4 _) (fun e Wz10 h => ?_)
  obtain ⟨rfl, rfl⟩ := h
  rw [HN.out]
  refine ⟨_, rfl, ?_⟩
  refine hK' _ _ ?_
  clear hK' K'
  go_frame
  refine ls_ex_g (some 18) (.bool false) rfl rfl (exec_not _ _ rfl true rfl) ?_
  go_frame
  refine ls_ex (some 19) (.bool false) rfl rfl (exec_pick _ _ _ rfl false rfl (.bool false) rfl) ?_
  go_frame
  refine ls_ex (some 20) (.bool false) rfl rfl (exec_move _ rfl (.bool false) rfl) ?_
  go_frame
  refine ls_ex_g (some 21) (.int .i64 p) rfl rfl (exec_move _ rfl (.int .i64 p) rfl) ?_
  go_frame
  refine ls_ex_g (some 22) (.int .i64 xs.length) rfl rfl (exec_move _ rfl (.int .i64 xs.length) rfl) ?_
  go_frame
  refine ls_ex_g (some 23) (.slice B xs.length cB) rfl rfl (exec_move _ rfl (.slice B xs.length cB) rfl) ?_
  go_frame
  refine ls_op_g rfl (fun K' hK' => ?_)
  have lz16 := hB.size
  have lz17 := hz5.lt
  refine wp_call3 (some 24) rfl 45 _ _ _ _ rfl (fun args w => by kernel_rfl) _ _ _ rfl rfl rfl _ (isList_c B cB p xs.length xs _ (hX.keep hB) hlen) (fun e Wz14 h => ?_)
  obtain ⟨rfl, bz15⟩ := h
  replace hB := below_after hB bz15
  replace hz5 := hz5.after bz15
  rw [HL.out]
  clear bz15
  refine ⟨_, rfl, ?_⟩
  refine hK' _ _ ?_
  clear hK' K'
  go_frame
  refine ls_ex_g (some 25) (.bool true) rfl rfl (exec_not _ _ rfl false rfl) ?_
  go_frame
  refine ls_ex (some 26) (.bool true) rfl rfl (exec_pick _ _ _ rfl false rfl (.bool true) rfl) ?_
  go_frame
  refine wpList_nil ?_
  go_upto_region 3 with (fail)
  refine wp_region_lit ?_
  refine ls_ex (some 27) (.agg #[.int .i64 0, .int .i64 0, .int .i64 0, .int .i64 0, .slice none 0 0]) rfl rfl (exec_build_nil 31 rfl _ (by kernel_rfl)) ?_
  go_frame
  refine ls_op rfl (fun K' hK' => ?_)
  refine wp_store_all 31 _ _ rfl rfl w.heap.size rfl #[.int .i64 0, .int .i64 0, .int .i64 0, .int .i64 0, .slice none 0 0] rfl _ _ hz5 5 (by kernel_rfl) rfl rfl (one5 _ _ _ _ _ _ _) (fun Wz18 pz19 => ?_)
  replace hB := pz19.below hB (by omega)
  replace hz5 : At Wz18 w.heap.size (.cells #[.int .i64 0, .int .i64 0, .int .i64 0, .int .i64 0, .slice none 0 0] 31 (0, 0)) := pz19.at_
  refine hK' _ _ ?_
  clear hK' K' pz19
  refine ls_ex (some 5) (.int .i64 2) rfl rfl (exec_assign _ rfl (.int .i64 2) rfl) ?_
  go_frame
  refine wpList_nil ?_
  go_wp2_with fail
  refine bodyPost_ret (results_at2 rfl _ _ w.heap.size _ _ _ rfl _ rfl hz5 Try.underlying31 rfl 5 (by kernel_rfl) rfl) rfl ?_
  unfold ResT tZ tL
  rw [HC.out]
  exact ⟨_, rfl, OwnI.nil _ _, hB⟩
theorem rest1_t (i j k c0 lo b n c d : Nat) (vs : List Value) (p : Int) (xs : List Int) (w : World) (hc : At w c0 (.cells #[.slice (some ⟨b, 0, none⟩) n c] 64 (0, 0))) (hQ : OwnQ w lo (.slice (some ⟨b, 0, none⟩) n c) d vs (restsL p xs n)) (hij : i + j < n) (hn : n ≤ 1000) (hk : k < d) (hxd : xs.length = d) :
    Calls Try.prog 48 #[.int .i64 i, .int .i64 j, .int .i64 k, .pointer (some ⟨c0, 0, none⟩)] w fun e w' => e = .returned (.int .i64 (rsF p xs i j k)) ∧ Below w.heap.size w w' := by
  obtain ⟨g, c1, hV, _⟩ := hQ.at_ (restsL_get p xs hij)
  exact rest1_c i j k c0 lo b n c d g c1 vs _ _ _ w hc hQ hij hn hk (Lib.hid hV) (Lib.hid (restsL_get p xs hij)) (Lib.hid (rsF_get p xs (by rw [hxd]; exact hk)))
set_option maxHeartbeats 25600000 in
theorem implRest_yd (p : Int) (d bB oB cB : Nat) (xs : List Int) (w : World) (hX : RdI w (some ⟨bB, oB, none⟩) xs) (hxd : xs.length = d) (hs : rsB p xs = true) :
    Calls Try.prog 19 #[.int .i64 p, .slice (some ⟨bB, oB, none⟩) d cB] w (ResT w (tZ (rsCode p xs) p) (tZ (rsCode p xs) (d : Nat)) (tZ (rsCode p xs) (d : Nat)) (tZ (rsCode p xs) (d : Nat)) (tL (rsCode p xs) (rsL p xs)) (rsCode p xs)) := by
  have hB := Below.refl w.heap.size w
  have HC : Hid (rsCode p xs = 0) := Lib.hid (by unfold rsCode; rw [hs]; rfl)
  obtain ⟨hp, hd, hl⟩ := rsB_parts hs
  have hp5 := prime_le5 hp
  have HP := Lib.hid hp
  have HXi := Lib.hid (numsB_inP hl)
  rw [hxd] at hd
  have HN : Hid ((decide (1 ≤ (d : Int)) && decide ((d : Int) ≤ 4)) = true) := Lib.hid (by simp; omega)
  have HL : Hid (listB p d xs = true) := Lib.hid (by rw [← hxd]; exact listB_of _ hl)
  have HXl := Lib.hid hxd
  have HSd : Hid (sideB d = true) := Lib.hid (by simp [sideB]; omega)
  have HR0 : Hid ((List.replicate d (0 : Int)).set 0 1 = restR p xs 0) := Lib.hid (by rw [restR_zero, hxd])
  have HRl0 : Hid ((restR p xs 0).length = d) := Lib.hid (by rw [restR_len, hxd])
  have HTl : Hid (genL d d p (rsF p xs) (d * d * d) = rsL p xs) := Lib.hid (by unfold rsL; rw [hxd])
  obtain ⟨N7, hN7⟩ : ∃ z9, (rsL p xs).length = z9 := ⟨_, rfl⟩
  have HNl := Lib.hid hN7
  obtain ⟨M2, hM2⟩ : ∃ z9, 2 * d = z9 := ⟨_, rfl⟩
  obtain ⟨E, hE⟩ : ∃ z9, M2 - 2 = z9 := ⟨_, rfl⟩
  have HM2 : Hid (IntKind.i64.wrap (2 * (d : Int)) = (M2 : Int)) := Lib.hid (by rw [IntWalk.i64_in _ (by omega)]; omega)
  have HE2 : Hid (IntKind.i64.wrap ((M2 : Int) - 2) = (E : Int)) := Lib.hid (by rw [IntWalk.i64_in _ (by omega)]; omega)
  clear hs hp hl hxd hN7
  go_enter Try.func19, Try.ntmps19
  go_upto_region 0 with (fail)
  refine wp_region_lit ?_
  refine ls_op rfl (fun K' hK' => ?_)
  have lz1 := hB.size
  refine wp_new (some 4) rfl (al_impl_Tensor rfl) (fun Wz2 nnz3 => ?_)
  have bz4 := nnz3.below (Below.refl _ _) (Nat.le_refl _)
  replace hB := below_after hB bz4
  have hz5 : At Wz2 w.heap.size (.cells #[.int .i64 0, .int .i64 0, .int .i64 0, .int .i64 0, .slice none 0 0] 31 (0, 0)) := nnz3.at_
  refine hK' _ _ ?_
  clear hK' K' nnz3 bz4
  go_frame
  refine ls_ex (some 5) (.int .i64 0) rfl rfl (exec_assign _ rfl (.int .i64 0) rfl) ?_
  go_frame
  refine wpList_nil ?_
  go_upto_region 1 with (fail)
  refine wp_region_lit ?_
  refine ls_ex (some 10) (.slice (some ⟨bB, oB, none⟩) d cB) rfl rfl (exec_move _ rfl (.slice (some ⟨bB, oB, none⟩) d cB) rfl) ?_
  go_frame
  refine ls_ex (some 11) (.int .i64 d) rfl rfl (exec_len _ 22 2 rfl ((some ⟨bB, oB, none⟩)) d cB rfl Try.underlying22) ?_
  go_frame
  refine ls_ex (some 6) (.int .i64 d) rfl rfl (exec_assign _ rfl (.int .i64 d) rfl) ?_
  go_frame
  refine wpList_nil ?_
  go_upto_region 2 with (fail)
  refine wp_region_lit ?_
  refine ls_ex (some 12) (.int .i64 p) rfl rfl (exec_move _ rfl (.int .i64 p) rfl) ?_
  go_frame
  refine ls_op rfl (fun K' hK' => ?_)
  have lz8 := hB.size
  have lz9 := hz5.lt
  refine wp_call1 (some 13) rfl 43 _ _ rfl (fun args w => by kernel_rfl) _ rfl _ (isPrime_c p _) (fun e Wz6 h => ?_)
  obtain ⟨rfl, rfl⟩ := h
  rw [HP.out]
  refine ⟨_, rfl, ?_⟩
  refine hK' _ _ ?_
  clear hK' K'
  go_frame
  refine ls_ex (some 14) (.bool false) rfl rfl (exec_not _ _ rfl true rfl) ?_
  go_frame
  refine ls_ex (some 15) (.bool false) rfl rfl (exec_move _ rfl (.bool false) rfl) ?_
  go_frame
  refine ls_ex_g (some 16) (.int .i64 d) rfl rfl (exec_move _ rfl (.int .i64 d) rfl) ?_
  go_frame
  refine ls_op_g rfl (fun K' hK' => ?_)
  have lz12 := hB.size
  have lz13 := hz5.lt
  refine wp_call3 (some 17) rfl 44 _ _ _ _ rfl (fun args w => by kernel_rfl) _ _ _ rfl rfl rfl _ (isBetweenT_c 1 d 4 _) (fun e Wz10 h => ?_)
  obtain ⟨rfl, rfl⟩ := h
  rw [HN.out]
  refine ⟨_, rfl, ?_⟩
  refine hK' _ _ ?_
  clear hK' K'
  go_frame
  refine ls_ex_g (some 18) (.bool false) rfl rfl (exec_not _ _ rfl true rfl) ?_
  go_frame
  refine ls_ex (some 19) (.bool false) rfl rfl (exec_pick _ _ _ rfl false rfl (.bool false) rfl) ?_
  go_frame
  refine ls_ex (some 20) (.bool false) rfl rfl (exec_move _ rfl (.bool false) rfl) ?_
  go_frame
  refine ls_ex_g (some 21) (.int .i64 p) rfl rfl (exec_move _ rfl (.int .i64 p) rfl) ?_
  go_frame
  refine ls_ex_g (some 22) (.int .i64 d) rfl rfl (exec_move _ rfl (.int .i64 d) rfl) ?_
  go_frame
  refine ls_ex_g (some 23) (.slice (some ⟨bB, oB, none⟩) d cB) rfl rfl (exec_move _ rfl (.slice (some ⟨bB, oB, none⟩) d cB) rfl) ?_
  go_frame
  refine ls_op_g rfl (fun K' hK' => ?_)
  have lz16 := hB.size
  have lz17 := hz5.lt
  refine wp_call3 (some 24) rfl 45 _ _ _ _ rfl (fun args w => by kernel_rfl) _ _ _ rfl rfl rfl _ (isListD_c (some ⟨bB, oB, none⟩) cB p d xs _ (hX.keep hB) HXl.out (by omega)) (fun e Wz14 h => ?_)
  obtain ⟨rfl, bz15⟩ := h
  replace hB := below_after hB bz15
  replace hz5 := hz5.after bz15
  rw [HL.out]
  clear bz15
  refine ⟨_, rfl, ?_⟩
  refine hK' _ _ ?_
  clear hK' K'
  go_frame
  refine ls_ex_g (some 25) (.bool false) rfl rfl (exec_not _ _ rfl true rfl) ?_
  go_frame
  refine ls_ex (some 26) (.bool false) rfl rfl (exec_pick _ _ _ rfl false rfl (.bool false) rfl) ?_
  go_frame
  refine wpList_nil ?_
  go_upto_region 4 with (fail)
  refine wp_region_lit ?_
  refine ls_ex (some 28) (.int .i64 d) rfl rfl (exec_move _ rfl (.int .i64 d) rfl) ?_
  go_frame
  refine ls_op rfl (fun K' hK' => ?_)
  have lz18 := hB.size
  have lz19 := hz5.lt
  refine wp_make_Iz (some 29) rfl _ _ rfl d rfl rfl (by omega) (fun Wz20 nnz21 => ?_)
  have bz22 := nnz21.below (Below.refl _ _) (Nat.le_refl _)
  replace hB := below_after hB bz22
  replace hz5 := hz5.after bz22
  have hG : At Wz20 Wz14.heap.size (.cells (iar (List.replicate d 0)) 2 (0, 0)) := nnz21.at_
  refine hK' _ _ ?_
  clear hK' K' nnz21 bz22
  go_frame
  refine ls_ex (some 7) (.slice (some ⟨Wz14.heap.size, 0, none⟩) d d) rfl rfl (exec_assign _ rfl (.slice (some ⟨Wz14.heap.size, 0, none⟩) d d) rfl) ?_
  go_frame
  refine wpList_nil ?_
  go_upto_region 5 with (fail)
  refine wp_region_lit ?_
  refine ls_ex (some 30) (.slice (some ⟨Wz14.heap.size, 0, none⟩) d d) rfl rfl (exec_move _ rfl (.slice (some ⟨Wz14.heap.size, 0, none⟩) d d) rfl) ?_
  go_frame
  refine ls_ex (some 31) (.pointer (some ⟨Wz14.heap.size, 0 + 0 * 1, none⟩)) rfl rfl (exec_index_slice _ 2 _ _ rfl Wz14.heap.size 0 d d 0 1 rfl rfl Try.underlying22 (by kernel_rfl) (by omega)) ?_
  go_frame
  refine ls_op rfl (fun K' hK' => ?_)
  have lz25 := hB.size
  have lz26 := hz5.lt
  have lz27 := hG.lt
  refine wp_store_one 2 _ _ rfl rfl Wz14.heap.size (0 + 0 * 1) rfl (.int .i64 1) rfl rfl rfl _ _ hG (by kernel_rfl) (by rw [iar_size, List.length_replicate]; omega) (fun Wz23 pz24 => ?_)
  replace hB := pz24.below hB (by omega)
  replace hz5 := pz24.other hz5 (by omega)
  replace hG : At Wz23 Wz14.heap.size (.cells (iarZ (restR p xs 0) []) 2 (0, 0)) := by have h9 := pz24.at_; rw [Nat.zero_mul, Nat.add_zero, iar_set, HR0.out] at h9; rwa [iarZ_nil]
  refine hK' _ _ ?_
  clear hK' K' pz24
  refine wpList_nil ?_
  go_upto_region 6 with (fail)
  refine wp_region_lit ?_
  refine ls_ex (some 32) (.slice (some ⟨Wz14.heap.size, 0, none⟩) d d) rfl rfl (exec_move _ rfl (.slice (some ⟨Wz14.heap.size, 0, none⟩) d d) rfl) ?_
  go_frame
  refine ls_op rfl (fun K' hK' => ?_)
  have lz28 := hB.size
  have lz29 := hz5.lt
  have lz30 := hG.lt
  refine wp_new (some 33) rfl (exec_buildRowR _ rfl (some ⟨Wz14.heap.size, 0, none⟩) d d rfl) (fun Wz31 nnz32 => ?_)
  have bz33 := nnz32.below (Below.refl _ _) (Nat.le_refl _)
  replace hB := below_after hB bz33
  replace hz5 := hz5.after bz33
  replace hG := hG.after bz33
  have ho : OwnQ Wz31 w.heap.size (.slice (some ⟨Wz23.heap.size, 0, none⟩) 1 1) d [.slice (some ⟨Wz14.heap.size, 0, none⟩) d d] (restsL p xs 1) := by have h9 := OwnQ.one (lo := w.heap.size) (by omega) nnz32.at_ hG HRl0.out (Nat.le_refl d); exact h9
  refine hK' _ _ ?_
  clear hK' K' nnz32 bz33 hG
  go_frame
  refine ls_op rfl (fun K' hK' => ?_)
  have lz34 := hB.size
  have lz35 := hz5.lt
  have naz40 := ho.away_new
  refine wp_new (some 8) rfl (al_____int64 rfl) (fun Wz36 nnz37 => ?_)
  have bz38 := nnz37.below (Below.refl _ _) (Nat.le_refl _)
  replace hB := below_after hB bz38
  replace hz5 := hz5.after bz38
  replace ho := ho.below bz38
  have hz39 : At Wz36 Wz31.heap.size (.cells #[.slice none 0 0] 64 (0, 0)) := nnz37.at_
  refine hK' _ _ ?_
  clear hK' K' nnz37 bz38
  go_frame
  refine ls_op rfl (fun K' hK' => ?_)
  refine wp_store_one 64 _ _ rfl rfl Wz31.heap.size 0 rfl (.slice (some ⟨Wz23.heap.size, 0, none⟩) 1 1) rfl rfl rfl _ _ hz39 (by kernel_rfl) (by simp) (fun Wz41 pz42 => ?_)
  replace hB := pz42.below hB (by omega)
  replace hz5 := pz42.other hz5 (by omega)
  replace ho := ho.put pz42 (ho.off hz39 (by decide))
  replace hz39 : At Wz41 Wz31.heap.size (.cells #[.slice (some ⟨Wz23.heap.size, 0, none⟩) 1 1] 64 (0, 0)) := pz42.at_
  refine hK' _ _ ?_
  clear hK' K' pz42
  refine wpList_nil ?_
  go_upto_region 7 with (fail)
  refine wp_region_lit ?_
  refine ls_ex (some 34) (.int .i64 d) rfl rfl (exec_move _ rfl (.int .i64 d) rfl) ?_
  go_frame
  refine ls_ex (some 35) (.int .i64 M2) rfl rfl (exec_mul _ _ _ _ rfl 2 d M2 rfl rfl HM2.out) ?_
  go_frame
  refine ls_ex (some 36) (.int .i64 E) rfl rfl (exec_sub _ _ _ _ rfl M2 2 E rfl rfl HE2.out) ?_
  go_frame
  refine ls_ex (some 37) (.int .i64 0) rfl rfl (exec_move _ rfl (.int .i64 0) rfl) ?_
  go_frame
  refine wpList_nil ?_
  go_wp2_with fail
  go_loopw [37] (fun s37 wr => ∃ (z : Nat) (v : Value) (vs : List Value), z ≤ E ∧ s37 = .int .i64 z ∧ Below w.heap.size w wr ∧ At wr w.heap.size (.cells #[.int .i64 0, .int .i64 0, .int .i64 0, .int .i64 0, .slice none 0 0] 31 (0, 0)) ∧ At wr Wz31.heap.size (.cells #[v] 64 (0, 0)) ∧ OwnQ wr w.heap.size v d vs (restsL p xs (z + 1))) (fun s37 _ => E - (intOf s37).toNat)
  case atStart => exact ⟨0, _, _, by omega, rfl, hB, hz5, hz39, ho⟩
  case round =>
    clear hB hz5 ho hz39
    obtain ⟨z, v, vs, hz, rfl, hB, h1, h2, ho⟩ := hrel
    by_cases hlt : z < E
    · have HRz : Hid ((restsL p xs (z + 1))[z]? = some (restR p xs z)) := Lib.hid (restsL_get p xs (by omega))
      have HRl : Hid ((restR p xs z).length = d) := Lib.hid (by rw [restR_len, HXl.out])
      have HRn : Hid ((restR p xs (z + 1)).length = d) := Lib.hid (by rw [restR_len, HXl.out])
      have HRs : Hid (restsL p xs (z + 1) ++ [restR p xs (z + 1)] = restsL p xs (z + 2)) := Lib.hid (restsL_step p xs (z + 1))
      obtain ⟨g, c1, hV, hc1⟩ := ho.at_ HRz.out
      have HV := Lib.hid hV
      clear hV
      obtain ⟨b9, c9, rfl⟩ := ho.open (by rw [restsL_len]; omega)
      rw [restsL_len] at h2 ho
      go_upto_region 8 with (fail)
      refine wp_region_lit ?_
      refine ls_ex (some 38) (.bool true) rfl rfl (exec_lss _ _ _ _ rfl z E rfl rfl true (decide_eq_true (by omega))) ?_
      go_frame
      refine wpList_nil ?_
      go_upto_region 9 with (fail)
      refine wp_region_lit ?_
      refine ls_ex (some 39) (.int .i64 z) rfl rfl (exec_move _ rfl (.int .i64 z) rfl) ?_
      go_frame
      refine ls_ex (some 9) (.int .i64 z) rfl rfl (exec_assign _ rfl (.int .i64 z) rfl) ?_
      go_frame
      refine wpList_nil ?_
      go_upto_region 10 with (fail)
      refine wp_region_y (zs := [9, 10]) (S := fun w' => Below w.heap.size w w') (S2 := fun w' => At w' Wz31.heap.size (.cells #[.slice (some ⟨b9, 0, none⟩) (z + 1) c9] 64 (0, 0)) ∧ OwnQ w' w.heap.size (.slice (some ⟨b9, 0, none⟩) (z + 1) c9) d (vs) (restsL p xs (z + 1))) (by kernel_rfl) ?_
      change wpAnyY _ _ _ _ _ _ _ _ _ _ (World.drew _)
      generalize hwdz43 : World.drew _ = wdz43
      replace hB : Below w.heap.size w wdz43 := by rw [← hwdz43]; exact hB.drew
      replace h1 : At wdz43 w.heap.size (.cells #[.int .i64 0, .int .i64 0, .int .i64 0, .int .i64 0, .slice none 0 0] 31 (0, 0)) := by rw [← hwdz43]; exact h1
      replace h2 : At wdz43 Wz31.heap.size (.cells #[.slice (some ⟨b9, 0, none⟩) (z + 1) c9] 64 (0, 0)) := by rw [← hwdz43]; exact h2
      replace ho : OwnQ wdz43 w.heap.size (.slice (some ⟨b9, 0, none⟩) (z + 1) c9) d (vs) (restsL p xs (z + 1)) := by rw [← hwdz43]; exact ho.drew
      clear hwdz43
      refine y_yield3 0 (some 40) (.slice (some ⟨b9, 0, none⟩) (z + 1) c9) rfl 11 (by kernel_rfl) (by kernel_rfl) (by kernel_rfl) (by kernel_rfl) (by kernel_rfl) (fun _ _ _ h => h) rfl rfl hB ⟨h2, ho⟩ (fun w' h' h2' => exec_load_one 64 _ rfl Wz31.heap.size 0 rfl (.slice (some ⟨b9, 0, none⟩) (z + 1) c9) _ Try.underlying64 rfl (h2'.1.at_ 0)) ?_
      go_frame
      refine y_yield 1 (some 41) (.int .i64 p) rfl (by kernel_rfl) (by kernel_rfl) (by kernel_rfl) (fun _ _ _ h => h) rfl rfl hB (fun w' h' => exec_move _ rfl (.int .i64 p) rfl) ?_
      go_frame
      refine y_yield3 2 (some 42) (.slice (some ⟨b9, 0, none⟩) (z + 1) c9) rfl 11 (by kernel_rfl) (by kernel_rfl) (by kernel_rfl) (by kernel_rfl) (by kernel_rfl) (fun _ _ _ h => h) rfl rfl hB ⟨h2, ho⟩ (fun w' h' h2' => exec_load_one 64 _ rfl Wz31.heap.size 0 rfl (.slice (some ⟨b9, 0, none⟩) (z + 1) c9) _ Try.underlying64 rfl (h2'.1.at_ 0)) ?_
      go_frame
      refine y_yield 3 (some 43) (.int .i64 z) rfl (by kernel_rfl) (by kernel_rfl) (by kernel_rfl) (fun _ _ _ h => h) rfl rfl hB (fun w' h' => exec_move _ rfl (.int .i64 z) rfl) ?_
      go_frame
      refine y_yield 4 (some 44) (.pointer (some ⟨b9, 0 + z * 1, none⟩)) rfl (by kernel_rfl) (by kernel_rfl) (by kernel_rfl) (fun _ _ _ h => h) rfl rfl hB (fun w' h' => exec_index_slice _ 22 _ _ rfl b9 0 (z + 1) c9 z 1 rfl rfl Try.underlying64 (by kernel_rfl) (by omega)) ?_
      go_frame
      refine y_yield3 5 (some 45) (.slice (some ⟨g, 0, none⟩) d c1) rfl 11 (by kernel_rfl) (by kernel_rfl) (by kernel_rfl) (by kernel_rfl) (by kernel_rfl) (fun _ _ _ h => h) rfl rfl hB ⟨h2, ho⟩ (fun w' h' h2' => exec_load_one 22 _ rfl b9 (0 + z * 1) rfl (.slice (some ⟨g, 0, none⟩) d c1) _ Try.underlying22 rfl (by rw [Nat.zero_add]; exact h2'.2.cell HV.out)) ?_
      go_frame
      refine y_yield 6 (some 46) (.slice (some ⟨bB, oB, none⟩) d cB) rfl (by kernel_rfl) (by kernel_rfl) (by kernel_rfl) (fun _ _ _ h => h) rfl rfl hB (fun w' h' => exec_move _ rfl (.slice (some ⟨bB, oB, none⟩) d cB) rfl) ?_
      go_frame
      refine y_oper 7 (by kernel_rfl) rfl rfl (fun K' hK' => ?_)
      have lz46 := hB.size
      have lz47 := h1.lt
      have lz48 := h2.lt
      refine wp_call3 (some 47) rfl 46 _ _ _ _ rfl (fun args w => by kernel_rfl) _ _ _ rfl rfl rfl _ (restTimesX_c p d g 0 c1 bB oB cB (restR p xs z) xs _ (ho.rd HV.out HRz.out) (hX.keep hB) HRl.out HXl.out (by omega) hc1 hp5 (restR_in hp5.1 xs z) HXi.out) (fun e Wz44 h => ?_)
      obtain ⟨v9, rfl, hw, bz45⟩ := h
      replace hB := below_after hB bz45
      replace h1 := h1.after bz45
      replace h2 := h2.after bz45
      replace ho := ho.below bz45
      obtain ⟨g2, c2, Z2, rfl, hN, hlg, hcZ, hcm⟩ := OwnI.openZ hw (by rw [← restR_succ, HRn.out]; omega)
      clear hw
      rw [← restR_succ, HRn.out] at hcZ ⊢
      rw [← restR_succ] at hN
      have hc2 : d ≤ c2 := by omega
      clear hlg hcZ hcm
      clear bz45
      refine ⟨_, rfl, ?_⟩
      refine hK' _ _ hB (fun _ => ⟨h2, ho⟩) ?_
      clear hK' K'
      go_frame
      refine y_oper 8 (by kernel_rfl) rfl rfl (fun K' hK' => ?_)
      have lz49 := hB.size
      have lz50 := h1.lt
      have lz51 := h2.lt
      have lz52 := hN.lt
      refine wp_new (some 48) rfl (exec_buildRowR _ rfl (some ⟨g2, 0, none⟩) d c2 rfl) (fun Wz53 nnz54 => ?_)
      have bz55 := nnz54.below (Below.refl _ _) (Nat.le_refl _)
      replace hB := below_after hB bz55
      replace h1 := h1.after bz55
      replace h2 := h2.after bz55
      replace ho := ho.below bz55
      replace hN := hN.after bz55
      have hqz56 : At Wz53 Wz44.heap.size (.cells #[.slice (some ⟨g2, 0, none⟩) d c2] 22 (0, 0)) := nnz54.at_
      refine hK' _ _ hB (fun _ => ⟨h2, ho⟩) ?_
      clear hK' K' nnz54 bz55
      go_frame
      refine y_oper 9 (by kernel_rfl) rfl rfl (fun K' hK' => ?_)
      have lz60 := hB.size
      have lz61 := h1.lt
      have lz62 := h2.lt
      have lz63 := hN.lt
      have lz64 := hqz56.lt
      refine wp_appQ (some 49) rfl _ _ rfl w.heap.size (.slice (some ⟨b9, 0, none⟩) (z + 1) c9) d vs (restsL p xs (z + 1)) rfl ho g2 c2 (restR p xs (z + 1)) Z2 hN HRn.out hc2 Wz44.heap.size rfl hqz56 (by rw [restsL_len]; omega) (by omega) (fun v6 Wz57 noz59 grz58 => ?_)
      rw [HRs.out] at noz59
      obtain ⟨b6, c6, rfl⟩ := OwnQ.open noz59 (by rw [restsL_len]; omega)
      rw [restsL_len] at noz59 ⊢
      replace hB := OwnQ.belowG hB grz58 ho (Nat.le_refl _)
      replace h1 := h1.grown grz58 (ho.off h1 (by decide)).1
      replace h2 := h2.grown grz58 (ho.off h2 (by decide)).1
      replace ho := noz59
      refine hK' _ _ hB (fun h => absurd (by decide) h) ?_
      clear hK' K' grz58 hN hqz56
      go_frame
      refine y_oper 10 (by kernel_rfl) rfl rfl (fun K' hK' => ?_)
      refine wp_store_one 64 _ _ rfl rfl Wz31.heap.size 0 rfl (.slice (some ⟨b6, 0, none⟩) (z + 2) c6) rfl rfl rfl _ _ h2 (by kernel_rfl) (by simp) (fun Wz65 pz66 => ?_)
      replace hB := pz66.below hB (by omega)
      replace h1 := pz66.other h1 (by omega)
      replace ho := ho.put pz66 (ho.off h2 (by decide))
      replace h2 : At Wz65 Wz31.heap.size (.cells #[.slice (some ⟨b6, 0, none⟩) (z + 2) c6] 64 (0, 0)) := pz66.at_
      refine hK' _ _ hB (fun h => absurd (by decide) h) ?_
      clear hK' K' pz66
      refine y_done (by kernel_rfl) ?_ _
      go_upto_region 11 with (fail)
      refine wp_region_lit ?_
      refine ls_ex (some 50) (.int .i64 (z + 1)) rfl rfl (exec_add _ _ _ _ rfl z 1 (z + 1) rfl rfl (IntWalk.i64_in _ (by omega))) ?_
      go_frame
      refine ls_ex (some 37) (.int .i64 (z + 1)) rfl rfl (exec_move _ rfl (.int .i64 (z + 1)) rfl) ?_
      go_frame
      refine wpList_nil ?_
      go_wp2_with fail
      go_roundw
      case rel => exact ⟨z + 1, _, _, by omega, by go_num, hB, h1, h2, ho⟩
      case measure => simp [intOf]; omega
    · obtain ⟨b9, c9, rfl⟩ := ho.open (by rw [restsL_len]; omega)
      rw [restsL_len] at h2 ho
      go_upto_region 8 with (fail)
      refine wp_region_lit ?_
      refine ls_ex (some 38) (.bool false) rfl rfl (exec_lss _ _ _ _ rfl z E rfl rfl false (decide_eq_false (by omega))) ?_
      go_frame
      refine wpList_nil ?_
      go_upto_region 12 with (fail)
      refine wp_region_lit ?_
      refine ls_ex (some 51) (.int .i64 p) rfl rfl (exec_move _ rfl (.int .i64 p) rfl) ?_
      go_frame
      refine ls_ex (some 52) (.int .i64 d) rfl rfl (exec_move _ rfl (.int .i64 d) rfl) ?_
      go_frame
      refine ls_ex (some 53) (.int .i64 d) rfl rfl (exec_move _ rfl (.int .i64 d) rfl) ?_
      go_frame
      refine ls_ex (some 54) (.int .i64 d) rfl rfl (exec_move _ rfl (.int .i64 d) rfl) ?_
      go_frame
      refine ls_ex (some 55) (.agg #[.int .i64 d, .int .i64 d, .int .i64 d]) rfl rfl (exec_build_boxT _ _ _ rfl d d d rfl rfl rfl) ?_
      go_frame
      refine ls_ex (some 56) (.func (.func 48) #[] #[.pointer (some ⟨Wz31.heap.size, 0, none⟩)]) rfl rfl (exec_mkfn1o _ _ rfl (.pointer (some ⟨Wz31.heap.size, 0, none⟩)) rfl) ?_
      go_frame
      refine ls_op rfl (fun K' hK' => ?_)
      have lz69 := hB.size
      have lz70 := h1.lt
      have lz71 := h2.lt
      refine wp_call3 (some 57) rfl 47 _ _ _ _ rfl (fun args w => by kernel_rfl) _ _ _ rfl rfl rfl _ (tensorWithRest_c p d d d Wz31.heap.size (rsF p xs) _ (by omega) HSd.out HSd.out HSd.out (fun i j k w9 hi hj hk hb => ⟨rsF_nn hp5.1 xs (by rw [HXl.out]; exact hk), rest1_t i j k Wz31.heap.size w.heap.size b9 (z + 1) c9 d vs p xs w9 (h2.after hb) (ho.below hb) (by omega) (by omega) hk HXl.out⟩)) (fun e Wz67 h => ?_)
      obtain ⟨v7, rfl, hoT, bz68⟩ := h
      replace hB := below_after hB bz68
      replace h1 := h1.after bz68
      replace h2 := h2.after bz68
      replace ho := ho.below bz68
      rw [HTl.out] at hoT
      obtain ⟨A7, c7, rfl, _⟩ := hoT.rd
      rw [HNl.out] at hoT ⊢
      clear bz68
      refine ⟨_, rfl, ?_⟩
      refine hK' _ _ ?_
      clear hK' K'
      go_frame
      refine ls_op rfl (fun K' hK' => ?_)
      refine wp_store_all 31 _ _ rfl rfl w.heap.size rfl #[.int .i64 p, .int .i64 d, .int .i64 d, .int .i64 d, .slice A7 N7 c7] rfl _ _ h1 5 (by kernel_rfl) rfl rfl (one5 _ _ _ _ _ _ _) (fun Wz72 pz73 => ?_)
      replace hB := pz73.below hB (by omega)
      replace h2 := pz73.other h2 (by omega)
      replace ho := ho.put pz73 (ho.off h1 (by decide))
      replace hoT := hoT.put pz73 (hoT.ne_lt9 (by omega))
      replace h1 : At Wz72 w.heap.size (.cells #[.int .i64 p, .int .i64 d, .int .i64 d, .int .i64 d, .slice A7 N7 c7] 31 (0, 0)) := pz73.at_
      refine hK' _ _ ?_
      clear hK' K' pz73
      refine ls_ex (some 5) (.int .i64 0) rfl rfl (exec_assign _ rfl (.int .i64 0) rfl) ?_
      go_frame
      refine wpList_nil ?_
      go_wp2_with fail
      refine bodyPost_ret (results_at2 rfl _ _ w.heap.size _ _ _ rfl _ rfl h1 Try.underlying31 rfl 5 (by kernel_rfl) rfl) rfl ?_
      unfold ResT tZ tL
      rw [HC.out]
      exact ⟨_, rfl, hoT.mono (by omega), hB⟩
theorem implRestTensor_c (p : Int) (B : Option Addr) (cB : Nat) (xs : List Int) (w : World) (hX : RdI w B xs) (hlen : xs.length ≤ 1048576) : Calls Try.prog 19 #[.int .i64 p, .slice B xs.length cB] w (ResT w (tZ (rsCode p xs) p) (tZ (rsCode p xs) (xs.length : Nat)) (tZ (rsCode p xs) (xs.length : Nat)) (tZ (rsCode p xs) (xs.length : Nat)) (tL (rsCode p xs) (rsL p xs)) (rsCode p xs)) := by
  cases hp : primeB p with
  | false => exact implRest_a p B cB xs w hX hlen hp
  | true =>
    cases hn : (decide (1 ≤ (xs.length : Int)) && decide ((xs.length : Int) ≤ 4)) with
    | false => exact implRest_b p B cB xs w hX hlen hp hn
    | true =>
      cases hl : numsB p xs with
      | false => exact implRest_d p B cB xs w hX hlen hp hn hl
      | true =>
        have hs : rsB p xs = true := by unfold rsB; rw [hp, hn, hl]; rfl
        have h0 := (rsB_parts hs).2.1
        obtain ⟨bB, oB, rfl, _⟩ := hX.at_ (i := 0) (by omega)
        exact implRest_yd p xs.length bB oB cB xs w hX rfl hs
end Go.Proofs.Ytdbcgbbokodndaa
