/-
  spec.l05Side, SliceOf of both sides. (Made by mksl5.py.)
-/
import Derived.Test.YtolgfpcadfjliaaSl4
import Derived.Test.YtolgfpcadfjliaaTen4
namespace Go.Proofs.Ytolgfpcadfjliaa
open Go.RowKit
set_option maxRecDepth 100000
theorem exec_index_arr3 {P : Program} {o : Oper} {a : Act} {w : World} (ty e : TypeId) (x i : Operand) (ho : o.op = .index ty x i) (n k : Nat) (cs : Array Value) (v : Value) (hx : a.eval x = .agg cs) (hi : a.eval i = .int .i64 k)
    (hu : P.underlying ty = some (.array n e)) (d : TypeDesc) (he : P.underlying e = some d) (hd : (match d with | .struct _ | .array _ _ => true | _ => false) = false) (hs : (P.info? e).map (·.size) = some 1) (hk : k < n) (hv : cs[k]? = some v) :
    (execOp a.eval o).run P w = .ok (.value v) w := by
  obtain ⟨ie, hie, hse⟩ := Option.map_eq_some_iff.1 hs
  have hagg : (isAgg e).run P w = .ok false w := by
    unfold isAgg
    rw [Sem.run_bind, run_underlying he w]
    cases d <;> simp_all
  have h1 : (0 : Int) ≤ k ∧ (k : Int) < n := ⟨by omega, by omega⟩
  unfold execOp
  simp [ho, hx, hi, Instr.index, asIntOf, run_underlying hu, h1, sizeOf, typeInfo, hie, hse, part, hagg, hk, hv]
theorem implIsTensorN_c (p i j k : Int) (A : Option Addr) (N c : Nat) (xs : List Int) (w : World) (hN : xs.length = N) (hr : RdI w A xs) (hn : N ≤ 1048576) :
    Calls Try.prog 30 #[.agg #[.int .i64 p, .int .i64 i, .int .i64 j, .int .i64 k, .slice A N c]] w fun e w' => e = .returned (.bool (tenB p i j k xs)) ∧ Below w.heap.size w w' := by
  subst hN
  exact implIsTensor_c p i j k A c xs w hr hn
theorem l05IsN_c (p i j k : Int) (A : Option Addr) (N c : Nat) (xs : List Int) (w : World) (hN : xs.length = N) (hr : RdI w A xs) (hn : N ≤ 1048576) :
    Calls Try.prog 25 #[.agg #[.int .i64 p, .int .i64 i, .int .i64 j, .int .i64 k, .slice A N c]] w fun e w' => e = .returned (.bool (tenB p i j k xs)) ∧ Below w.heap.size w w' := by
  subst hN
  exact l05Is_c p i j k A c xs w hr hn
attribute [local irreducible] wpList
theorem ten_natsT {p a b d : Int} {xs : List Int} (h : tenB p a b d xs = true) : ∃ A B D : Nat, a = A ∧ b = B ∧ d = D := by
  unfold tenB sideB at h
  simp only [Bool.and_eq_true, decide_eq_true_eq] at h
  exact ⟨a.toNat, b.toNat, d.toNat, by omega, by omega, by omega⟩
def OwnP (w : World) (lo : Nat) (v : Value) (n : Nat) (row : Nat → List Int) : Prop := ∃ hi, hi ≤ w.heap.size ∧ OwnR w lo hi v n row
theorem OwnP.below {w w' : World} {lo n : Nat} {v : Value} {row : Nat → List Int} (h : OwnP w lo v n row) (hb : Below w.heap.size w w') : OwnP w' lo v n row := by
  obtain ⟨hi, h1, h2⟩ := h
  exact ⟨hi, Nat.le_trans h1 hb.size, h2.below hb⟩
theorem OwnP.drew {w : World} {lo n : Nat} {v : Value} {row : Nat → List Int} (h : OwnP w lo v n row) : OwnP w.drew lo v n row := h.below (Below.refl _ _).drew
theorem OwnP.of {w : World} {lo n : Nat} {v : Value} {row : Nat → List Int} (h : OwnR w lo w.heap.size v n row) : OwnP w lo v n row := ⟨_, Nat.le_refl _, h⟩
theorem OwnU.of {w : World} {lo n : Nat} {v : Value} {row : Nat → List Int} (h : OwnV w lo w.heap.size v n row) : OwnU w lo v n row := ⟨_, Nat.le_refl _, h⟩
def slOK (p a b d S T : Int) (xs : List Int) : Bool := tenB p a b d xs && (inB S 3 && inB T (if S = 0 then a else if S = 1 then b else d))
def slQ (p a b d S : Int) (xs : List Int) : Nat × Nat × Nat × List Int := trn p S.toNat (a.toNat, b.toNat, d.toNat, xs)
def slN (p a b d S T : Int) (xs : List Int) : Nat := if slOK p a b d S T xs = true then (slQ p a b d S xs).2.1 else 0
def slG (q : Nat × Nat × Nat × List Int) (t : Nat) : Nat → List Int := slR q.2.2.1 ((q.2.2.2.drop (t * (q.2.1 * q.2.2.1))).take (q.2.1 * q.2.2.1))
def slF (p a b d S T : Int) (xs : List Int) : Nat → List Int := slG (slQ p a b d S xs) T.toNat
def slCode (p a b d S T : Int) (xs : List Int) : Int := if tenB p a b d xs = true then (if slOK p a b d S T xs = true then 0 else 2) else 1
theorem turnedTo_q (p : Int) (a0 b0 d0 S : Nat) (bB oB c0 N : Nat) (xs0 : List Int) (sv : Int) (w : World) (q1 q2 q3 : Nat) (q4 : List Int) (hq : trn p S (a0, b0, d0, xs0) = (q1, q2, q3, q4)) (hsv : sv = S) (hX : RdI w (some ⟨bB, oB, none⟩) xs0) (hxl : xs0.length = N) (hs : tenB p a0 b0 d0 xs0 = true) (hS : S ≤ 2) (hc0 : N ≤ c0) :
    Calls Try.prog 34 #[.agg #[.int .i64 p, .int .i64 a0, .int .i64 b0, .int .i64 d0, .slice (some ⟨bB, oB, none⟩) N c0], .int .i64 sv] w fun e w' => ∃ b9 o9 c9 : Nat, e = .returned (.agg #[.int .i64 p, .int .i64 q1, .int .i64 q2, .int .i64 q3, .slice (some ⟨b9, o9, none⟩) N c9]) ∧ N ≤ c9 ∧ q4.length = N ∧ tenB p q1 q2 q3 q4 = true ∧ RdI w' (some ⟨b9, o9, none⟩) q4 ∧ Below w.heap.size w w' := by
  subst hsv
  refine (turnedTo_c p a0 b0 d0 S bB oB c0 N xs0 w hX hxl hs hS hc0).mono ?_
  rintro e w' ⟨A, c, rfl, h1, h2, h3, h4, h5⟩
  rw [hq] at h2 h3 h4
  rw [hq]
  have h9 := (ten_parts h3).2
  have hN : 0 < q4.length := by rw [h9.2.2.2.1]; exact Nat.mul_pos (Nat.mul_pos (by omega) (by omega)) (by omega)
  obtain ⟨b9, o9, rfl, _⟩ := h4.at_ (i := 0) hN
  exact ⟨b9, o9, c, rfl, h1, h2, h3, h4, h5⟩
theorem l05Turned_q (p : Int) (a0 b0 d0 S : Nat) (bB oB c0 N : Nat) (xs0 : List Int) (sv : Int) (w : World) (q1 q2 q3 : Nat) (q4 : List Int) (hq : trn p S (a0, b0, d0, xs0) = (q1, q2, q3, q4)) (hsv : sv = S) (hX : RdI w (some ⟨bB, oB, none⟩) xs0) (hxl : xs0.length = N) (hs : tenB p a0 b0 d0 xs0 = true) (hS : S ≤ 2) (hc0 : N ≤ c0) :
    Calls Try.prog 29 #[.agg #[.int .i64 p, .int .i64 a0, .int .i64 b0, .int .i64 d0, .slice (some ⟨bB, oB, none⟩) N c0], .int .i64 sv] w fun e w' => ∃ b9 o9 c9 : Nat, e = .returned (.agg #[.int .i64 p, .int .i64 q1, .int .i64 q2, .int .i64 q3, .slice (some ⟨b9, o9, none⟩) N c9]) ∧ N ≤ c9 ∧ q4.length = N ∧ tenB p q1 q2 q3 q4 = true ∧ RdI w' (some ⟨b9, o9, none⟩) q4 ∧ Below w.heap.size w w' := by
  subst hsv
  refine (l05Turned_c p a0 b0 d0 S bB oB c0 N xs0 w hX hxl hs hS hc0).mono ?_
  rintro e w' ⟨A, c, rfl, h1, h2, h3, h4, h5⟩
  rw [hq] at h2 h3 h4
  rw [hq]
  have h9 := (ten_parts h3).2
  have hN : 0 < q4.length := by rw [h9.2.2.2.1]; exact Nat.mul_pos (Nat.mul_pos (by omega) (by omega)) (by omega)
  obtain ⟨b9, o9, rfl, _⟩ := h4.at_ (i := 0) hN
  exact ⟨b9, o9, c, rfl, h1, h2, h3, h4, h5⟩
set_option maxHeartbeats 4000000 in
theorem l05Side0_c (p a b d : Int) (v : Value) (w : World) :
    Calls Try.prog 27 #[.agg #[.int .i64 p, .int .i64 a, .int .i64 b, .int .i64 d, v], .int .i64 0] w (fun e w' => e = .returned (.int .i64 a) ∧ Below w.heap.size w w') := by
  have hB := Below.refl w.heap.size w
  clear hB
  have hB := Below.refl w.heap.size w
  go_enter Try.func27, Try.ntmps27
  go_upto_region 0 with (fail)
  refine wp_region_lit ?_
  refine ls_op rfl (fun K' hK' => ?_)
  have lz1 := hB.size
  refine wp_new (some 2) rfl (exec_box 29 _ rfl (#[.int .i64 p, .int .i64 a, .int .i64 b, .int .i64 d, v]) rfl) (fun Wz2 nnz3 => ?_)
  have bz4 := nnz3.below (Below.refl _ _) (Nat.le_refl _)
  replace hB := below_after hB bz4
  have hz5 : At Wz2 w.heap.size (.cells #[.int .i64 p, .int .i64 a, .int .i64 b, .int .i64 d, v] 29 (0, 0)) := nnz3.at_
  refine hK' _ _ ?_
  clear hK' K' nnz3 bz4
  go_frame
  refine ls_ex (some 4) (.int .i64 0) rfl rfl (exec_assign _ rfl (.int .i64 0) rfl) ?_
  go_frame
  refine wpList_nil ?_
  go_upto_region 1 with (fail)
  refine wp_region_lit ?_
  refine ls_ex (some 5) (.int .i64 0) rfl rfl (exec_move _ rfl (.int .i64 0) rfl) ?_
  go_frame
  refine wpList_nil ?_
  go_upto_region 2 with (fail)
  refine wp_region_lit ?_
  refine ls_ex (some 7) (.bool true) rfl rfl (exec_eql _ _ _ _ rfl 0 0 rfl rfl true rfl) ?_
  go_frame
  refine ls_ex (some 6) (.bool true) rfl rfl (exec_assign _ rfl (.bool true) rfl) ?_
  go_frame
  refine wpList_nil ?_
  go_upto_region 3 with (fail)
  refine wp_region_lit ?_
  refine ls_ex (some 8) (.pointer (some ⟨w.heap.size, 1, none⟩)) rfl rfl (exec_fieldAddr 29 _ 1 rfl _ (by kernel_rfl)) ?_
  go_frame
  refine ls_ex (some 9) (.int .i64 a) rfl rfl (exec_load_one 2 _ rfl w.heap.size 1 rfl (.int .i64 a) _ Try.underlying2 rfl (hz5.at_ 1)) ?_
  go_frame
  refine ls_ex (some 4) (.int .i64 a) rfl rfl (exec_assign _ rfl (.int .i64 a) rfl) ?_
  go_frame
  refine wpList_nil ?_
  go_wp2_with fail
  go_ret
  exact ⟨rfl, hB⟩
set_option maxHeartbeats 4000000 in
theorem l05Side1_c (p a b d : Int) (v : Value) (w : World) :
    Calls Try.prog 27 #[.agg #[.int .i64 p, .int .i64 a, .int .i64 b, .int .i64 d, v], .int .i64 1] w (fun e w' => e = .returned (.int .i64 b) ∧ Below w.heap.size w w') := by
  have hB := Below.refl w.heap.size w
  clear hB
  have hB := Below.refl w.heap.size w
  go_enter Try.func27, Try.ntmps27
  go_upto_region 0 with (fail)
  refine wp_region_lit ?_
  refine ls_op rfl (fun K' hK' => ?_)
  have lz1 := hB.size
  refine wp_new (some 2) rfl (exec_box 29 _ rfl (#[.int .i64 p, .int .i64 a, .int .i64 b, .int .i64 d, v]) rfl) (fun Wz2 nnz3 => ?_)
  have bz4 := nnz3.below (Below.refl _ _) (Nat.le_refl _)
  replace hB := below_after hB bz4
  have hz5 : At Wz2 w.heap.size (.cells #[.int .i64 p, .int .i64 a, .int .i64 b, .int .i64 d, v] 29 (0, 0)) := nnz3.at_
  refine hK' _ _ ?_
  clear hK' K' nnz3 bz4
  go_frame
  refine ls_ex (some 4) (.int .i64 0) rfl rfl (exec_assign _ rfl (.int .i64 0) rfl) ?_
  go_frame
  refine wpList_nil ?_
  go_upto_region 1 with (fail)
  refine wp_region_lit ?_
  refine ls_ex (some 5) (.int .i64 1) rfl rfl (exec_move _ rfl (.int .i64 1) rfl) ?_
  go_frame
  refine wpList_nil ?_
  go_upto_region 2 with (fail)
  refine wp_region_lit ?_
  refine ls_ex (some 7) (.bool false) rfl rfl (exec_eql _ _ _ _ rfl 1 0 rfl rfl false rfl) ?_
  go_frame
  refine ls_ex (some 6) (.bool false) rfl rfl (exec_assign _ rfl (.bool false) rfl) ?_
  go_frame
  refine wpList_nil ?_
  go_upto_region 4 with (fail)
  refine wp_region_lit ?_
  refine ls_ex (some 11) (.bool true) rfl rfl (exec_eql _ _ _ _ rfl 1 1 rfl rfl true rfl) ?_
  go_frame
  refine ls_ex (some 10) (.bool true) rfl rfl (exec_assign _ rfl (.bool true) rfl) ?_
  go_frame
  refine wpList_nil ?_
  go_upto_region 5 with (fail)
  refine wp_region_lit ?_
  refine ls_ex (some 12) (.pointer (some ⟨w.heap.size, 2, none⟩)) rfl rfl (exec_fieldAddr 29 _ 2 rfl _ (by kernel_rfl)) ?_
  go_frame
  refine ls_ex (some 13) (.int .i64 b) rfl rfl (exec_load_one 2 _ rfl w.heap.size 2 rfl (.int .i64 b) _ Try.underlying2 rfl (hz5.at_ 2)) ?_
  go_frame
  refine ls_ex (some 4) (.int .i64 b) rfl rfl (exec_assign _ rfl (.int .i64 b) rfl) ?_
  go_frame
  refine wpList_nil ?_
  go_wp2_with fail
  go_ret
  exact ⟨rfl, hB⟩
set_option maxHeartbeats 4000000 in
theorem l05Side2_c (p a b d : Int) (v : Value) (w : World) :
    Calls Try.prog 27 #[.agg #[.int .i64 p, .int .i64 a, .int .i64 b, .int .i64 d, v], .int .i64 2] w (fun e w' => e = .returned (.int .i64 d) ∧ Below w.heap.size w w') := by
  have hB := Below.refl w.heap.size w
  clear hB
  have hB := Below.refl w.heap.size w
  go_enter Try.func27, Try.ntmps27
  go_upto_region 0 with (fail)
  refine wp_region_lit ?_
  refine ls_op rfl (fun K' hK' => ?_)
  have lz1 := hB.size
  refine wp_new (some 2) rfl (exec_box 29 _ rfl (#[.int .i64 p, .int .i64 a, .int .i64 b, .int .i64 d, v]) rfl) (fun Wz2 nnz3 => ?_)
  have bz4 := nnz3.below (Below.refl _ _) (Nat.le_refl _)
  replace hB := below_after hB bz4
  have hz5 : At Wz2 w.heap.size (.cells #[.int .i64 p, .int .i64 a, .int .i64 b, .int .i64 d, v] 29 (0, 0)) := nnz3.at_
  refine hK' _ _ ?_
  clear hK' K' nnz3 bz4
  go_frame
  refine ls_ex (some 4) (.int .i64 0) rfl rfl (exec_assign _ rfl (.int .i64 0) rfl) ?_
  go_frame
  refine wpList_nil ?_
  go_upto_region 1 with (fail)
  refine wp_region_lit ?_
  refine ls_ex (some 5) (.int .i64 2) rfl rfl (exec_move _ rfl (.int .i64 2) rfl) ?_
  go_frame
  refine wpList_nil ?_
  go_upto_region 2 with (fail)
  refine wp_region_lit ?_
  refine ls_ex (some 7) (.bool false) rfl rfl (exec_eql _ _ _ _ rfl 2 0 rfl rfl false rfl) ?_
  go_frame
  refine ls_ex (some 6) (.bool false) rfl rfl (exec_assign _ rfl (.bool false) rfl) ?_
  go_frame
  refine wpList_nil ?_
  go_upto_region 4 with (fail)
  refine wp_region_lit ?_
  refine ls_ex (some 11) (.bool false) rfl rfl (exec_eql _ _ _ _ rfl 2 1 rfl rfl false rfl) ?_
  go_frame
  refine ls_ex (some 10) (.bool false) rfl rfl (exec_assign _ rfl (.bool false) rfl) ?_
  go_frame
  refine wpList_nil ?_
  go_upto_region 6 with (fail)
  refine wp_region_lit ?_
  refine ls_ex (some 14) (.pointer (some ⟨w.heap.size, 3, none⟩)) rfl rfl (exec_fieldAddr 29 _ 3 rfl _ (by kernel_rfl)) ?_
  go_frame
  refine ls_ex (some 15) (.int .i64 d) rfl rfl (exec_load_one 2 _ rfl w.heap.size 3 rfl (.int .i64 d) _ Try.underlying2 rfl (hz5.at_ 3)) ?_
  go_frame
  refine ls_ex (some 4) (.int .i64 d) rfl rfl (exec_assign _ rfl (.int .i64 d) rfl) ?_
  go_frame
  refine wpList_nil ?_
  go_wp2_with fail
  go_ret
  exact ⟨rfl, hB⟩
set_option maxHeartbeats 4000000 in
theorem specSl_a (p a b d S T : Int) (A : Option Addr) (c : Nat) (xs : List Int) (w : World) (hX : RdI w A xs) (hlen : xs.length ≤ 1048576) (hs : tenB p a b d xs = false) :
    Calls Try.prog 7 #[.agg #[.int .i64 p, .int .i64 a, .int .i64 b, .int .i64 d, .slice A xs.length c], .int .i64 S, .int .i64 T] w (ResV w (slN p a b d S T xs) (slF p a b d S T xs) (slCode p a b d S T xs)) := by
  have hB := Below.refl w.heap.size w
  have HN : Hid (slN p a b d S T xs = 0) := Lib.hid (by unfold slN slOK; rw [hs]; rfl)
  have HC : Hid (slCode p a b d S T xs = 1) := Lib.hid (by unfold slCode; rw [hs]; rfl)
  have Hs := Lib.hid hs
  clear hs
  go_enter Try.func7, Try.ntmps7
  go_upto_region 0 with (fail)
  refine wp_region_lit ?_
  refine ls_op rfl (fun K' hK' => ?_)
  have lz1 := hB.size
  refine wp_new (some 3) rfl (exec_box 29 _ rfl (#[.int .i64 p, .int .i64 a, .int .i64 b, .int .i64 d, .slice A xs.length c]) rfl) (fun Wz2 nnz3 => ?_)
  have bz4 := nnz3.below (Below.refl _ _) (Nat.le_refl _)
  replace hB := below_after hB bz4
  have hz5 : At Wz2 w.heap.size (.cells #[.int .i64 p, .int .i64 a, .int .i64 b, .int .i64 d, .slice A xs.length c] 29 (0, 0)) := nnz3.at_
  refine hK' _ _ ?_
  clear hK' K' nnz3 bz4
  go_frame
  refine ls_ex (some 6) (.slice none 0 0) rfl rfl (exec_assign _ rfl (.slice none 0 0) rfl) ?_
  go_frame
  refine ls_ex (some 7) (.int .i64 0) rfl rfl (exec_assign _ rfl (.int .i64 0) rfl) ?_
  go_frame
  refine wpList_nil ?_
  go_upto_region 1 with (fail)
  refine wp_region_lit ?_
  refine ls_ex (some 9) (.agg #[.int .i64 p, .int .i64 a, .int .i64 b, .int .i64 d, .slice A xs.length c]) rfl rfl (exec_load_all 29 _ rfl w.heap.size rfl _ _ _ hz5 Try.underlying29 rfl 5 (by kernel_rfl) rfl) ?_
  go_frame
  refine ls_op rfl (fun K' hK' => ?_)
  have lz8 := hB.size
  have lz9 := hz5.lt
  refine wp_call1 (some 10) rfl 25 _ _ rfl (fun args w => by kernel_rfl) _ rfl _ (l05Is_c p a b d A c xs _ (hX.keep hB) (by omega)) (fun e Wz6 h => ?_)
  obtain ⟨rfl, bz7⟩ := h
  replace hB := below_after hB bz7
  replace hz5 := hz5.after bz7
  rw [Hs.out]
  clear bz7
  refine ⟨_, rfl, ?_⟩
  refine hK' _ _ ?_
  clear hK' K'
  go_frame
  refine ls_ex (some 11) (.bool true) rfl rfl (exec_not _ _ rfl false rfl) ?_
  go_frame
  refine ls_ex (some 8) (.bool true) rfl rfl (exec_assign _ rfl (.bool true) rfl) ?_
  go_frame
  refine wpList_nil ?_
  go_upto_region 2 with (fail)
  refine wp_region_lit ?_
  refine ls_ex (some 6) (.slice none 0 0) rfl rfl (exec_assign _ rfl (.slice none 0 0) rfl) ?_
  go_frame
  refine ls_ex (some 7) (.int .i64 1) rfl rfl (exec_assign _ rfl (.int .i64 1) rfl) ?_
  go_frame
  refine wpList_nil ?_
  go_wp2_with fail
  go_ret2
  exact ⟨_, by rw [HC.out]; rfl, by rw [HN.out]; exact OwnV.nil _ _ _ _, hB⟩
set_option maxHeartbeats 4000000 in
theorem specSl_b (p a b d S T : Int) (A : Option Addr) (c : Nat) (xs : List Int) (w : World) (hX : RdI w A xs) (hlen : xs.length ≤ 1048576) (hs : tenB p a b d xs = true) (hS : inB S 3 = false) :
    Calls Try.prog 7 #[.agg #[.int .i64 p, .int .i64 a, .int .i64 b, .int .i64 d, .slice A xs.length c], .int .i64 S, .int .i64 T] w (ResV w (slN p a b d S T xs) (slF p a b d S T xs) (slCode p a b d S T xs)) := by
  have hB := Below.refl w.heap.size w
  have h0 : slOK p a b d S T xs = false := by unfold slOK; rw [hS, Bool.false_and, Bool.and_false]
  have HN : Hid (slN p a b d S T xs = 0) := Lib.hid (by unfold slN; rw [h0]; rfl)
  have HC : Hid (slCode p a b d S T xs = 2) := Lib.hid (by unfold slCode; rw [hs, h0]; rfl)
  have Hs := Lib.hid hs
  have HS3 := Lib.hid hS
  clear hs hS h0
  go_enter Try.func7, Try.ntmps7
  go_upto_region 0 with (fail)
  refine wp_region_lit ?_
  refine ls_op rfl (fun K' hK' => ?_)
  have lz1 := hB.size
  refine wp_new (some 3) rfl (exec_box 29 _ rfl (#[.int .i64 p, .int .i64 a, .int .i64 b, .int .i64 d, .slice A xs.length c]) rfl) (fun Wz2 nnz3 => ?_)
  have bz4 := nnz3.below (Below.refl _ _) (Nat.le_refl _)
  replace hB := below_after hB bz4
  have hz5 : At Wz2 w.heap.size (.cells #[.int .i64 p, .int .i64 a, .int .i64 b, .int .i64 d, .slice A xs.length c] 29 (0, 0)) := nnz3.at_
  refine hK' _ _ ?_
  clear hK' K' nnz3 bz4
  go_frame
  refine ls_ex (some 6) (.slice none 0 0) rfl rfl (exec_assign _ rfl (.slice none 0 0) rfl) ?_
  go_frame
  refine ls_ex (some 7) (.int .i64 0) rfl rfl (exec_assign _ rfl (.int .i64 0) rfl) ?_
  go_frame
  refine wpList_nil ?_
  go_upto_region 1 with (fail)
  refine wp_region_lit ?_
  refine ls_ex (some 9) (.agg #[.int .i64 p, .int .i64 a, .int .i64 b, .int .i64 d, .slice A xs.length c]) rfl rfl (exec_load_all 29 _ rfl w.heap.size rfl _ _ _ hz5 Try.underlying29 rfl 5 (by kernel_rfl) rfl) ?_
  go_frame
  refine ls_op rfl (fun K' hK' => ?_)
  have lz8 := hB.size
  have lz9 := hz5.lt
  refine wp_call1 (some 10) rfl 25 _ _ rfl (fun args w => by kernel_rfl) _ rfl _ (l05Is_c p a b d A c xs _ (hX.keep hB) (by omega)) (fun e Wz6 h => ?_)
  obtain ⟨rfl, bz7⟩ := h
  replace hB := below_after hB bz7
  replace hz5 := hz5.after bz7
  rw [Hs.out]
  clear bz7
  refine ⟨_, rfl, ?_⟩
  refine hK' _ _ ?_
  clear hK' K'
  go_frame
  refine ls_ex (some 11) (.bool false) rfl rfl (exec_not _ _ rfl true rfl) ?_
  go_frame
  refine ls_ex (some 8) (.bool false) rfl rfl (exec_assign _ rfl (.bool false) rfl) ?_
  go_frame
  refine wpList_nil ?_
  go_upto_region 3 with (fail)
  refine wp_region_lit ?_
  refine ls_ex (some 13) (.int .i64 S) rfl rfl (exec_move _ rfl (.int .i64 S) rfl) ?_
  go_frame
  refine ls_op rfl (fun K' hK' => ?_)
  have lz12 := hB.size
  have lz13 := hz5.lt
  refine wp_call3 (some 14) rfl 26 _ _ _ _ rfl (fun args w => by kernel_rfl) _ _ _ rfl rfl rfl _ (l01In_idx S 3 2 rfl _) (fun e Wz10 h => ?_)
  obtain ⟨rfl, rfl⟩ := h
  rw [HS3.out]
  refine ⟨_, rfl, ?_⟩
  refine hK' _ _ ?_
  clear hK' K'
  go_frame
  refine ls_ex (some 15) (.bool true) rfl rfl (exec_not _ _ rfl false rfl) ?_
  go_frame
  refine ls_ex (some 16) (.bool true) rfl rfl (exec_move _ rfl (.bool true) rfl) ?_
  go_frame
  refine ls_skip_g (some 17) rfl rfl ?_
  go_frame
  refine ls_skip_g (some 18) rfl rfl ?_
  go_frame
  refine ls_skip_g (some 19) rfl rfl ?_
  go_frame
  refine ls_skip_g (some 20) rfl rfl ?_
  go_frame
  refine ls_skip_g (some 21) rfl rfl ?_
  go_frame
  refine ls_skip_g (some 22) rfl rfl ?_
  go_frame
  refine ls_skip_g (some 23) rfl rfl ?_
  go_frame
  refine ls_ex (some 24) (.bool true) rfl rfl (exec_pick _ _ _ rfl true rfl (.bool true) rfl) ?_
  go_frame
  refine ls_ex (some 12) (.bool true) rfl rfl (exec_assign _ rfl (.bool true) rfl) ?_
  go_frame
  refine wpList_nil ?_
  go_upto_region 4 with (fail)
  refine wp_region_lit ?_
  refine ls_ex (some 6) (.slice none 0 0) rfl rfl (exec_assign _ rfl (.slice none 0 0) rfl) ?_
  go_frame
  refine ls_ex (some 7) (.int .i64 2) rfl rfl (exec_assign _ rfl (.int .i64 2) rfl) ?_
  go_frame
  refine wpList_nil ?_
  go_wp2_with fail
  go_ret2
  exact ⟨_, by rw [HC.out]; rfl, by rw [HN.out]; exact OwnV.nil _ _ _ _, hB⟩
set_option maxHeartbeats 4000000 in
theorem specSl_n0 (p : Int) (a b d : Nat) (T : Int) (bB oB c0 N : Nat) (xs : List Int) (w : World) (hX : RdI w (some ⟨bB, oB, none⟩) xs) (hxl : xs.length = N) (hs : tenB p a b d xs = true) (hT : inB T a = false) :
    Calls Try.prog 7 #[.agg #[.int .i64 p, .int .i64 a, .int .i64 b, .int .i64 d, .slice (some ⟨bB, oB, none⟩) N c0], .int .i64 0, .int .i64 T] w (ResV w (slN p a b d 0 T xs) (slF p a b d 0 T xs) (slCode p a b d 0 T xs)) := by
  have hB := Below.refl w.heap.size w
  have h0 : slOK p a b d 0 T xs = false := by unfold slOK; simp [hT]
  have HN : Hid (slN p a b d 0 T xs = 0) := Lib.hid (by unfold slN; rw [h0]; rfl)
  have HC : Hid (slCode p a b d 0 T xs = 2) := Lib.hid (by unfold slCode; rw [hs, h0]; rfl)
  have HS3 : Hid (inB 0 3 = true) := Lib.hid rfl
  have HT3 := Lib.hid hT
  have Hs := Lib.hid hs
  have HXl := Lib.hid hxl
  have hdm := (ten_parts hs).2
  have ha0 := hdm.1
  have hb0 := hdm.2.1
  have hd0 := hdm.2.2.1
  have hNb : N ≤ 729 := by rw [← hxl, hdm.2.2.2.1]; exact Nat.le_trans (Nat.mul_le_mul (Nat.mul_le_mul hdm.1.2 hdm.2.1.2) hdm.2.2.1.2) (by decide)
  clear hs hxl hdm hT h0
  go_enter Try.func7, Try.ntmps7
  go_upto_region 0 with (fail)
  refine wp_region_lit ?_
  refine ls_op rfl (fun K' hK' => ?_)
  have lz1 := hB.size
  refine wp_new (some 3) rfl (exec_box 29 _ rfl (#[.int .i64 p, .int .i64 a, .int .i64 b, .int .i64 d, .slice (some ⟨bB, oB, none⟩) N c0]) rfl) (fun Wz2 nnz3 => ?_)
  have bz4 := nnz3.below (Below.refl _ _) (Nat.le_refl _)
  replace hB := below_after hB bz4
  have hz5 : At Wz2 w.heap.size (.cells #[.int .i64 p, .int .i64 a, .int .i64 b, .int .i64 d, .slice (some ⟨bB, oB, none⟩) N c0] 29 (0, 0)) := nnz3.at_
  refine hK' _ _ ?_
  clear hK' K' nnz3 bz4
  go_frame
  refine ls_ex (some 6) (.slice none 0 0) rfl rfl (exec_assign _ rfl (.slice none 0 0) rfl) ?_
  go_frame
  refine ls_ex (some 7) (.int .i64 0) rfl rfl (exec_assign _ rfl (.int .i64 0) rfl) ?_
  go_frame
  refine wpList_nil ?_
  go_upto_region 1 with (fail)
  refine wp_region_lit ?_
  refine ls_ex (some 9) (.agg #[.int .i64 p, .int .i64 a, .int .i64 b, .int .i64 d, .slice (some ⟨bB, oB, none⟩) N c0]) rfl rfl (exec_load_all 29 _ rfl w.heap.size rfl _ _ _ hz5 Try.underlying29 rfl 5 (by kernel_rfl) rfl) ?_
  go_frame
  refine ls_op rfl (fun K' hK' => ?_)
  have lz8 := hB.size
  have lz9 := hz5.lt
  refine wp_call1 (some 10) rfl 25 _ _ rfl (fun args w => by kernel_rfl) _ rfl _ (l05IsN_c p a b d (some ⟨bB, oB, none⟩) N c0 xs _ HXl.out (hX.keep hB) (by omega)) (fun e Wz6 h => ?_)
  obtain ⟨rfl, bz7⟩ := h
  replace hB := below_after hB bz7
  replace hz5 := hz5.after bz7
  rw [Hs.out]
  clear bz7
  refine ⟨_, rfl, ?_⟩
  refine hK' _ _ ?_
  clear hK' K'
  go_frame
  refine ls_ex (some 11) (.bool false) rfl rfl (exec_not _ _ rfl true rfl) ?_
  go_frame
  refine ls_ex (some 8) (.bool false) rfl rfl (exec_assign _ rfl (.bool false) rfl) ?_
  go_frame
  refine wpList_nil ?_
  go_upto_region 3 with (fail)
  refine wp_region_lit ?_
  refine ls_ex (some 13) (.int .i64 0) rfl rfl (exec_move _ rfl (.int .i64 0) rfl) ?_
  go_frame
  refine ls_op rfl (fun K' hK' => ?_)
  have lz12 := hB.size
  have lz13 := hz5.lt
  refine wp_call3 (some 14) rfl 26 _ _ _ _ rfl (fun args w => by kernel_rfl) _ _ _ rfl rfl rfl _ (l01In_idx 0 3 2 rfl _) (fun e Wz10 h => ?_)
  obtain ⟨rfl, rfl⟩ := h
  rw [HS3.out]
  refine ⟨_, rfl, ?_⟩
  refine hK' _ _ ?_
  clear hK' K'
  go_frame
  refine ls_ex (some 15) (.bool false) rfl rfl (exec_not _ _ rfl true rfl) ?_
  go_frame
  refine ls_ex (some 16) (.bool false) rfl rfl (exec_move _ rfl (.bool false) rfl) ?_
  go_frame
  refine ls_ex_g (some 17) (.int .i64 T) rfl rfl (exec_move _ rfl (.int .i64 T) rfl) ?_
  go_frame
  refine ls_ex_g (some 18) (.agg #[.int .i64 p, .int .i64 a, .int .i64 b, .int .i64 d, .slice (some ⟨bB, oB, none⟩) N c0]) rfl rfl (exec_load_all 29 _ rfl w.heap.size rfl _ _ _ hz5 Try.underlying29 rfl 5 (by kernel_rfl) rfl) ?_
  go_frame
  refine ls_ex_g (some 19) (.int .i64 0) rfl rfl (exec_move _ rfl (.int .i64 0) rfl) ?_
  go_frame
  refine ls_op_g rfl (fun K' hK' => ?_)
  have lz16 := hB.size
  have lz17 := hz5.lt
  refine wp_call2 (some 20) rfl 27 _ _ _ rfl (fun args w => by kernel_rfl) _ _ rfl rfl _ (l05Side0_c p a b d _ _) (fun e Wz14 h => ?_)
  obtain ⟨rfl, bz15⟩ := h
  replace hB := below_after hB bz15
  replace hz5 := hz5.after bz15
  clear bz15
  refine ⟨_, rfl, ?_⟩
  refine hK' _ _ ?_
  clear hK' K'
  go_frame
  refine ls_ex_g (some 21) (.int .i64 (a - 1)) rfl rfl (exec_sub _ _ _ _ rfl a 1 (a - 1) rfl rfl (IntWalk.i64_in _ (by omega))) ?_
  go_frame
  refine ls_op_g rfl (fun K' hK' => ?_)
  have lz20 := hB.size
  have lz21 := hz5.lt
  refine wp_call3 (some 22) rfl 26 _ _ _ _ rfl (fun args w => by kernel_rfl) _ _ _ rfl rfl rfl _ (l01In_idx T a ((a : Int) - 1) rfl _) (fun e Wz18 h => ?_)
  obtain ⟨rfl, rfl⟩ := h
  rw [HT3.out]
  refine ⟨_, rfl, ?_⟩
  refine hK' _ _ ?_
  clear hK' K'
  go_frame
  refine ls_ex_g (some 23) (.bool true) rfl rfl (exec_not _ _ rfl false rfl) ?_
  go_frame
  refine ls_ex (some 24) (.bool true) rfl rfl (exec_pick _ _ _ rfl false rfl (.bool true) rfl) ?_
  go_frame
  refine ls_ex (some 12) (.bool true) rfl rfl (exec_assign _ rfl (.bool true) rfl) ?_
  go_frame
  refine wpList_nil ?_
  go_upto_region 4 with (fail)
  refine wp_region_lit ?_
  refine ls_ex (some 6) (.slice none 0 0) rfl rfl (exec_assign _ rfl (.slice none 0 0) rfl) ?_
  go_frame
  refine ls_ex (some 7) (.int .i64 2) rfl rfl (exec_assign _ rfl (.int .i64 2) rfl) ?_
  go_frame
  refine wpList_nil ?_
  go_wp2_with fail
  go_ret2
  exact ⟨_, by rw [HC.out]; rfl, by rw [HN.out]; exact OwnV.nil _ _ _ _, hB⟩
set_option maxHeartbeats 4000000 in
theorem specSl_y0 (p : Int) (a b d : Nat) (T : Nat) (bB oB c0 N : Nat) (xs : List Int) (w : World) (hX : RdI w (some ⟨bB, oB, none⟩) xs) (hxl : xs.length = N) (hs : tenB p a b d xs = true) (hT : T < a) (hc0 : N ≤ c0) :
    Calls Try.prog 7 #[.agg #[.int .i64 p, .int .i64 a, .int .i64 b, .int .i64 d, .slice (some ⟨bB, oB, none⟩) N c0], .int .i64 0, .int .i64 (T : Nat)] w (ResV w (slN p a b d 0 T xs) (slF p a b d 0 T xs) (slCode p a b d 0 T xs)) := by
  have hB := Below.refl w.heap.size w
  have hTb : inB (T : Nat) a = true := by simp [inB]; omega
  have h0 : slOK p a b d 0 T xs = true := by unfold slOK; rw [hs]; simp [hTb]; rfl
  obtain ⟨q1, q2, q3, q4, hq, hT1⟩ : ∃ q1 q2 q3 q4, trn p 0 (a, b, d, xs) = (q1, q2, q3, q4) ∧ T < q1 := ⟨_, _, _, _, rfl, hT⟩
  obtain ⟨RW, hRW⟩ : ∃ z9, slR q3 ((q4.drop (T * (q2 * q3))).take (q2 * q3)) = z9 := ⟨_, rfl⟩
  have hsq : slQ p a b d 0 xs = (q1, q2, q3, q4) := by rw [← hq]; rfl
  have HN : Hid (slN p a b d 0 T xs = q2) := Lib.hid (by unfold slN; rw [h0, hsq]; rfl)
  have HF : Hid (slF p a b d 0 T xs = RW) := Lib.hid (by unfold slF slG; rw [hsq, Int.toNat_natCast]; exact hRW)
  have HC : Hid (slCode p a b d 0 T xs = 0) := Lib.hid (by unfold slCode; rw [hs, h0]; rfl)
  have HS3 : Hid (inB 0 3 = true) := Lib.hid rfl
  have HT3 := Lib.hid hTb
  have HQ := Lib.hid hq
  have HRW := Lib.hid hRW
  have Hs := Lib.hid hs
  have HXl := Lib.hid hxl
  have hdm := (ten_parts hs).2
  have ha0 := hdm.1
  have hb0 := hdm.2.1
  have hd0 := hdm.2.2.1
  have hNb : N ≤ 729 := by rw [← hxl, hdm.2.2.2.1]; exact Nat.le_trans (Nat.mul_le_mul (Nat.mul_le_mul hdm.1.2 hdm.2.1.2) hdm.2.2.1.2) (by decide)
  clear hs hxl hdm hT h0 hTb hq hsq hRW
  go_enter Try.func7, Try.ntmps7
  go_upto_region 0 with (fail)
  refine wp_region_lit ?_
  refine ls_op rfl (fun K' hK' => ?_)
  have lz1 := hB.size
  refine wp_new (some 3) rfl (exec_box 29 _ rfl (#[.int .i64 p, .int .i64 a, .int .i64 b, .int .i64 d, .slice (some ⟨bB, oB, none⟩) N c0]) rfl) (fun Wz2 nnz3 => ?_)
  have bz4 := nnz3.below (Below.refl _ _) (Nat.le_refl _)
  replace hB := below_after hB bz4
  have hz5 : At Wz2 w.heap.size (.cells #[.int .i64 p, .int .i64 a, .int .i64 b, .int .i64 d, .slice (some ⟨bB, oB, none⟩) N c0] 29 (0, 0)) := nnz3.at_
  refine hK' _ _ ?_
  clear hK' K' nnz3 bz4
  go_frame
  refine ls_ex (some 6) (.slice none 0 0) rfl rfl (exec_assign _ rfl (.slice none 0 0) rfl) ?_
  go_frame
  refine ls_ex (some 7) (.int .i64 0) rfl rfl (exec_assign _ rfl (.int .i64 0) rfl) ?_
  go_frame
  refine wpList_nil ?_
  go_upto_region 1 with (fail)
  refine wp_region_lit ?_
  refine ls_ex (some 9) (.agg #[.int .i64 p, .int .i64 a, .int .i64 b, .int .i64 d, .slice (some ⟨bB, oB, none⟩) N c0]) rfl rfl (exec_load_all 29 _ rfl w.heap.size rfl _ _ _ hz5 Try.underlying29 rfl 5 (by kernel_rfl) rfl) ?_
  go_frame
  refine ls_op rfl (fun K' hK' => ?_)
  have lz8 := hB.size
  have lz9 := hz5.lt
  refine wp_call1 (some 10) rfl 25 _ _ rfl (fun args w => by kernel_rfl) _ rfl _ (l05IsN_c p a b d (some ⟨bB, oB, none⟩) N c0 xs _ HXl.out (hX.keep hB) (by omega)) (fun e Wz6 h => ?_)
  obtain ⟨rfl, bz7⟩ := h
  replace hB := below_after hB bz7
  replace hz5 := hz5.after bz7
  rw [Hs.out]
  clear bz7
  refine ⟨_, rfl, ?_⟩
  refine hK' _ _ ?_
  clear hK' K'
  go_frame
  refine ls_ex (some 11) (.bool false) rfl rfl (exec_not _ _ rfl true rfl) ?_
  go_frame
  refine ls_ex (some 8) (.bool false) rfl rfl (exec_assign _ rfl (.bool false) rfl) ?_
  go_frame
  refine wpList_nil ?_
  go_upto_region 3 with (fail)
  refine wp_region_lit ?_
  refine ls_ex (some 13) (.int .i64 0) rfl rfl (exec_move _ rfl (.int .i64 0) rfl) ?_
  go_frame
  refine ls_op rfl (fun K' hK' => ?_)
  have lz12 := hB.size
  have lz13 := hz5.lt
  refine wp_call3 (some 14) rfl 26 _ _ _ _ rfl (fun args w => by kernel_rfl) _ _ _ rfl rfl rfl _ (l01In_idx 0 3 2 rfl _) (fun e Wz10 h => ?_)
  obtain ⟨rfl, rfl⟩ := h
  rw [HS3.out]
  refine ⟨_, rfl, ?_⟩
  refine hK' _ _ ?_
  clear hK' K'
  go_frame
  refine ls_ex (some 15) (.bool false) rfl rfl (exec_not _ _ rfl true rfl) ?_
  go_frame
  refine ls_ex (some 16) (.bool false) rfl rfl (exec_move _ rfl (.bool false) rfl) ?_
  go_frame
  refine ls_ex_g (some 17) (.int .i64 (T : Nat)) rfl rfl (exec_move _ rfl (.int .i64 (T : Nat)) rfl) ?_
  go_frame
  refine ls_ex_g (some 18) (.agg #[.int .i64 p, .int .i64 a, .int .i64 b, .int .i64 d, .slice (some ⟨bB, oB, none⟩) N c0]) rfl rfl (exec_load_all 29 _ rfl w.heap.size rfl _ _ _ hz5 Try.underlying29 rfl 5 (by kernel_rfl) rfl) ?_
  go_frame
  refine ls_ex_g (some 19) (.int .i64 0) rfl rfl (exec_move _ rfl (.int .i64 0) rfl) ?_
  go_frame
  refine ls_op_g rfl (fun K' hK' => ?_)
  have lz16 := hB.size
  have lz17 := hz5.lt
  refine wp_call2 (some 20) rfl 27 _ _ _ rfl (fun args w => by kernel_rfl) _ _ rfl rfl _ (l05Side0_c p a b d _ _) (fun e Wz14 h => ?_)
  obtain ⟨rfl, bz15⟩ := h
  replace hB := below_after hB bz15
  replace hz5 := hz5.after bz15
  clear bz15
  refine ⟨_, rfl, ?_⟩
  refine hK' _ _ ?_
  clear hK' K'
  go_frame
  refine ls_ex_g (some 21) (.int .i64 (a - 1)) rfl rfl (exec_sub _ _ _ _ rfl a 1 (a - 1) rfl rfl (IntWalk.i64_in _ (by omega))) ?_
  go_frame
  refine ls_op_g rfl (fun K' hK' => ?_)
  have lz20 := hB.size
  have lz21 := hz5.lt
  refine wp_call3 (some 22) rfl 26 _ _ _ _ rfl (fun args w => by kernel_rfl) _ _ _ rfl rfl rfl _ (l01In_idx (T : Nat) a ((a : Int) - 1) rfl _) (fun e Wz18 h => ?_)
  obtain ⟨rfl, rfl⟩ := h
  rw [HT3.out]
  refine ⟨_, rfl, ?_⟩
  refine hK' _ _ ?_
  clear hK' K'
  go_frame
  refine ls_ex_g (some 23) (.bool false) rfl rfl (exec_not _ _ rfl true rfl) ?_
  go_frame
  refine ls_ex (some 24) (.bool false) rfl rfl (exec_pick _ _ _ rfl false rfl (.bool false) rfl) ?_
  go_frame
  refine ls_ex (some 12) (.bool false) rfl rfl (exec_assign _ rfl (.bool false) rfl) ?_
  go_frame
  refine wpList_nil ?_
  go_upto_region 5 with (fail)
  refine wp_region_lit ?_
  refine ls_ex (some 25) (.agg #[.int .i64 p, .int .i64 a, .int .i64 b, .int .i64 d, .slice (some ⟨bB, oB, none⟩) N c0]) rfl rfl (exec_load_all 29 _ rfl w.heap.size rfl _ _ _ hz5 Try.underlying29 rfl 5 (by kernel_rfl) rfl) ?_
  go_frame
  refine ls_ex (some 26) (.int .i64 0) rfl rfl (exec_move _ rfl (.int .i64 0) rfl) ?_
  go_frame
  refine ls_op rfl (fun K' hK' => ?_)
  have lz24 := hB.size
  have lz25 := hz5.lt
  refine wp_call2 (some 27) rfl 29 _ _ _ rfl (fun args w => by kernel_rfl) _ _ rfl rfl _ (l05Turned_q p a b d 0 bB oB c0 N xs 0 _ q1 q2 q3 q4 HQ.out rfl (hX.keep hB) HXl.out Hs.out (by omega) hc0) (fun e Wz22 h => ?_)
  obtain ⟨b9, o9, c9, rfl, hc9, hq5, hq6, hq4, bz23⟩ := h
  replace hB := below_after hB bz23
  replace hz5 := hz5.after bz23
  clear bz23
  refine ⟨_, rfl, ?_⟩
  refine hK' _ _ ?_
  clear hK' K'
  go_frame
  refine ls_ex (some 28) (.int .i64 (T : Nat)) rfl rfl (exec_move _ rfl (.int .i64 (T : Nat)) rfl) ?_
  go_frame
  refine ls_op rfl (fun K' hK' => ?_)
  have lz28 := hB.size
  have lz29 := hz5.lt
  have lo9 := hB.size
  refine wp_call2 (some 29) rfl 28 _ _ _ rfl (fun args w => by kernel_rfl) _ _ rfl rfl _ (l05Slice_c p q1 q2 q3 T b9 o9 c9 N q4 _ hq4 hq5 hq6 hT1) (fun e Wz26 h => ?_)
  obtain ⟨v9, rfl, ho, bz27⟩ := h
  replace hB := below_after hB bz27
  replace hz5 := hz5.after bz27
  replace hq4 := hq4.keep bz27
  rw [HRW.out] at ho
  replace ho := OwnU.of ho
  clear bz27
  refine ⟨_, rfl, ?_⟩
  refine hK' _ _ ?_
  clear hK' K'
  go_frame
  refine ls_ex (some 6) (v9) rfl rfl (exec_assign _ rfl (v9) rfl) ?_
  go_frame
  refine ls_ex (some 7) (.int .i64 0) rfl rfl (exec_assign _ rfl (.int .i64 0) rfl) ?_
  go_frame
  refine wpList_nil ?_
  go_wp2_with fail
  obtain ⟨hi9, hh9, ho9⟩ := ho
  go_ret2
  rw [HN.out, HF.out]
  exact ⟨v9, by rw [HC.out]; rfl, ho9.mono (by omega) hh9, hB⟩
set_option maxHeartbeats 4000000 in
theorem specSl_n1 (p : Int) (a b d : Nat) (T : Int) (bB oB c0 N : Nat) (xs : List Int) (w : World) (hX : RdI w (some ⟨bB, oB, none⟩) xs) (hxl : xs.length = N) (hs : tenB p a b d xs = true) (hT : inB T b = false) :
    Calls Try.prog 7 #[.agg #[.int .i64 p, .int .i64 a, .int .i64 b, .int .i64 d, .slice (some ⟨bB, oB, none⟩) N c0], .int .i64 1, .int .i64 T] w (ResV w (slN p a b d 1 T xs) (slF p a b d 1 T xs) (slCode p a b d 1 T xs)) := by
  have hB := Below.refl w.heap.size w
  have h0 : slOK p a b d 1 T xs = false := by unfold slOK; simp [hT]
  have HN : Hid (slN p a b d 1 T xs = 0) := Lib.hid (by unfold slN; rw [h0]; rfl)
  have HC : Hid (slCode p a b d 1 T xs = 2) := Lib.hid (by unfold slCode; rw [hs, h0]; rfl)
  have HS3 : Hid (inB 1 3 = true) := Lib.hid rfl
  have HT3 := Lib.hid hT
  have Hs := Lib.hid hs
  have HXl := Lib.hid hxl
  have hdm := (ten_parts hs).2
  have ha0 := hdm.1
  have hb0 := hdm.2.1
  have hd0 := hdm.2.2.1
  have hNb : N ≤ 729 := by rw [← hxl, hdm.2.2.2.1]; exact Nat.le_trans (Nat.mul_le_mul (Nat.mul_le_mul hdm.1.2 hdm.2.1.2) hdm.2.2.1.2) (by decide)
  clear hs hxl hdm hT h0
  go_enter Try.func7, Try.ntmps7
  go_upto_region 0 with (fail)
  refine wp_region_lit ?_
  refine ls_op rfl (fun K' hK' => ?_)
  have lz1 := hB.size
  refine wp_new (some 3) rfl (exec_box 29 _ rfl (#[.int .i64 p, .int .i64 a, .int .i64 b, .int .i64 d, .slice (some ⟨bB, oB, none⟩) N c0]) rfl) (fun Wz2 nnz3 => ?_)
  have bz4 := nnz3.below (Below.refl _ _) (Nat.le_refl _)
  replace hB := below_after hB bz4
  have hz5 : At Wz2 w.heap.size (.cells #[.int .i64 p, .int .i64 a, .int .i64 b, .int .i64 d, .slice (some ⟨bB, oB, none⟩) N c0] 29 (0, 0)) := nnz3.at_
  refine hK' _ _ ?_
  clear hK' K' nnz3 bz4
  go_frame
  refine ls_ex (some 6) (.slice none 0 0) rfl rfl (exec_assign _ rfl (.slice none 0 0) rfl) ?_
  go_frame
  refine ls_ex (some 7) (.int .i64 0) rfl rfl (exec_assign _ rfl (.int .i64 0) rfl) ?_
  go_frame
  refine wpList_nil ?_
  go_upto_region 1 with (fail)
  refine wp_region_lit ?_
  refine ls_ex (some 9) (.agg #[.int .i64 p, .int .i64 a, .int .i64 b, .int .i64 d, .slice (some ⟨bB, oB, none⟩) N c0]) rfl rfl (exec_load_all 29 _ rfl w.heap.size rfl _ _ _ hz5 Try.underlying29 rfl 5 (by kernel_rfl) rfl) ?_
  go_frame
  refine ls_op rfl (fun K' hK' => ?_)
  have lz8 := hB.size
  have lz9 := hz5.lt
  refine wp_call1 (some 10) rfl 25 _ _ rfl (fun args w => by kernel_rfl) _ rfl _ (l05IsN_c p a b d (some ⟨bB, oB, none⟩) N c0 xs _ HXl.out (hX.keep hB) (by omega)) (fun e Wz6 h => ?_)
  obtain ⟨rfl, bz7⟩ := h
  replace hB := below_after hB bz7
  replace hz5 := hz5.after bz7
  rw [Hs.out]
  clear bz7
  refine ⟨_, rfl, ?_⟩
  refine hK' _ _ ?_
  clear hK' K'
  go_frame
  refine ls_ex (some 11) (.bool false) rfl rfl (exec_not _ _ rfl true rfl) ?_
  go_frame
  refine ls_ex (some 8) (.bool false) rfl rfl (exec_assign _ rfl (.bool false) rfl) ?_
  go_frame
  refine wpList_nil ?_
  go_upto_region 3 with (fail)
  refine wp_region_lit ?_
  refine ls_ex (some 13) (.int .i64 1) rfl rfl (exec_move _ rfl (.int .i64 1) rfl) ?_
  go_frame
  refine ls_op rfl (fun K' hK' => ?_)
  have lz12 := hB.size
  have lz13 := hz5.lt
  refine wp_call3 (some 14) rfl 26 _ _ _ _ rfl (fun args w => by kernel_rfl) _ _ _ rfl rfl rfl _ (l01In_idx 1 3 2 rfl _) (fun e Wz10 h => ?_)
  obtain ⟨rfl, rfl⟩ := h
  rw [HS3.out]
  refine ⟨_, rfl, ?_⟩
  refine hK' _ _ ?_
  clear hK' K'
  go_frame
  refine ls_ex (some 15) (.bool false) rfl rfl (exec_not _ _ rfl true rfl) ?_
  go_frame
  refine ls_ex (some 16) (.bool false) rfl rfl (exec_move _ rfl (.bool false) rfl) ?_
  go_frame
  refine ls_ex_g (some 17) (.int .i64 T) rfl rfl (exec_move _ rfl (.int .i64 T) rfl) ?_
  go_frame
  refine ls_ex_g (some 18) (.agg #[.int .i64 p, .int .i64 a, .int .i64 b, .int .i64 d, .slice (some ⟨bB, oB, none⟩) N c0]) rfl rfl (exec_load_all 29 _ rfl w.heap.size rfl _ _ _ hz5 Try.underlying29 rfl 5 (by kernel_rfl) rfl) ?_
  go_frame
  refine ls_ex_g (some 19) (.int .i64 1) rfl rfl (exec_move _ rfl (.int .i64 1) rfl) ?_
  go_frame
  refine ls_op_g rfl (fun K' hK' => ?_)
  have lz16 := hB.size
  have lz17 := hz5.lt
  refine wp_call2 (some 20) rfl 27 _ _ _ rfl (fun args w => by kernel_rfl) _ _ rfl rfl _ (l05Side1_c p a b d _ _) (fun e Wz14 h => ?_)
  obtain ⟨rfl, bz15⟩ := h
  replace hB := below_after hB bz15
  replace hz5 := hz5.after bz15
  clear bz15
  refine ⟨_, rfl, ?_⟩
  refine hK' _ _ ?_
  clear hK' K'
  go_frame
  refine ls_ex_g (some 21) (.int .i64 (b - 1)) rfl rfl (exec_sub _ _ _ _ rfl b 1 (b - 1) rfl rfl (IntWalk.i64_in _ (by omega))) ?_
  go_frame
  refine ls_op_g rfl (fun K' hK' => ?_)
  have lz20 := hB.size
  have lz21 := hz5.lt
  refine wp_call3 (some 22) rfl 26 _ _ _ _ rfl (fun args w => by kernel_rfl) _ _ _ rfl rfl rfl _ (l01In_idx T b ((b : Int) - 1) rfl _) (fun e Wz18 h => ?_)
  obtain ⟨rfl, rfl⟩ := h
  rw [HT3.out]
  refine ⟨_, rfl, ?_⟩
  refine hK' _ _ ?_
  clear hK' K'
  go_frame
  refine ls_ex_g (some 23) (.bool true) rfl rfl (exec_not _ _ rfl false rfl) ?_
  go_frame
  refine ls_ex (some 24) (.bool true) rfl rfl (exec_pick _ _ _ rfl false rfl (.bool true) rfl) ?_
  go_frame
  refine ls_ex (some 12) (.bool true) rfl rfl (exec_assign _ rfl (.bool true) rfl) ?_
  go_frame
  refine wpList_nil ?_
  go_upto_region 4 with (fail)
  refine wp_region_lit ?_
  refine ls_ex (some 6) (.slice none 0 0) rfl rfl (exec_assign _ rfl (.slice none 0 0) rfl) ?_
  go_frame
  refine ls_ex (some 7) (.int .i64 2) rfl rfl (exec_assign _ rfl (.int .i64 2) rfl) ?_
  go_frame
  refine wpList_nil ?_
  go_wp2_with fail
  go_ret2
  exact ⟨_, by rw [HC.out]; rfl, by rw [HN.out]; exact OwnV.nil _ _ _ _, hB⟩
set_option maxHeartbeats 4000000 in
theorem specSl_y1 (p : Int) (a b d : Nat) (T : Nat) (bB oB c0 N : Nat) (xs : List Int) (w : World) (hX : RdI w (some ⟨bB, oB, none⟩) xs) (hxl : xs.length = N) (hs : tenB p a b d xs = true) (hT : T < b) (hc0 : N ≤ c0) :
    Calls Try.prog 7 #[.agg #[.int .i64 p, .int .i64 a, .int .i64 b, .int .i64 d, .slice (some ⟨bB, oB, none⟩) N c0], .int .i64 1, .int .i64 (T : Nat)] w (ResV w (slN p a b d 1 T xs) (slF p a b d 1 T xs) (slCode p a b d 1 T xs)) := by
  have hB := Below.refl w.heap.size w
  have hTb : inB (T : Nat) b = true := by simp [inB]; omega
  have h0 : slOK p a b d 1 T xs = true := by unfold slOK; rw [hs]; simp [hTb]; rfl
  obtain ⟨q1, q2, q3, q4, hq, hT1⟩ : ∃ q1 q2 q3 q4, trn p 1 (a, b, d, xs) = (q1, q2, q3, q4) ∧ T < q1 := ⟨_, _, _, _, rfl, hT⟩
  obtain ⟨RW, hRW⟩ : ∃ z9, slR q3 ((q4.drop (T * (q2 * q3))).take (q2 * q3)) = z9 := ⟨_, rfl⟩
  have hsq : slQ p a b d 1 xs = (q1, q2, q3, q4) := by rw [← hq]; rfl
  have HN : Hid (slN p a b d 1 T xs = q2) := Lib.hid (by unfold slN; rw [h0, hsq]; rfl)
  have HF : Hid (slF p a b d 1 T xs = RW) := Lib.hid (by unfold slF slG; rw [hsq, Int.toNat_natCast]; exact hRW)
  have HC : Hid (slCode p a b d 1 T xs = 0) := Lib.hid (by unfold slCode; rw [hs, h0]; rfl)
  have HS3 : Hid (inB 1 3 = true) := Lib.hid rfl
  have HT3 := Lib.hid hTb
  have HQ := Lib.hid hq
  have HRW := Lib.hid hRW
  have Hs := Lib.hid hs
  have HXl := Lib.hid hxl
  have hdm := (ten_parts hs).2
  have ha0 := hdm.1
  have hb0 := hdm.2.1
  have hd0 := hdm.2.2.1
  have hNb : N ≤ 729 := by rw [← hxl, hdm.2.2.2.1]; exact Nat.le_trans (Nat.mul_le_mul (Nat.mul_le_mul hdm.1.2 hdm.2.1.2) hdm.2.2.1.2) (by decide)
  clear hs hxl hdm hT h0 hTb hq hsq hRW
  go_enter Try.func7, Try.ntmps7
  go_upto_region 0 with (fail)
  refine wp_region_lit ?_
  refine ls_op rfl (fun K' hK' => ?_)
  have lz1 := hB.size
  refine wp_new (some 3) rfl (exec_box 29 _ rfl (#[.int .i64 p, .int .i64 a, .int .i64 b, .int .i64 d, .slice (some ⟨bB, oB, none⟩) N c0]) rfl) (fun Wz2 nnz3 => ?_)
  have bz4 := nnz3.below (Below.refl _ _) (Nat.le_refl _)
  replace hB := below_after hB bz4
  have hz5 : At Wz2 w.heap.size (.cells #[.int .i64 p, .int .i64 a, .int .i64 b, .int .i64 d, .slice (some ⟨bB, oB, none⟩) N c0] 29 (0, 0)) := nnz3.at_
  refine hK' _ _ ?_
  clear hK' K' nnz3 bz4
  go_frame
  refine ls_ex (some 6) (.slice none 0 0) rfl rfl (exec_assign _ rfl (.slice none 0 0) rfl) ?_
  go_frame
  refine ls_ex (some 7) (.int .i64 0) rfl rfl (exec_assign _ rfl (.int .i64 0) rfl) ?_
  go_frame
  refine wpList_nil ?_
  go_upto_region 1 with (fail)
  refine wp_region_lit ?_
  refine ls_ex (some 9) (.agg #[.int .i64 p, .int .i64 a, .int .i64 b, .int .i64 d, .slice (some ⟨bB, oB, none⟩) N c0]) rfl rfl (exec_load_all 29 _ rfl w.heap.size rfl _ _ _ hz5 Try.underlying29 rfl 5 (by kernel_rfl) rfl) ?_
  go_frame
  refine ls_op rfl (fun K' hK' => ?_)
  have lz8 := hB.size
  have lz9 := hz5.lt
  refine wp_call1 (some 10) rfl 25 _ _ rfl (fun args w => by kernel_rfl) _ rfl _ (l05IsN_c p a b d (some ⟨bB, oB, none⟩) N c0 xs _ HXl.out (hX.keep hB) (by omega)) (fun e Wz6 h => ?_)
  obtain ⟨rfl, bz7⟩ := h
  replace hB := below_after hB bz7
  replace hz5 := hz5.after bz7
  rw [Hs.out]
  clear bz7
  refine ⟨_, rfl, ?_⟩
  refine hK' _ _ ?_
  clear hK' K'
  go_frame
  refine ls_ex (some 11) (.bool false) rfl rfl (exec_not _ _ rfl true rfl) ?_
  go_frame
  refine ls_ex (some 8) (.bool false) rfl rfl (exec_assign _ rfl (.bool false) rfl) ?_
  go_frame
  refine wpList_nil ?_
  go_upto_region 3 with (fail)
  refine wp_region_lit ?_
  refine ls_ex (some 13) (.int .i64 1) rfl rfl (exec_move _ rfl (.int .i64 1) rfl) ?_
  go_frame
  refine ls_op rfl (fun K' hK' => ?_)
  have lz12 := hB.size
  have lz13 := hz5.lt
  refine wp_call3 (some 14) rfl 26 _ _ _ _ rfl (fun args w => by kernel_rfl) _ _ _ rfl rfl rfl _ (l01In_idx 1 3 2 rfl _) (fun e Wz10 h => ?_)
  obtain ⟨rfl, rfl⟩ := h
  rw [HS3.out]
  refine ⟨_, rfl, ?_⟩
  refine hK' _ _ ?_
  clear hK' K'
  go_frame
  refine ls_ex (some 15) (.bool false) rfl rfl (exec_not _ _ rfl true rfl) ?_
  go_frame
  refine ls_ex (some 16) (.bool false) rfl rfl (exec_move _ rfl (.bool false) rfl) ?_
  go_frame
  refine ls_ex_g (some 17) (.int .i64 (T : Nat)) rfl rfl (exec_move _ rfl (.int .i64 (T : Nat)) rfl) ?_
  go_frame
  refine ls_ex_g (some 18) (.agg #[.int .i64 p, .int .i64 a, .int .i64 b, .int .i64 d, .slice (some ⟨bB, oB, none⟩) N c0]) rfl rfl (exec_load_all 29 _ rfl w.heap.size rfl _ _ _ hz5 Try.underlying29 rfl 5 (by kernel_rfl) rfl) ?_
  go_frame
  refine ls_ex_g (some 19) (.int .i64 1) rfl rfl (exec_move _ rfl (.int .i64 1) rfl) ?_
  go_frame
  refine ls_op_g rfl (fun K' hK' => ?_)
  have lz16 := hB.size
  have lz17 := hz5.lt
  refine wp_call2 (some 20) rfl 27 _ _ _ rfl (fun args w => by kernel_rfl) _ _ rfl rfl _ (l05Side1_c p a b d _ _) (fun e Wz14 h => ?_)
  obtain ⟨rfl, bz15⟩ := h
  replace hB := below_after hB bz15
  replace hz5 := hz5.after bz15
  clear bz15
  refine ⟨_, rfl, ?_⟩
  refine hK' _ _ ?_
  clear hK' K'
  go_frame
  refine ls_ex_g (some 21) (.int .i64 (b - 1)) rfl rfl (exec_sub _ _ _ _ rfl b 1 (b - 1) rfl rfl (IntWalk.i64_in _ (by omega))) ?_
  go_frame
  refine ls_op_g rfl (fun K' hK' => ?_)
  have lz20 := hB.size
  have lz21 := hz5.lt
  refine wp_call3 (some 22) rfl 26 _ _ _ _ rfl (fun args w => by kernel_rfl) _ _ _ rfl rfl rfl _ (l01In_idx (T : Nat) b ((b : Int) - 1) rfl _) (fun e Wz18 h => ?_)
  obtain ⟨rfl, rfl⟩ := h
  rw [HT3.out]
  refine ⟨_, rfl, ?_⟩
  refine hK' _ _ ?_
  clear hK' K'
  go_frame
  refine ls_ex_g (some 23) (.bool false) rfl rfl (exec_not _ _ rfl true rfl) ?_
  go_frame
  refine ls_ex (some 24) (.bool false) rfl rfl (exec_pick _ _ _ rfl false rfl (.bool false) rfl) ?_
  go_frame
  refine ls_ex (some 12) (.bool false) rfl rfl (exec_assign _ rfl (.bool false) rfl) ?_
  go_frame
  refine wpList_nil ?_
  go_upto_region 5 with (fail)
  refine wp_region_lit ?_
  refine ls_ex (some 25) (.agg #[.int .i64 p, .int .i64 a, .int .i64 b, .int .i64 d, .slice (some ⟨bB, oB, none⟩) N c0]) rfl rfl (exec_load_all 29 _ rfl w.heap.size rfl _ _ _ hz5 Try.underlying29 rfl 5 (by kernel_rfl) rfl) ?_
  go_frame
  refine ls_ex (some 26) (.int .i64 1) rfl rfl (exec_move _ rfl (.int .i64 1) rfl) ?_
  go_frame
  refine ls_op rfl (fun K' hK' => ?_)
  have lz24 := hB.size
  have lz25 := hz5.lt
  refine wp_call2 (some 27) rfl 29 _ _ _ rfl (fun args w => by kernel_rfl) _ _ rfl rfl _ (l05Turned_q p a b d 1 bB oB c0 N xs 1 _ q1 q2 q3 q4 HQ.out rfl (hX.keep hB) HXl.out Hs.out (by omega) hc0) (fun e Wz22 h => ?_)
  obtain ⟨b9, o9, c9, rfl, hc9, hq5, hq6, hq4, bz23⟩ := h
  replace hB := below_after hB bz23
  replace hz5 := hz5.after bz23
  clear bz23
  refine ⟨_, rfl, ?_⟩
  refine hK' _ _ ?_
  clear hK' K'
  go_frame
  refine ls_ex (some 28) (.int .i64 (T : Nat)) rfl rfl (exec_move _ rfl (.int .i64 (T : Nat)) rfl) ?_
  go_frame
  refine ls_op rfl (fun K' hK' => ?_)
  have lz28 := hB.size
  have lz29 := hz5.lt
  have lo9 := hB.size
  refine wp_call2 (some 29) rfl 28 _ _ _ rfl (fun args w => by kernel_rfl) _ _ rfl rfl _ (l05Slice_c p q1 q2 q3 T b9 o9 c9 N q4 _ hq4 hq5 hq6 hT1) (fun e Wz26 h => ?_)
  obtain ⟨v9, rfl, ho, bz27⟩ := h
  replace hB := below_after hB bz27
  replace hz5 := hz5.after bz27
  replace hq4 := hq4.keep bz27
  rw [HRW.out] at ho
  replace ho := OwnU.of ho
  clear bz27
  refine ⟨_, rfl, ?_⟩
  refine hK' _ _ ?_
  clear hK' K'
  go_frame
  refine ls_ex (some 6) (v9) rfl rfl (exec_assign _ rfl (v9) rfl) ?_
  go_frame
  refine ls_ex (some 7) (.int .i64 0) rfl rfl (exec_assign _ rfl (.int .i64 0) rfl) ?_
  go_frame
  refine wpList_nil ?_
  go_wp2_with fail
  obtain ⟨hi9, hh9, ho9⟩ := ho
  go_ret2
  rw [HN.out, HF.out]
  exact ⟨v9, by rw [HC.out]; rfl, ho9.mono (by omega) hh9, hB⟩
set_option maxHeartbeats 4000000 in
theorem specSl_n2 (p : Int) (a b d : Nat) (T : Int) (bB oB c0 N : Nat) (xs : List Int) (w : World) (hX : RdI w (some ⟨bB, oB, none⟩) xs) (hxl : xs.length = N) (hs : tenB p a b d xs = true) (hT : inB T d = false) :
    Calls Try.prog 7 #[.agg #[.int .i64 p, .int .i64 a, .int .i64 b, .int .i64 d, .slice (some ⟨bB, oB, none⟩) N c0], .int .i64 2, .int .i64 T] w (ResV w (slN p a b d 2 T xs) (slF p a b d 2 T xs) (slCode p a b d 2 T xs)) := by
  have hB := Below.refl w.heap.size w
  have h0 : slOK p a b d 2 T xs = false := by unfold slOK; simp [hT]
  have HN : Hid (slN p a b d 2 T xs = 0) := Lib.hid (by unfold slN; rw [h0]; rfl)
  have HC : Hid (slCode p a b d 2 T xs = 2) := Lib.hid (by unfold slCode; rw [hs, h0]; rfl)
  have HS3 : Hid (inB 2 3 = true) := Lib.hid rfl
  have HT3 := Lib.hid hT
  have Hs := Lib.hid hs
  have HXl := Lib.hid hxl
  have hdm := (ten_parts hs).2
  have ha0 := hdm.1
  have hb0 := hdm.2.1
  have hd0 := hdm.2.2.1
  have hNb : N ≤ 729 := by rw [← hxl, hdm.2.2.2.1]; exact Nat.le_trans (Nat.mul_le_mul (Nat.mul_le_mul hdm.1.2 hdm.2.1.2) hdm.2.2.1.2) (by decide)
  clear hs hxl hdm hT h0
  go_enter Try.func7, Try.ntmps7
  go_upto_region 0 with (fail)
  refine wp_region_lit ?_
  refine ls_op rfl (fun K' hK' => ?_)
  have lz1 := hB.size
  refine wp_new (some 3) rfl (exec_box 29 _ rfl (#[.int .i64 p, .int .i64 a, .int .i64 b, .int .i64 d, .slice (some ⟨bB, oB, none⟩) N c0]) rfl) (fun Wz2 nnz3 => ?_)
  have bz4 := nnz3.below (Below.refl _ _) (Nat.le_refl _)
  replace hB := below_after hB bz4
  have hz5 : At Wz2 w.heap.size (.cells #[.int .i64 p, .int .i64 a, .int .i64 b, .int .i64 d, .slice (some ⟨bB, oB, none⟩) N c0] 29 (0, 0)) := nnz3.at_
  refine hK' _ _ ?_
  clear hK' K' nnz3 bz4
  go_frame
  refine ls_ex (some 6) (.slice none 0 0) rfl rfl (exec_assign _ rfl (.slice none 0 0) rfl) ?_
  go_frame
  refine ls_ex (some 7) (.int .i64 0) rfl rfl (exec_assign _ rfl (.int .i64 0) rfl) ?_
  go_frame
  refine wpList_nil ?_
  go_upto_region 1 with (fail)
  refine wp_region_lit ?_
  refine ls_ex (some 9) (.agg #[.int .i64 p, .int .i64 a, .int .i64 b, .int .i64 d, .slice (some ⟨bB, oB, none⟩) N c0]) rfl rfl (exec_load_all 29 _ rfl w.heap.size rfl _ _ _ hz5 Try.underlying29 rfl 5 (by kernel_rfl) rfl) ?_
  go_frame
  refine ls_op rfl (fun K' hK' => ?_)
  have lz8 := hB.size
  have lz9 := hz5.lt
  refine wp_call1 (some 10) rfl 25 _ _ rfl (fun args w => by kernel_rfl) _ rfl _ (l05IsN_c p a b d (some ⟨bB, oB, none⟩) N c0 xs _ HXl.out (hX.keep hB) (by omega)) (fun e Wz6 h => ?_)
  obtain ⟨rfl, bz7⟩ := h
  replace hB := below_after hB bz7
  replace hz5 := hz5.after bz7
  rw [Hs.out]
  clear bz7
  refine ⟨_, rfl, ?_⟩
  refine hK' _ _ ?_
  clear hK' K'
  go_frame
  refine ls_ex (some 11) (.bool false) rfl rfl (exec_not _ _ rfl true rfl) ?_
  go_frame
  refine ls_ex (some 8) (.bool false) rfl rfl (exec_assign _ rfl (.bool false) rfl) ?_
  go_frame
  refine wpList_nil ?_
  go_upto_region 3 with (fail)
  refine wp_region_lit ?_
  refine ls_ex (some 13) (.int .i64 2) rfl rfl (exec_move _ rfl (.int .i64 2) rfl) ?_
  go_frame
  refine ls_op rfl (fun K' hK' => ?_)
  have lz12 := hB.size
  have lz13 := hz5.lt
  refine wp_call3 (some 14) rfl 26 _ _ _ _ rfl (fun args w => by kernel_rfl) _ _ _ rfl rfl rfl _ (l01In_idx 2 3 2 rfl _) (fun e Wz10 h => ?_)
  obtain ⟨rfl, rfl⟩ := h
  rw [HS3.out]
  refine ⟨_, rfl, ?_⟩
  refine hK' _ _ ?_
  clear hK' K'
  go_frame
  refine ls_ex (some 15) (.bool false) rfl rfl (exec_not _ _ rfl true rfl) ?_
  go_frame
  refine ls_ex (some 16) (.bool false) rfl rfl (exec_move _ rfl (.bool false) rfl) ?_
  go_frame
  refine ls_ex_g (some 17) (.int .i64 T) rfl rfl (exec_move _ rfl (.int .i64 T) rfl) ?_
  go_frame
  refine ls_ex_g (some 18) (.agg #[.int .i64 p, .int .i64 a, .int .i64 b, .int .i64 d, .slice (some ⟨bB, oB, none⟩) N c0]) rfl rfl (exec_load_all 29 _ rfl w.heap.size rfl _ _ _ hz5 Try.underlying29 rfl 5 (by kernel_rfl) rfl) ?_
  go_frame
  refine ls_ex_g (some 19) (.int .i64 2) rfl rfl (exec_move _ rfl (.int .i64 2) rfl) ?_
  go_frame
  refine ls_op_g rfl (fun K' hK' => ?_)
  have lz16 := hB.size
  have lz17 := hz5.lt
  refine wp_call2 (some 20) rfl 27 _ _ _ rfl (fun args w => by kernel_rfl) _ _ rfl rfl _ (l05Side2_c p a b d _ _) (fun e Wz14 h => ?_)
  obtain ⟨rfl, bz15⟩ := h
  replace hB := below_after hB bz15
  replace hz5 := hz5.after bz15
  clear bz15
  refine ⟨_, rfl, ?_⟩
  refine hK' _ _ ?_
  clear hK' K'
  go_frame
  refine ls_ex_g (some 21) (.int .i64 (d - 1)) rfl rfl (exec_sub _ _ _ _ rfl d 1 (d - 1) rfl rfl (IntWalk.i64_in _ (by omega))) ?_
  go_frame
  refine ls_op_g rfl (fun K' hK' => ?_)
  have lz20 := hB.size
  have lz21 := hz5.lt
  refine wp_call3 (some 22) rfl 26 _ _ _ _ rfl (fun args w => by kernel_rfl) _ _ _ rfl rfl rfl _ (l01In_idx T d ((d : Int) - 1) rfl _) (fun e Wz18 h => ?_)
  obtain ⟨rfl, rfl⟩ := h
  rw [HT3.out]
  refine ⟨_, rfl, ?_⟩
  refine hK' _ _ ?_
  clear hK' K'
  go_frame
  refine ls_ex_g (some 23) (.bool true) rfl rfl (exec_not _ _ rfl false rfl) ?_
  go_frame
  refine ls_ex (some 24) (.bool true) rfl rfl (exec_pick _ _ _ rfl false rfl (.bool true) rfl) ?_
  go_frame
  refine ls_ex (some 12) (.bool true) rfl rfl (exec_assign _ rfl (.bool true) rfl) ?_
  go_frame
  refine wpList_nil ?_
  go_upto_region 4 with (fail)
  refine wp_region_lit ?_
  refine ls_ex (some 6) (.slice none 0 0) rfl rfl (exec_assign _ rfl (.slice none 0 0) rfl) ?_
  go_frame
  refine ls_ex (some 7) (.int .i64 2) rfl rfl (exec_assign _ rfl (.int .i64 2) rfl) ?_
  go_frame
  refine wpList_nil ?_
  go_wp2_with fail
  go_ret2
  exact ⟨_, by rw [HC.out]; rfl, by rw [HN.out]; exact OwnV.nil _ _ _ _, hB⟩
set_option maxHeartbeats 4000000 in
theorem specSl_y2 (p : Int) (a b d : Nat) (T : Nat) (bB oB c0 N : Nat) (xs : List Int) (w : World) (hX : RdI w (some ⟨bB, oB, none⟩) xs) (hxl : xs.length = N) (hs : tenB p a b d xs = true) (hT : T < d) (hc0 : N ≤ c0) :
    Calls Try.prog 7 #[.agg #[.int .i64 p, .int .i64 a, .int .i64 b, .int .i64 d, .slice (some ⟨bB, oB, none⟩) N c0], .int .i64 2, .int .i64 (T : Nat)] w (ResV w (slN p a b d 2 T xs) (slF p a b d 2 T xs) (slCode p a b d 2 T xs)) := by
  have hB := Below.refl w.heap.size w
  have hTb : inB (T : Nat) d = true := by simp [inB]; omega
  have h0 : slOK p a b d 2 T xs = true := by unfold slOK; rw [hs]; simp [hTb]; rfl
  obtain ⟨q1, q2, q3, q4, hq, hT1⟩ : ∃ q1 q2 q3 q4, trn p 2 (a, b, d, xs) = (q1, q2, q3, q4) ∧ T < q1 := ⟨_, _, _, _, rfl, hT⟩
  obtain ⟨RW, hRW⟩ : ∃ z9, slR q3 ((q4.drop (T * (q2 * q3))).take (q2 * q3)) = z9 := ⟨_, rfl⟩
  have hsq : slQ p a b d 2 xs = (q1, q2, q3, q4) := by rw [← hq]; rfl
  have HN : Hid (slN p a b d 2 T xs = q2) := Lib.hid (by unfold slN; rw [h0, hsq]; rfl)
  have HF : Hid (slF p a b d 2 T xs = RW) := Lib.hid (by unfold slF slG; rw [hsq, Int.toNat_natCast]; exact hRW)
  have HC : Hid (slCode p a b d 2 T xs = 0) := Lib.hid (by unfold slCode; rw [hs, h0]; rfl)
  have HS3 : Hid (inB 2 3 = true) := Lib.hid rfl
  have HT3 := Lib.hid hTb
  have HQ := Lib.hid hq
  have HRW := Lib.hid hRW
  have Hs := Lib.hid hs
  have HXl := Lib.hid hxl
  have hdm := (ten_parts hs).2
  have ha0 := hdm.1
  have hb0 := hdm.2.1
  have hd0 := hdm.2.2.1
  have hNb : N ≤ 729 := by rw [← hxl, hdm.2.2.2.1]; exact Nat.le_trans (Nat.mul_le_mul (Nat.mul_le_mul hdm.1.2 hdm.2.1.2) hdm.2.2.1.2) (by decide)
  clear hs hxl hdm hT h0 hTb hq hsq hRW
  go_enter Try.func7, Try.ntmps7
  go_upto_region 0 with (fail)
  refine wp_region_lit ?_
  refine ls_op rfl (fun K' hK' => ?_)
  have lz1 := hB.size
  refine wp_new (some 3) rfl (exec_box 29 _ rfl (#[.int .i64 p, .int .i64 a, .int .i64 b, .int .i64 d, .slice (some ⟨bB, oB, none⟩) N c0]) rfl) (fun Wz2 nnz3 => ?_)
  have bz4 := nnz3.below (Below.refl _ _) (Nat.le_refl _)
  replace hB := below_after hB bz4
  have hz5 : At Wz2 w.heap.size (.cells #[.int .i64 p, .int .i64 a, .int .i64 b, .int .i64 d, .slice (some ⟨bB, oB, none⟩) N c0] 29 (0, 0)) := nnz3.at_
  refine hK' _ _ ?_
  clear hK' K' nnz3 bz4
  go_frame
  refine ls_ex (some 6) (.slice none 0 0) rfl rfl (exec_assign _ rfl (.slice none 0 0) rfl) ?_
  go_frame
  refine ls_ex (some 7) (.int .i64 0) rfl rfl (exec_assign _ rfl (.int .i64 0) rfl) ?_
  go_frame
  refine wpList_nil ?_
  go_upto_region 1 with (fail)
  refine wp_region_lit ?_
  refine ls_ex (some 9) (.agg #[.int .i64 p, .int .i64 a, .int .i64 b, .int .i64 d, .slice (some ⟨bB, oB, none⟩) N c0]) rfl rfl (exec_load_all 29 _ rfl w.heap.size rfl _ _ _ hz5 Try.underlying29 rfl 5 (by kernel_rfl) rfl) ?_
  go_frame
  refine ls_op rfl (fun K' hK' => ?_)
  have lz8 := hB.size
  have lz9 := hz5.lt
  refine wp_call1 (some 10) rfl 25 _ _ rfl (fun args w => by kernel_rfl) _ rfl _ (l05IsN_c p a b d (some ⟨bB, oB, none⟩) N c0 xs _ HXl.out (hX.keep hB) (by omega)) (fun e Wz6 h => ?_)
  obtain ⟨rfl, bz7⟩ := h
  replace hB := below_after hB bz7
  replace hz5 := hz5.after bz7
  rw [Hs.out]
  clear bz7
  refine ⟨_, rfl, ?_⟩
  refine hK' _ _ ?_
  clear hK' K'
  go_frame
  refine ls_ex (some 11) (.bool false) rfl rfl (exec_not _ _ rfl true rfl) ?_
  go_frame
  refine ls_ex (some 8) (.bool false) rfl rfl (exec_assign _ rfl (.bool false) rfl) ?_
  go_frame
  refine wpList_nil ?_
  go_upto_region 3 with (fail)
  refine wp_region_lit ?_
  refine ls_ex (some 13) (.int .i64 2) rfl rfl (exec_move _ rfl (.int .i64 2) rfl) ?_
  go_frame
  refine ls_op rfl (fun K' hK' => ?_)
  have lz12 := hB.size
  have lz13 := hz5.lt
  refine wp_call3 (some 14) rfl 26 _ _ _ _ rfl (fun args w => by kernel_rfl) _ _ _ rfl rfl rfl _ (l01In_idx 2 3 2 rfl _) (fun e Wz10 h => ?_)
  obtain ⟨rfl, rfl⟩ := h
  rw [HS3.out]
  refine ⟨_, rfl, ?_⟩
  refine hK' _ _ ?_
  clear hK' K'
  go_frame
  refine ls_ex (some 15) (.bool false) rfl rfl (exec_not _ _ rfl true rfl) ?_
  go_frame
  refine ls_ex (some 16) (.bool false) rfl rfl (exec_move _ rfl (.bool false) rfl) ?_
  go_frame
  refine ls_ex_g (some 17) (.int .i64 (T : Nat)) rfl rfl (exec_move _ rfl (.int .i64 (T : Nat)) rfl) ?_
  go_frame
  refine ls_ex_g (some 18) (.agg #[.int .i64 p, .int .i64 a, .int .i64 b, .int .i64 d, .slice (some ⟨bB, oB, none⟩) N c0]) rfl rfl (exec_load_all 29 _ rfl w.heap.size rfl _ _ _ hz5 Try.underlying29 rfl 5 (by kernel_rfl) rfl) ?_
  go_frame
  refine ls_ex_g (some 19) (.int .i64 2) rfl rfl (exec_move _ rfl (.int .i64 2) rfl) ?_
  go_frame
  refine ls_op_g rfl (fun K' hK' => ?_)
  have lz16 := hB.size
  have lz17 := hz5.lt
  refine wp_call2 (some 20) rfl 27 _ _ _ rfl (fun args w => by kernel_rfl) _ _ rfl rfl _ (l05Side2_c p a b d _ _) (fun e Wz14 h => ?_)
  obtain ⟨rfl, bz15⟩ := h
  replace hB := below_after hB bz15
  replace hz5 := hz5.after bz15
  clear bz15
  refine ⟨_, rfl, ?_⟩
  refine hK' _ _ ?_
  clear hK' K'
  go_frame
  refine ls_ex_g (some 21) (.int .i64 (d - 1)) rfl rfl (exec_sub _ _ _ _ rfl d 1 (d - 1) rfl rfl (IntWalk.i64_in _ (by omega))) ?_
  go_frame
  refine ls_op_g rfl (fun K' hK' => ?_)
  have lz20 := hB.size
  have lz21 := hz5.lt
  refine wp_call3 (some 22) rfl 26 _ _ _ _ rfl (fun args w => by kernel_rfl) _ _ _ rfl rfl rfl _ (l01In_idx (T : Nat) d ((d : Int) - 1) rfl _) (fun e Wz18 h => ?_)
  obtain ⟨rfl, rfl⟩ := h
  rw [HT3.out]
  refine ⟨_, rfl, ?_⟩
  refine hK' _ _ ?_
  clear hK' K'
  go_frame
  refine ls_ex_g (some 23) (.bool false) rfl rfl (exec_not _ _ rfl true rfl) ?_
  go_frame
  refine ls_ex (some 24) (.bool false) rfl rfl (exec_pick _ _ _ rfl false rfl (.bool false) rfl) ?_
  go_frame
  refine ls_ex (some 12) (.bool false) rfl rfl (exec_assign _ rfl (.bool false) rfl) ?_
  go_frame
  refine wpList_nil ?_
  go_upto_region 5 with (fail)
  refine wp_region_lit ?_
  refine ls_ex (some 25) (.agg #[.int .i64 p, .int .i64 a, .int .i64 b, .int .i64 d, .slice (some ⟨bB, oB, none⟩) N c0]) rfl rfl (exec_load_all 29 _ rfl w.heap.size rfl _ _ _ hz5 Try.underlying29 rfl 5 (by kernel_rfl) rfl) ?_
  go_frame
  refine ls_ex (some 26) (.int .i64 2) rfl rfl (exec_move _ rfl (.int .i64 2) rfl) ?_
  go_frame
  refine ls_op rfl (fun K' hK' => ?_)
  have lz24 := hB.size
  have lz25 := hz5.lt
  refine wp_call2 (some 27) rfl 29 _ _ _ rfl (fun args w => by kernel_rfl) _ _ rfl rfl _ (l05Turned_q p a b d 2 bB oB c0 N xs 2 _ q1 q2 q3 q4 HQ.out rfl (hX.keep hB) HXl.out Hs.out (by omega) hc0) (fun e Wz22 h => ?_)
  obtain ⟨b9, o9, c9, rfl, hc9, hq5, hq6, hq4, bz23⟩ := h
  replace hB := below_after hB bz23
  replace hz5 := hz5.after bz23
  clear bz23
  refine ⟨_, rfl, ?_⟩
  refine hK' _ _ ?_
  clear hK' K'
  go_frame
  refine ls_ex (some 28) (.int .i64 (T : Nat)) rfl rfl (exec_move _ rfl (.int .i64 (T : Nat)) rfl) ?_
  go_frame
  refine ls_op rfl (fun K' hK' => ?_)
  have lz28 := hB.size
  have lz29 := hz5.lt
  have lo9 := hB.size
  refine wp_call2 (some 29) rfl 28 _ _ _ rfl (fun args w => by kernel_rfl) _ _ rfl rfl _ (l05Slice_c p q1 q2 q3 T b9 o9 c9 N q4 _ hq4 hq5 hq6 hT1) (fun e Wz26 h => ?_)
  obtain ⟨v9, rfl, ho, bz27⟩ := h
  replace hB := below_after hB bz27
  replace hz5 := hz5.after bz27
  replace hq4 := hq4.keep bz27
  rw [HRW.out] at ho
  replace ho := OwnU.of ho
  clear bz27
  refine ⟨_, rfl, ?_⟩
  refine hK' _ _ ?_
  clear hK' K'
  go_frame
  refine ls_ex (some 6) (v9) rfl rfl (exec_assign _ rfl (v9) rfl) ?_
  go_frame
  refine ls_ex (some 7) (.int .i64 0) rfl rfl (exec_assign _ rfl (.int .i64 0) rfl) ?_
  go_frame
  refine wpList_nil ?_
  go_wp2_with fail
  obtain ⟨hi9, hh9, ho9⟩ := ho
  go_ret2
  rw [HN.out, HF.out]
  exact ⟨v9, by rw [HC.out]; rfl, ho9.mono (by omega) hh9, hB⟩
set_option maxHeartbeats 4000000 in
theorem implSl_a (p a b d S T : Int) (A : Option Addr) (c : Nat) (xs : List Int) (w : World) (hX : RdI w A xs) (hlen : xs.length ≤ 1048576) (hs : tenB p a b d xs = false) :
    Calls Try.prog 9 #[.agg #[.int .i64 p, .int .i64 a, .int .i64 b, .int .i64 d, .slice A xs.length c], .int .i64 S, .int .i64 T] w (ResR w (slN p a b d S T xs) (slF p a b d S T xs) (slCode p a b d S T xs)) := by
  have hB := Below.refl w.heap.size w
  have HN : Hid (slN p a b d S T xs = 0) := Lib.hid (by unfold slN slOK; rw [hs]; rfl)
  have HC : Hid (slCode p a b d S T xs = 1) := Lib.hid (by unfold slCode; rw [hs]; rfl)
  have Hs := Lib.hid hs
  clear hs
  go_enter Try.func9, Try.ntmps9
  go_upto_region 0 with (fail)
  refine wp_region_lit ?_
  refine ls_op rfl (fun K' hK' => ?_)
  have lz1 := hB.size
  refine wp_new (some 3) rfl (exec_box 29 _ rfl (#[.int .i64 p, .int .i64 a, .int .i64 b, .int .i64 d, .slice A xs.length c]) rfl) (fun Wz2 nnz3 => ?_)
  have bz4 := nnz3.below (Below.refl _ _) (Nat.le_refl _)
  replace hB := below_after hB bz4
  have hz5 : At Wz2 w.heap.size (.cells #[.int .i64 p, .int .i64 a, .int .i64 b, .int .i64 d, .slice A xs.length c] 29 (0, 0)) := nnz3.at_
  refine hK' _ _ ?_
  clear hK' K' nnz3 bz4
  go_frame
  refine ls_ex (some 6) (.slice none 0 0) rfl rfl (exec_assign _ rfl (.slice none 0 0) rfl) ?_
  go_frame
  refine ls_ex (some 7) (.int .i64 0) rfl rfl (exec_assign _ rfl (.int .i64 0) rfl) ?_
  go_frame
  refine wpList_nil ?_
  go_upto_region 1 with (fail)
  refine wp_region_lit ?_
  refine ls_ex (some 8) (.agg #[.int .i64 p, .int .i64 a, .int .i64 b, .int .i64 d, .slice A xs.length c]) rfl rfl (exec_load_all 29 _ rfl w.heap.size rfl _ _ _ hz5 Try.underlying29 rfl 5 (by kernel_rfl) rfl) ?_
  go_frame
  refine ls_op rfl (fun K' hK' => ?_)
  have lz8 := hB.size
  have lz9 := hz5.lt
  refine wp_call1 (some 9) rfl 30 _ _ rfl (fun args w => by kernel_rfl) _ rfl _ (implIsTensor_c p a b d A c xs _ (hX.keep hB) (by omega)) (fun e Wz6 h => ?_)
  obtain ⟨rfl, bz7⟩ := h
  replace hB := below_after hB bz7
  replace hz5 := hz5.after bz7
  rw [Hs.out]
  clear bz7
  refine ⟨_, rfl, ?_⟩
  refine hK' _ _ ?_
  clear hK' K'
  go_frame
  refine ls_ex (some 10) (.bool true) rfl rfl (exec_not _ _ rfl false rfl) ?_
  go_frame
  refine wpList_nil ?_
  go_upto_region 2 with (fail)
  refine wp_region_lit ?_
  refine ls_ex (some 6) (.slice none 0 0) rfl rfl (exec_assign _ rfl (.slice none 0 0) rfl) ?_
  go_frame
  refine ls_ex (some 7) (.int .i64 1) rfl rfl (exec_assign _ rfl (.int .i64 1) rfl) ?_
  go_frame
  refine wpList_nil ?_
  go_wp2_with fail
  go_ret2
  exact ⟨_, by rw [HC.out]; rfl, by rw [HN.out]; exact OwnR.nil _ _ _ _, hB⟩
set_option maxHeartbeats 4000000 in
theorem implSl_b (p a b d S T : Int) (A : Option Addr) (c : Nat) (xs : List Int) (w : World) (hX : RdI w A xs) (hlen : xs.length ≤ 1048576) (hs : tenB p a b d xs = true) (hS : inB S 3 = false) :
    Calls Try.prog 9 #[.agg #[.int .i64 p, .int .i64 a, .int .i64 b, .int .i64 d, .slice A xs.length c], .int .i64 S, .int .i64 T] w (ResR w (slN p a b d S T xs) (slF p a b d S T xs) (slCode p a b d S T xs)) := by
  have hB := Below.refl w.heap.size w
  have h0 : slOK p a b d S T xs = false := by unfold slOK; rw [hS, Bool.false_and, Bool.and_false]
  have HN : Hid (slN p a b d S T xs = 0) := Lib.hid (by unfold slN; rw [h0]; rfl)
  have HC : Hid (slCode p a b d S T xs = 2) := Lib.hid (by unfold slCode; rw [hs, h0]; rfl)
  have Hs := Lib.hid hs
  have HS3 := Lib.hid hS
  clear hs hS h0
  go_enter Try.func9, Try.ntmps9
  go_upto_region 0 with (fail)
  refine wp_region_lit ?_
  refine ls_op rfl (fun K' hK' => ?_)
  have lz1 := hB.size
  refine wp_new (some 3) rfl (exec_box 29 _ rfl (#[.int .i64 p, .int .i64 a, .int .i64 b, .int .i64 d, .slice A xs.length c]) rfl) (fun Wz2 nnz3 => ?_)
  have bz4 := nnz3.below (Below.refl _ _) (Nat.le_refl _)
  replace hB := below_after hB bz4
  have hz5 : At Wz2 w.heap.size (.cells #[.int .i64 p, .int .i64 a, .int .i64 b, .int .i64 d, .slice A xs.length c] 29 (0, 0)) := nnz3.at_
  refine hK' _ _ ?_
  clear hK' K' nnz3 bz4
  go_frame
  refine ls_ex (some 6) (.slice none 0 0) rfl rfl (exec_assign _ rfl (.slice none 0 0) rfl) ?_
  go_frame
  refine ls_ex (some 7) (.int .i64 0) rfl rfl (exec_assign _ rfl (.int .i64 0) rfl) ?_
  go_frame
  refine wpList_nil ?_
  go_upto_region 1 with (fail)
  refine wp_region_lit ?_
  refine ls_ex (some 8) (.agg #[.int .i64 p, .int .i64 a, .int .i64 b, .int .i64 d, .slice A xs.length c]) rfl rfl (exec_load_all 29 _ rfl w.heap.size rfl _ _ _ hz5 Try.underlying29 rfl 5 (by kernel_rfl) rfl) ?_
  go_frame
  refine ls_op rfl (fun K' hK' => ?_)
  have lz8 := hB.size
  have lz9 := hz5.lt
  refine wp_call1 (some 9) rfl 30 _ _ rfl (fun args w => by kernel_rfl) _ rfl _ (implIsTensor_c p a b d A c xs _ (hX.keep hB) (by omega)) (fun e Wz6 h => ?_)
  obtain ⟨rfl, bz7⟩ := h
  replace hB := below_after hB bz7
  replace hz5 := hz5.after bz7
  rw [Hs.out]
  clear bz7
  refine ⟨_, rfl, ?_⟩
  refine hK' _ _ ?_
  clear hK' K'
  go_frame
  refine ls_ex (some 10) (.bool false) rfl rfl (exec_not _ _ rfl true rfl) ?_
  go_frame
  refine wpList_nil ?_
  go_upto_region 3 with (fail)
  refine wp_region_lit ?_
  refine ls_ex (some 11) (.int .i64 S) rfl rfl (exec_move _ rfl (.int .i64 S) rfl) ?_
  go_frame
  refine ls_op rfl (fun K' hK' => ?_)
  have lz12 := hB.size
  have lz13 := hz5.lt
  refine wp_call2 (some 12) rfl 31 _ _ _ rfl (fun args w => by kernel_rfl) _ _ rfl rfl _ (isIndex_c S 3 _) (fun e Wz10 h => ?_)
  obtain ⟨rfl, rfl⟩ := h
  rw [HS3.out]
  refine ⟨_, rfl, ?_⟩
  refine hK' _ _ ?_
  clear hK' K'
  go_frame
  refine ls_ex (some 13) (.bool true) rfl rfl (exec_not _ _ rfl false rfl) ?_
  go_frame
  refine ls_ex (some 14) (.bool true) rfl rfl (exec_move _ rfl (.bool true) rfl) ?_
  go_frame
  refine ls_skip_g (some 15) rfl rfl ?_
  go_frame
  refine ls_skip_g (some 16) rfl rfl ?_
  go_frame
  refine ls_skip_g (some 17) rfl rfl ?_
  go_frame
  refine ls_skip_g (some 18) rfl rfl ?_
  go_frame
  refine ls_skip_g (some 19) rfl rfl ?_
  go_frame
  refine ls_skip_g (some 20) rfl rfl ?_
  go_frame
  refine ls_skip_g (some 21) rfl rfl ?_
  go_frame
  refine ls_ex (some 22) (.bool true) rfl rfl (exec_pick _ _ _ rfl true rfl (.bool true) rfl) ?_
  go_frame
  refine wpList_nil ?_
  go_upto_region 4 with (fail)
  refine wp_region_lit ?_
  refine ls_ex (some 6) (.slice none 0 0) rfl rfl (exec_assign _ rfl (.slice none 0 0) rfl) ?_
  go_frame
  refine ls_ex (some 7) (.int .i64 2) rfl rfl (exec_assign _ rfl (.int .i64 2) rfl) ?_
  go_frame
  refine wpList_nil ?_
  go_wp2_with fail
  go_ret2
  exact ⟨_, by rw [HC.out]; rfl, by rw [HN.out]; exact OwnR.nil _ _ _ _, hB⟩
set_option maxHeartbeats 4000000 in
theorem implSl_n0 (p : Int) (a b d : Nat) (T : Int) (bB oB c0 N : Nat) (xs : List Int) (w : World) (hX : RdI w (some ⟨bB, oB, none⟩) xs) (hxl : xs.length = N) (hs : tenB p a b d xs = true) (hT : inB T a = false) :
    Calls Try.prog 9 #[.agg #[.int .i64 p, .int .i64 a, .int .i64 b, .int .i64 d, .slice (some ⟨bB, oB, none⟩) N c0], .int .i64 0, .int .i64 T] w (ResR w (slN p a b d 0 T xs) (slF p a b d 0 T xs) (slCode p a b d 0 T xs)) := by
  have hB := Below.refl w.heap.size w
  have h0 : slOK p a b d 0 T xs = false := by unfold slOK; simp [hT]
  have HN : Hid (slN p a b d 0 T xs = 0) := Lib.hid (by unfold slN; rw [h0]; rfl)
  have HC : Hid (slCode p a b d 0 T xs = 2) := Lib.hid (by unfold slCode; rw [hs, h0]; rfl)
  have HS3 : Hid (inB 0 3 = true) := Lib.hid rfl
  have HT3 := Lib.hid hT
  have Hs := Lib.hid hs
  have HXl := Lib.hid hxl
  have hdm := (ten_parts hs).2
  have ha0 := hdm.1
  have hb0 := hdm.2.1
  have hd0 := hdm.2.2.1
  have hNb : N ≤ 729 := by rw [← hxl, hdm.2.2.2.1]; exact Nat.le_trans (Nat.mul_le_mul (Nat.mul_le_mul hdm.1.2 hdm.2.1.2) hdm.2.2.1.2) (by decide)
  clear hs hxl hdm hT h0
  go_enter Try.func9, Try.ntmps9
  go_upto_region 0 with (fail)
  refine wp_region_lit ?_
  refine ls_op rfl (fun K' hK' => ?_)
  have lz1 := hB.size
  refine wp_new (some 3) rfl (exec_box 29 _ rfl (#[.int .i64 p, .int .i64 a, .int .i64 b, .int .i64 d, .slice (some ⟨bB, oB, none⟩) N c0]) rfl) (fun Wz2 nnz3 => ?_)
  have bz4 := nnz3.below (Below.refl _ _) (Nat.le_refl _)
  replace hB := below_after hB bz4
  have hz5 : At Wz2 w.heap.size (.cells #[.int .i64 p, .int .i64 a, .int .i64 b, .int .i64 d, .slice (some ⟨bB, oB, none⟩) N c0] 29 (0, 0)) := nnz3.at_
  refine hK' _ _ ?_
  clear hK' K' nnz3 bz4
  go_frame
  refine ls_ex (some 6) (.slice none 0 0) rfl rfl (exec_assign _ rfl (.slice none 0 0) rfl) ?_
  go_frame
  refine ls_ex (some 7) (.int .i64 0) rfl rfl (exec_assign _ rfl (.int .i64 0) rfl) ?_
  go_frame
  refine wpList_nil ?_
  go_upto_region 1 with (fail)
  refine wp_region_lit ?_
  refine ls_ex (some 8) (.agg #[.int .i64 p, .int .i64 a, .int .i64 b, .int .i64 d, .slice (some ⟨bB, oB, none⟩) N c0]) rfl rfl (exec_load_all 29 _ rfl w.heap.size rfl _ _ _ hz5 Try.underlying29 rfl 5 (by kernel_rfl) rfl) ?_
  go_frame
  refine ls_op rfl (fun K' hK' => ?_)
  have lz8 := hB.size
  have lz9 := hz5.lt
  refine wp_call1 (some 9) rfl 30 _ _ rfl (fun args w => by kernel_rfl) _ rfl _ (implIsTensorN_c p a b d (some ⟨bB, oB, none⟩) N c0 xs _ HXl.out (hX.keep hB) (by omega)) (fun e Wz6 h => ?_)
  obtain ⟨rfl, bz7⟩ := h
  replace hB := below_after hB bz7
  replace hz5 := hz5.after bz7
  rw [Hs.out]
  clear bz7
  refine ⟨_, rfl, ?_⟩
  refine hK' _ _ ?_
  clear hK' K'
  go_frame
  refine ls_ex (some 10) (.bool false) rfl rfl (exec_not _ _ rfl true rfl) ?_
  go_frame
  refine wpList_nil ?_
  go_upto_region 3 with (fail)
  refine wp_region_lit ?_
  refine ls_ex (some 11) (.int .i64 0) rfl rfl (exec_move _ rfl (.int .i64 0) rfl) ?_
  go_frame
  refine ls_op rfl (fun K' hK' => ?_)
  have lz12 := hB.size
  have lz13 := hz5.lt
  refine wp_call2 (some 12) rfl 31 _ _ _ rfl (fun args w => by kernel_rfl) _ _ rfl rfl _ (isIndex_c 0 3 _) (fun e Wz10 h => ?_)
  obtain ⟨rfl, rfl⟩ := h
  rw [HS3.out]
  refine ⟨_, rfl, ?_⟩
  refine hK' _ _ ?_
  clear hK' K'
  go_frame
  refine ls_ex (some 13) (.bool false) rfl rfl (exec_not _ _ rfl true rfl) ?_
  go_frame
  refine ls_ex (some 14) (.bool false) rfl rfl (exec_move _ rfl (.bool false) rfl) ?_
  go_frame
  refine ls_ex_g (some 15) (.int .i64 T) rfl rfl (exec_move _ rfl (.int .i64 T) rfl) ?_
  go_frame
  refine ls_ex_g (some 16) (.agg #[.int .i64 p, .int .i64 a, .int .i64 b, .int .i64 d, .slice (some ⟨bB, oB, none⟩) N c0]) rfl rfl (exec_load_all 29 _ rfl w.heap.size rfl _ _ _ hz5 Try.underlying29 rfl 5 (by kernel_rfl) rfl) ?_
  go_frame
  refine ls_op_g rfl (fun K' hK' => ?_)
  have lz16 := hB.size
  have lz17 := hz5.lt
  refine wp_call1 (some 17) rfl 32 _ _ rfl (fun args w => by kernel_rfl) _ rfl _ (boxOf_c p a b d _ _) (fun e Wz14 h => ?_)
  obtain ⟨rfl, bz15⟩ := h
  replace hB := below_after hB bz15
  replace hz5 := hz5.after bz15
  clear bz15
  refine ⟨_, rfl, ?_⟩
  refine hK' _ _ ?_
  clear hK' K'
  go_frame
  refine ls_ex_g (some 18) (.int .i64 0) rfl rfl (exec_move _ rfl (.int .i64 0) rfl) ?_
  go_frame
  refine ls_ex_g (some 19) (.int .i64 a) rfl rfl (exec_index_arr3 52 2 _ _ rfl 3 0 _ _ rfl rfl Try.underlying52 _ Try.underlying2 rfl (by kernel_rfl) (by omega) rfl) ?_
  go_frame
  refine ls_op_g rfl (fun K' hK' => ?_)
  have lz20 := hB.size
  have lz21 := hz5.lt
  refine wp_call2 (some 20) rfl 31 _ _ _ rfl (fun args w => by kernel_rfl) _ _ rfl rfl _ (isIndex_c T a _) (fun e Wz18 h => ?_)
  obtain ⟨rfl, rfl⟩ := h
  rw [HT3.out]
  refine ⟨_, rfl, ?_⟩
  refine hK' _ _ ?_
  clear hK' K'
  go_frame
  refine ls_ex_g (some 21) (.bool true) rfl rfl (exec_not _ _ rfl false rfl) ?_
  go_frame
  refine ls_ex (some 22) (.bool true) rfl rfl (exec_pick _ _ _ rfl false rfl (.bool true) rfl) ?_
  go_frame
  refine wpList_nil ?_
  go_upto_region 4 with (fail)
  refine wp_region_lit ?_
  refine ls_ex (some 6) (.slice none 0 0) rfl rfl (exec_assign _ rfl (.slice none 0 0) rfl) ?_
  go_frame
  refine ls_ex (some 7) (.int .i64 2) rfl rfl (exec_assign _ rfl (.int .i64 2) rfl) ?_
  go_frame
  refine wpList_nil ?_
  go_wp2_with fail
  go_ret2
  exact ⟨_, by rw [HC.out]; rfl, by rw [HN.out]; exact OwnR.nil _ _ _ _, hB⟩
set_option maxHeartbeats 4000000 in
theorem implSl_y0 (p : Int) (a b d : Nat) (T : Nat) (bB oB c0 N : Nat) (xs : List Int) (w : World) (hX : RdI w (some ⟨bB, oB, none⟩) xs) (hxl : xs.length = N) (hs : tenB p a b d xs = true) (hT : T < a) (hc0 : N ≤ c0) :
    Calls Try.prog 9 #[.agg #[.int .i64 p, .int .i64 a, .int .i64 b, .int .i64 d, .slice (some ⟨bB, oB, none⟩) N c0], .int .i64 0, .int .i64 (T : Nat)] w (ResR w (slN p a b d 0 T xs) (slF p a b d 0 T xs) (slCode p a b d 0 T xs)) := by
  have hB := Below.refl w.heap.size w
  have hTb : inB (T : Nat) a = true := by simp [inB]; omega
  have h0 : slOK p a b d 0 T xs = true := by unfold slOK; rw [hs]; simp [hTb]; rfl
  obtain ⟨q1, q2, q3, q4, hq, hT1⟩ : ∃ q1 q2 q3 q4, trn p 0 (a, b, d, xs) = (q1, q2, q3, q4) ∧ T < q1 := ⟨_, _, _, _, rfl, hT⟩
  obtain ⟨RW, hRW⟩ : ∃ z9, slR q3 ((q4.drop (T * (q2 * q3))).take (q2 * q3)) = z9 := ⟨_, rfl⟩
  have hsq : slQ p a b d 0 xs = (q1, q2, q3, q4) := by rw [← hq]; rfl
  have HN : Hid (slN p a b d 0 T xs = q2) := Lib.hid (by unfold slN; rw [h0, hsq]; rfl)
  have HF : Hid (slF p a b d 0 T xs = RW) := Lib.hid (by unfold slF slG; rw [hsq, Int.toNat_natCast]; exact hRW)
  have HC : Hid (slCode p a b d 0 T xs = 0) := Lib.hid (by unfold slCode; rw [hs, h0]; rfl)
  have HS3 : Hid (inB 0 3 = true) := Lib.hid rfl
  have HT3 := Lib.hid hTb
  have HQ := Lib.hid hq
  have HRW := Lib.hid hRW
  have Hs := Lib.hid hs
  have HXl := Lib.hid hxl
  have hdm := (ten_parts hs).2
  have ha0 := hdm.1
  have hb0 := hdm.2.1
  have hd0 := hdm.2.2.1
  have hNb : N ≤ 729 := by rw [← hxl, hdm.2.2.2.1]; exact Nat.le_trans (Nat.mul_le_mul (Nat.mul_le_mul hdm.1.2 hdm.2.1.2) hdm.2.2.1.2) (by decide)
  clear hs hxl hdm hT h0 hTb hq hsq hRW
  go_enter Try.func9, Try.ntmps9
  go_upto_region 0 with (fail)
  refine wp_region_lit ?_
  refine ls_op rfl (fun K' hK' => ?_)
  have lz1 := hB.size
  refine wp_new (some 3) rfl (exec_box 29 _ rfl (#[.int .i64 p, .int .i64 a, .int .i64 b, .int .i64 d, .slice (some ⟨bB, oB, none⟩) N c0]) rfl) (fun Wz2 nnz3 => ?_)
  have bz4 := nnz3.below (Below.refl _ _) (Nat.le_refl _)
  replace hB := below_after hB bz4
  have hz5 : At Wz2 w.heap.size (.cells #[.int .i64 p, .int .i64 a, .int .i64 b, .int .i64 d, .slice (some ⟨bB, oB, none⟩) N c0] 29 (0, 0)) := nnz3.at_
  refine hK' _ _ ?_
  clear hK' K' nnz3 bz4
  go_frame
  refine ls_ex (some 6) (.slice none 0 0) rfl rfl (exec_assign _ rfl (.slice none 0 0) rfl) ?_
  go_frame
  refine ls_ex (some 7) (.int .i64 0) rfl rfl (exec_assign _ rfl (.int .i64 0) rfl) ?_
  go_frame
  refine wpList_nil ?_
  go_upto_region 1 with (fail)
  refine wp_region_lit ?_
  refine ls_ex (some 8) (.agg #[.int .i64 p, .int .i64 a, .int .i64 b, .int .i64 d, .slice (some ⟨bB, oB, none⟩) N c0]) rfl rfl (exec_load_all 29 _ rfl w.heap.size rfl _ _ _ hz5 Try.underlying29 rfl 5 (by kernel_rfl) rfl) ?_
  go_frame
  refine ls_op rfl (fun K' hK' => ?_)
  have lz8 := hB.size
  have lz9 := hz5.lt
  refine wp_call1 (some 9) rfl 30 _ _ rfl (fun args w => by kernel_rfl) _ rfl _ (implIsTensorN_c p a b d (some ⟨bB, oB, none⟩) N c0 xs _ HXl.out (hX.keep hB) (by omega)) (fun e Wz6 h => ?_)
  obtain ⟨rfl, bz7⟩ := h
  replace hB := below_after hB bz7
  replace hz5 := hz5.after bz7
  rw [Hs.out]
  clear bz7
  refine ⟨_, rfl, ?_⟩
  refine hK' _ _ ?_
  clear hK' K'
  go_frame
  refine ls_ex (some 10) (.bool false) rfl rfl (exec_not _ _ rfl true rfl) ?_
  go_frame
  refine wpList_nil ?_
  go_upto_region 3 with (fail)
  refine wp_region_lit ?_
  refine ls_ex (some 11) (.int .i64 0) rfl rfl (exec_move _ rfl (.int .i64 0) rfl) ?_
  go_frame
  refine ls_op rfl (fun K' hK' => ?_)
  have lz12 := hB.size
  have lz13 := hz5.lt
  refine wp_call2 (some 12) rfl 31 _ _ _ rfl (fun args w => by kernel_rfl) _ _ rfl rfl _ (isIndex_c 0 3 _) (fun e Wz10 h => ?_)
  obtain ⟨rfl, rfl⟩ := h
  rw [HS3.out]
  refine ⟨_, rfl, ?_⟩
  refine hK' _ _ ?_
  clear hK' K'
  go_frame
  refine ls_ex (some 13) (.bool false) rfl rfl (exec_not _ _ rfl true rfl) ?_
  go_frame
  refine ls_ex (some 14) (.bool false) rfl rfl (exec_move _ rfl (.bool false) rfl) ?_
  go_frame
  refine ls_ex_g (some 15) (.int .i64 (T : Nat)) rfl rfl (exec_move _ rfl (.int .i64 (T : Nat)) rfl) ?_
  go_frame
  refine ls_ex_g (some 16) (.agg #[.int .i64 p, .int .i64 a, .int .i64 b, .int .i64 d, .slice (some ⟨bB, oB, none⟩) N c0]) rfl rfl (exec_load_all 29 _ rfl w.heap.size rfl _ _ _ hz5 Try.underlying29 rfl 5 (by kernel_rfl) rfl) ?_
  go_frame
  refine ls_op_g rfl (fun K' hK' => ?_)
  have lz16 := hB.size
  have lz17 := hz5.lt
  refine wp_call1 (some 17) rfl 32 _ _ rfl (fun args w => by kernel_rfl) _ rfl _ (boxOf_c p a b d _ _) (fun e Wz14 h => ?_)
  obtain ⟨rfl, bz15⟩ := h
  replace hB := below_after hB bz15
  replace hz5 := hz5.after bz15
  clear bz15
  refine ⟨_, rfl, ?_⟩
  refine hK' _ _ ?_
  clear hK' K'
  go_frame
  refine ls_ex_g (some 18) (.int .i64 0) rfl rfl (exec_move _ rfl (.int .i64 0) rfl) ?_
  go_frame
  refine ls_ex_g (some 19) (.int .i64 a) rfl rfl (exec_index_arr3 52 2 _ _ rfl 3 0 _ _ rfl rfl Try.underlying52 _ Try.underlying2 rfl (by kernel_rfl) (by omega) rfl) ?_
  go_frame
  refine ls_op_g rfl (fun K' hK' => ?_)
  have lz20 := hB.size
  have lz21 := hz5.lt
  refine wp_call2 (some 20) rfl 31 _ _ _ rfl (fun args w => by kernel_rfl) _ _ rfl rfl _ (isIndex_c (T : Nat) a _) (fun e Wz18 h => ?_)
  obtain ⟨rfl, rfl⟩ := h
  rw [HT3.out]
  refine ⟨_, rfl, ?_⟩
  refine hK' _ _ ?_
  clear hK' K'
  go_frame
  refine ls_ex_g (some 21) (.bool false) rfl rfl (exec_not _ _ rfl true rfl) ?_
  go_frame
  refine ls_ex (some 22) (.bool false) rfl rfl (exec_pick _ _ _ rfl false rfl (.bool false) rfl) ?_
  go_frame
  refine wpList_nil ?_
  go_upto_region 5 with (fail)
  refine wp_region_lit ?_
  refine ls_ex (some 23) (.agg #[.int .i64 p, .int .i64 a, .int .i64 b, .int .i64 d, .slice (some ⟨bB, oB, none⟩) N c0]) rfl rfl (exec_load_all 29 _ rfl w.heap.size rfl _ _ _ hz5 Try.underlying29 rfl 5 (by kernel_rfl) rfl) ?_
  go_frame
  refine ls_ex (some 24) (.int .i64 0) rfl rfl (exec_move _ rfl (.int .i64 0) rfl) ?_
  go_frame
  refine ls_op rfl (fun K' hK' => ?_)
  have lz24 := hB.size
  have lz25 := hz5.lt
  refine wp_call2 (some 25) rfl 34 _ _ _ rfl (fun args w => by kernel_rfl) _ _ rfl rfl _ (turnedTo_q p a b d 0 bB oB c0 N xs 0 _ q1 q2 q3 q4 HQ.out rfl (hX.keep hB) HXl.out Hs.out (by omega) hc0) (fun e Wz22 h => ?_)
  obtain ⟨b9, o9, c9, rfl, hc9, hq5, hq6, hq4, bz23⟩ := h
  replace hB := below_after hB bz23
  replace hz5 := hz5.after bz23
  clear bz23
  refine ⟨_, rfl, ?_⟩
  refine hK' _ _ ?_
  clear hK' K'
  go_frame
  refine ls_ex (some 26) (.int .i64 (T : Nat)) rfl rfl (exec_move _ rfl (.int .i64 (T : Nat)) rfl) ?_
  go_frame
  refine ls_op rfl (fun K' hK' => ?_)
  have lz28 := hB.size
  have lz29 := hz5.lt
  have lo9 := hB.size
  refine wp_call2 (some 27) rfl 33 _ _ _ rfl (fun args w => by kernel_rfl) _ _ rfl rfl _ (sliceAt_c p q1 q2 q3 T b9 o9 c9 N q4 _ hq4 hq5 hq6 hT1 hc9) (fun e Wz26 h => ?_)
  obtain ⟨v9, rfl, ho, bz27⟩ := h
  replace hB := below_after hB bz27
  replace hz5 := hz5.after bz27
  replace hq4 := hq4.keep bz27
  rw [HRW.out] at ho
  replace ho := OwnP.of ho
  clear bz27
  refine ⟨_, rfl, ?_⟩
  refine hK' _ _ ?_
  clear hK' K'
  go_frame
  refine ls_ex (some 6) (v9) rfl rfl (exec_assign _ rfl (v9) rfl) ?_
  go_frame
  refine ls_ex (some 7) (.int .i64 0) rfl rfl (exec_assign _ rfl (.int .i64 0) rfl) ?_
  go_frame
  refine wpList_nil ?_
  go_wp2_with fail
  obtain ⟨hi9, hh9, ho9⟩ := ho
  go_ret2
  rw [HN.out, HF.out]
  exact ⟨v9, by rw [HC.out]; rfl, ho9.mono (by omega) hh9, hB⟩
set_option maxHeartbeats 4000000 in
theorem implSl_n1 (p : Int) (a b d : Nat) (T : Int) (bB oB c0 N : Nat) (xs : List Int) (w : World) (hX : RdI w (some ⟨bB, oB, none⟩) xs) (hxl : xs.length = N) (hs : tenB p a b d xs = true) (hT : inB T b = false) :
    Calls Try.prog 9 #[.agg #[.int .i64 p, .int .i64 a, .int .i64 b, .int .i64 d, .slice (some ⟨bB, oB, none⟩) N c0], .int .i64 1, .int .i64 T] w (ResR w (slN p a b d 1 T xs) (slF p a b d 1 T xs) (slCode p a b d 1 T xs)) := by
  have hB := Below.refl w.heap.size w
  have h0 : slOK p a b d 1 T xs = false := by unfold slOK; simp [hT]
  have HN : Hid (slN p a b d 1 T xs = 0) := Lib.hid (by unfold slN; rw [h0]; rfl)
  have HC : Hid (slCode p a b d 1 T xs = 2) := Lib.hid (by unfold slCode; rw [hs, h0]; rfl)
  have HS3 : Hid (inB 1 3 = true) := Lib.hid rfl
  have HT3 := Lib.hid hT
  have Hs := Lib.hid hs
  have HXl := Lib.hid hxl
  have hdm := (ten_parts hs).2
  have ha0 := hdm.1
  have hb0 := hdm.2.1
  have hd0 := hdm.2.2.1
  have hNb : N ≤ 729 := by rw [← hxl, hdm.2.2.2.1]; exact Nat.le_trans (Nat.mul_le_mul (Nat.mul_le_mul hdm.1.2 hdm.2.1.2) hdm.2.2.1.2) (by decide)
  clear hs hxl hdm hT h0
  go_enter Try.func9, Try.ntmps9
  go_upto_region 0 with (fail)
  refine wp_region_lit ?_
  refine ls_op rfl (fun K' hK' => ?_)
  have lz1 := hB.size
  refine wp_new (some 3) rfl (exec_box 29 _ rfl (#[.int .i64 p, .int .i64 a, .int .i64 b, .int .i64 d, .slice (some ⟨bB, oB, none⟩) N c0]) rfl) (fun Wz2 nnz3 => ?_)
  have bz4 := nnz3.below (Below.refl _ _) (Nat.le_refl _)
  replace hB := below_after hB bz4
  have hz5 : At Wz2 w.heap.size (.cells #[.int .i64 p, .int .i64 a, .int .i64 b, .int .i64 d, .slice (some ⟨bB, oB, none⟩) N c0] 29 (0, 0)) := nnz3.at_
  refine hK' _ _ ?_
  clear hK' K' nnz3 bz4
  go_frame
  refine ls_ex (some 6) (.slice none 0 0) rfl rfl (exec_assign _ rfl (.slice none 0 0) rfl) ?_
  go_frame
  refine ls_ex (some 7) (.int .i64 0) rfl rfl (exec_assign _ rfl (.int .i64 0) rfl) ?_
  go_frame
  refine wpList_nil ?_
  go_upto_region 1 with (fail)
  refine wp_region_lit ?_
  refine ls_ex (some 8) (.agg #[.int .i64 p, .int .i64 a, .int .i64 b, .int .i64 d, .slice (some ⟨bB, oB, none⟩) N c0]) rfl rfl (exec_load_all 29 _ rfl w.heap.size rfl _ _ _ hz5 Try.underlying29 rfl 5 (by kernel_rfl) rfl) ?_
  go_frame
  refine ls_op rfl (fun K' hK' => ?_)
  have lz8 := hB.size
  have lz9 := hz5.lt
  refine wp_call1 (some 9) rfl 30 _ _ rfl (fun args w => by kernel_rfl) _ rfl _ (implIsTensorN_c p a b d (some ⟨bB, oB, none⟩) N c0 xs _ HXl.out (hX.keep hB) (by omega)) (fun e Wz6 h => ?_)
  obtain ⟨rfl, bz7⟩ := h
  replace hB := below_after hB bz7
  replace hz5 := hz5.after bz7
  rw [Hs.out]
  clear bz7
  refine ⟨_, rfl, ?_⟩
  refine hK' _ _ ?_
  clear hK' K'
  go_frame
  refine ls_ex (some 10) (.bool false) rfl rfl (exec_not _ _ rfl true rfl) ?_
  go_frame
  refine wpList_nil ?_
  go_upto_region 3 with (fail)
  refine wp_region_lit ?_
  refine ls_ex (some 11) (.int .i64 1) rfl rfl (exec_move _ rfl (.int .i64 1) rfl) ?_
  go_frame
  refine ls_op rfl (fun K' hK' => ?_)
  have lz12 := hB.size
  have lz13 := hz5.lt
  refine wp_call2 (some 12) rfl 31 _ _ _ rfl (fun args w => by kernel_rfl) _ _ rfl rfl _ (isIndex_c 1 3 _) (fun e Wz10 h => ?_)
  obtain ⟨rfl, rfl⟩ := h
  rw [HS3.out]
  refine ⟨_, rfl, ?_⟩
  refine hK' _ _ ?_
  clear hK' K'
  go_frame
  refine ls_ex (some 13) (.bool false) rfl rfl (exec_not _ _ rfl true rfl) ?_
  go_frame
  refine ls_ex (some 14) (.bool false) rfl rfl (exec_move _ rfl (.bool false) rfl) ?_
  go_frame
  refine ls_ex_g (some 15) (.int .i64 T) rfl rfl (exec_move _ rfl (.int .i64 T) rfl) ?_
  go_frame
  refine ls_ex_g (some 16) (.agg #[.int .i64 p, .int .i64 a, .int .i64 b, .int .i64 d, .slice (some ⟨bB, oB, none⟩) N c0]) rfl rfl (exec_load_all 29 _ rfl w.heap.size rfl _ _ _ hz5 Try.underlying29 rfl 5 (by kernel_rfl) rfl) ?_
  go_frame
  refine ls_op_g rfl (fun K' hK' => ?_)
  have lz16 := hB.size
  have lz17 := hz5.lt
  refine wp_call1 (some 17) rfl 32 _ _ rfl (fun args w => by kernel_rfl) _ rfl _ (boxOf_c p a b d _ _) (fun e Wz14 h => ?_)
  obtain ⟨rfl, bz15⟩ := h
  replace hB := below_after hB bz15
  replace hz5 := hz5.after bz15
  clear bz15
  refine ⟨_, rfl, ?_⟩
  refine hK' _ _ ?_
  clear hK' K'
  go_frame
  refine ls_ex_g (some 18) (.int .i64 1) rfl rfl (exec_move _ rfl (.int .i64 1) rfl) ?_
  go_frame
  refine ls_ex_g (some 19) (.int .i64 b) rfl rfl (exec_index_arr3 52 2 _ _ rfl 3 1 _ _ rfl rfl Try.underlying52 _ Try.underlying2 rfl (by kernel_rfl) (by omega) rfl) ?_
  go_frame
  refine ls_op_g rfl (fun K' hK' => ?_)
  have lz20 := hB.size
  have lz21 := hz5.lt
  refine wp_call2 (some 20) rfl 31 _ _ _ rfl (fun args w => by kernel_rfl) _ _ rfl rfl _ (isIndex_c T b _) (fun e Wz18 h => ?_)
  obtain ⟨rfl, rfl⟩ := h
  rw [HT3.out]
  refine ⟨_, rfl, ?_⟩
  refine hK' _ _ ?_
  clear hK' K'
  go_frame
  refine ls_ex_g (some 21) (.bool true) rfl rfl (exec_not _ _ rfl false rfl) ?_
  go_frame
  refine ls_ex (some 22) (.bool true) rfl rfl (exec_pick _ _ _ rfl false rfl (.bool true) rfl) ?_
  go_frame
  refine wpList_nil ?_
  go_upto_region 4 with (fail)
  refine wp_region_lit ?_
  refine ls_ex (some 6) (.slice none 0 0) rfl rfl (exec_assign _ rfl (.slice none 0 0) rfl) ?_
  go_frame
  refine ls_ex (some 7) (.int .i64 2) rfl rfl (exec_assign _ rfl (.int .i64 2) rfl) ?_
  go_frame
  refine wpList_nil ?_
  go_wp2_with fail
  go_ret2
  exact ⟨_, by rw [HC.out]; rfl, by rw [HN.out]; exact OwnR.nil _ _ _ _, hB⟩
set_option maxHeartbeats 4000000 in
theorem implSl_y1 (p : Int) (a b d : Nat) (T : Nat) (bB oB c0 N : Nat) (xs : List Int) (w : World) (hX : RdI w (some ⟨bB, oB, none⟩) xs) (hxl : xs.length = N) (hs : tenB p a b d xs = true) (hT : T < b) (hc0 : N ≤ c0) :
    Calls Try.prog 9 #[.agg #[.int .i64 p, .int .i64 a, .int .i64 b, .int .i64 d, .slice (some ⟨bB, oB, none⟩) N c0], .int .i64 1, .int .i64 (T : Nat)] w (ResR w (slN p a b d 1 T xs) (slF p a b d 1 T xs) (slCode p a b d 1 T xs)) := by
  have hB := Below.refl w.heap.size w
  have hTb : inB (T : Nat) b = true := by simp [inB]; omega
  have h0 : slOK p a b d 1 T xs = true := by unfold slOK; rw [hs]; simp [hTb]; rfl
  obtain ⟨q1, q2, q3, q4, hq, hT1⟩ : ∃ q1 q2 q3 q4, trn p 1 (a, b, d, xs) = (q1, q2, q3, q4) ∧ T < q1 := ⟨_, _, _, _, rfl, hT⟩
  obtain ⟨RW, hRW⟩ : ∃ z9, slR q3 ((q4.drop (T * (q2 * q3))).take (q2 * q3)) = z9 := ⟨_, rfl⟩
  have hsq : slQ p a b d 1 xs = (q1, q2, q3, q4) := by rw [← hq]; rfl
  have HN : Hid (slN p a b d 1 T xs = q2) := Lib.hid (by unfold slN; rw [h0, hsq]; rfl)
  have HF : Hid (slF p a b d 1 T xs = RW) := Lib.hid (by unfold slF slG; rw [hsq, Int.toNat_natCast]; exact hRW)
  have HC : Hid (slCode p a b d 1 T xs = 0) := Lib.hid (by unfold slCode; rw [hs, h0]; rfl)
  have HS3 : Hid (inB 1 3 = true) := Lib.hid rfl
  have HT3 := Lib.hid hTb
  have HQ := Lib.hid hq
  have HRW := Lib.hid hRW
  have Hs := Lib.hid hs
  have HXl := Lib.hid hxl
  have hdm := (ten_parts hs).2
  have ha0 := hdm.1
  have hb0 := hdm.2.1
  have hd0 := hdm.2.2.1
  have hNb : N ≤ 729 := by rw [← hxl, hdm.2.2.2.1]; exact Nat.le_trans (Nat.mul_le_mul (Nat.mul_le_mul hdm.1.2 hdm.2.1.2) hdm.2.2.1.2) (by decide)
  clear hs hxl hdm hT h0 hTb hq hsq hRW
  go_enter Try.func9, Try.ntmps9
  go_upto_region 0 with (fail)
  refine wp_region_lit ?_
  refine ls_op rfl (fun K' hK' => ?_)
  have lz1 := hB.size
  refine wp_new (some 3) rfl (exec_box 29 _ rfl (#[.int .i64 p, .int .i64 a, .int .i64 b, .int .i64 d, .slice (some ⟨bB, oB, none⟩) N c0]) rfl) (fun Wz2 nnz3 => ?_)
  have bz4 := nnz3.below (Below.refl _ _) (Nat.le_refl _)
  replace hB := below_after hB bz4
  have hz5 : At Wz2 w.heap.size (.cells #[.int .i64 p, .int .i64 a, .int .i64 b, .int .i64 d, .slice (some ⟨bB, oB, none⟩) N c0] 29 (0, 0)) := nnz3.at_
  refine hK' _ _ ?_
  clear hK' K' nnz3 bz4
  go_frame
  refine ls_ex (some 6) (.slice none 0 0) rfl rfl (exec_assign _ rfl (.slice none 0 0) rfl) ?_
  go_frame
  refine ls_ex (some 7) (.int .i64 0) rfl rfl (exec_assign _ rfl (.int .i64 0) rfl) ?_
  go_frame
  refine wpList_nil ?_
  go_upto_region 1 with (fail)
  refine wp_region_lit ?_
  refine ls_ex (some 8) (.agg #[.int .i64 p, .int .i64 a, .int .i64 b, .int .i64 d, .slice (some ⟨bB, oB, none⟩) N c0]) rfl rfl (exec_load_all 29 _ rfl w.heap.size rfl _ _ _ hz5 Try.underlying29 rfl 5 (by kernel_rfl) rfl) ?_
  go_frame
  refine ls_op rfl (fun K' hK' => ?_)
  have lz8 := hB.size
  have lz9 := hz5.lt
  refine wp_call1 (some 9) rfl 30 _ _ rfl (fun args w => by kernel_rfl) _ rfl _ (implIsTensorN_c p a b d (some ⟨bB, oB, none⟩) N c0 xs _ HXl.out (hX.keep hB) (by omega)) (fun e Wz6 h => ?_)
  obtain ⟨rfl, bz7⟩ := h
  replace hB := below_after hB bz7
  replace hz5 := hz5.after bz7
  rw [Hs.out]
  clear bz7
  refine ⟨_, rfl, ?_⟩
  refine hK' _ _ ?_
  clear hK' K'
  go_frame
  refine ls_ex (some 10) (.bool false) rfl rfl (exec_not _ _ rfl true rfl) ?_
  go_frame
  refine wpList_nil ?_
  go_upto_region 3 with (fail)
  refine wp_region_lit ?_
  refine ls_ex (some 11) (.int .i64 1) rfl rfl (exec_move _ rfl (.int .i64 1) rfl) ?_
  go_frame
  refine ls_op rfl (fun K' hK' => ?_)
  have lz12 := hB.size
  have lz13 := hz5.lt
  refine wp_call2 (some 12) rfl 31 _ _ _ rfl (fun args w => by kernel_rfl) _ _ rfl rfl _ (isIndex_c 1 3 _) (fun e Wz10 h => ?_)
  obtain ⟨rfl, rfl⟩ := h
  rw [HS3.out]
  refine ⟨_, rfl, ?_⟩
  refine hK' _ _ ?_
  clear hK' K'
  go_frame
  refine ls_ex (some 13) (.bool false) rfl rfl (exec_not _ _ rfl true rfl) ?_
  go_frame
  refine ls_ex (some 14) (.bool false) rfl rfl (exec_move _ rfl (.bool false) rfl) ?_
  go_frame
  refine ls_ex_g (some 15) (.int .i64 (T : Nat)) rfl rfl (exec_move _ rfl (.int .i64 (T : Nat)) rfl) ?_
  go_frame
  refine ls_ex_g (some 16) (.agg #[.int .i64 p, .int .i64 a, .int .i64 b, .int .i64 d, .slice (some ⟨bB, oB, none⟩) N c0]) rfl rfl (exec_load_all 29 _ rfl w.heap.size rfl _ _ _ hz5 Try.underlying29 rfl 5 (by kernel_rfl) rfl) ?_
  go_frame
  refine ls_op_g rfl (fun K' hK' => ?_)
  have lz16 := hB.size
  have lz17 := hz5.lt
  refine wp_call1 (some 17) rfl 32 _ _ rfl (fun args w => by kernel_rfl) _ rfl _ (boxOf_c p a b d _ _) (fun e Wz14 h => ?_)
  obtain ⟨rfl, bz15⟩ := h
  replace hB := below_after hB bz15
  replace hz5 := hz5.after bz15
  clear bz15
  refine ⟨_, rfl, ?_⟩
  refine hK' _ _ ?_
  clear hK' K'
  go_frame
  refine ls_ex_g (some 18) (.int .i64 1) rfl rfl (exec_move _ rfl (.int .i64 1) rfl) ?_
  go_frame
  refine ls_ex_g (some 19) (.int .i64 b) rfl rfl (exec_index_arr3 52 2 _ _ rfl 3 1 _ _ rfl rfl Try.underlying52 _ Try.underlying2 rfl (by kernel_rfl) (by omega) rfl) ?_
  go_frame
  refine ls_op_g rfl (fun K' hK' => ?_)
  have lz20 := hB.size
  have lz21 := hz5.lt
  refine wp_call2 (some 20) rfl 31 _ _ _ rfl (fun args w => by kernel_rfl) _ _ rfl rfl _ (isIndex_c (T : Nat) b _) (fun e Wz18 h => ?_)
  obtain ⟨rfl, rfl⟩ := h
  rw [HT3.out]
  refine ⟨_, rfl, ?_⟩
  refine hK' _ _ ?_
  clear hK' K'
  go_frame
  refine ls_ex_g (some 21) (.bool false) rfl rfl (exec_not _ _ rfl true rfl) ?_
  go_frame
  refine ls_ex (some 22) (.bool false) rfl rfl (exec_pick _ _ _ rfl false rfl (.bool false) rfl) ?_
  go_frame
  refine wpList_nil ?_
  go_upto_region 5 with (fail)
  refine wp_region_lit ?_
  refine ls_ex (some 23) (.agg #[.int .i64 p, .int .i64 a, .int .i64 b, .int .i64 d, .slice (some ⟨bB, oB, none⟩) N c0]) rfl rfl (exec_load_all 29 _ rfl w.heap.size rfl _ _ _ hz5 Try.underlying29 rfl 5 (by kernel_rfl) rfl) ?_
  go_frame
  refine ls_ex (some 24) (.int .i64 1) rfl rfl (exec_move _ rfl (.int .i64 1) rfl) ?_
  go_frame
  refine ls_op rfl (fun K' hK' => ?_)
  have lz24 := hB.size
  have lz25 := hz5.lt
  refine wp_call2 (some 25) rfl 34 _ _ _ rfl (fun args w => by kernel_rfl) _ _ rfl rfl _ (turnedTo_q p a b d 1 bB oB c0 N xs 1 _ q1 q2 q3 q4 HQ.out rfl (hX.keep hB) HXl.out Hs.out (by omega) hc0) (fun e Wz22 h => ?_)
  obtain ⟨b9, o9, c9, rfl, hc9, hq5, hq6, hq4, bz23⟩ := h
  replace hB := below_after hB bz23
  replace hz5 := hz5.after bz23
  clear bz23
  refine ⟨_, rfl, ?_⟩
  refine hK' _ _ ?_
  clear hK' K'
  go_frame
  refine ls_ex (some 26) (.int .i64 (T : Nat)) rfl rfl (exec_move _ rfl (.int .i64 (T : Nat)) rfl) ?_
  go_frame
  refine ls_op rfl (fun K' hK' => ?_)
  have lz28 := hB.size
  have lz29 := hz5.lt
  have lo9 := hB.size
  refine wp_call2 (some 27) rfl 33 _ _ _ rfl (fun args w => by kernel_rfl) _ _ rfl rfl _ (sliceAt_c p q1 q2 q3 T b9 o9 c9 N q4 _ hq4 hq5 hq6 hT1 hc9) (fun e Wz26 h => ?_)
  obtain ⟨v9, rfl, ho, bz27⟩ := h
  replace hB := below_after hB bz27
  replace hz5 := hz5.after bz27
  replace hq4 := hq4.keep bz27
  rw [HRW.out] at ho
  replace ho := OwnP.of ho
  clear bz27
  refine ⟨_, rfl, ?_⟩
  refine hK' _ _ ?_
  clear hK' K'
  go_frame
  refine ls_ex (some 6) (v9) rfl rfl (exec_assign _ rfl (v9) rfl) ?_
  go_frame
  refine ls_ex (some 7) (.int .i64 0) rfl rfl (exec_assign _ rfl (.int .i64 0) rfl) ?_
  go_frame
  refine wpList_nil ?_
  go_wp2_with fail
  obtain ⟨hi9, hh9, ho9⟩ := ho
  go_ret2
  rw [HN.out, HF.out]
  exact ⟨v9, by rw [HC.out]; rfl, ho9.mono (by omega) hh9, hB⟩
set_option maxHeartbeats 4000000 in
theorem implSl_n2 (p : Int) (a b d : Nat) (T : Int) (bB oB c0 N : Nat) (xs : List Int) (w : World) (hX : RdI w (some ⟨bB, oB, none⟩) xs) (hxl : xs.length = N) (hs : tenB p a b d xs = true) (hT : inB T d = false) :
    Calls Try.prog 9 #[.agg #[.int .i64 p, .int .i64 a, .int .i64 b, .int .i64 d, .slice (some ⟨bB, oB, none⟩) N c0], .int .i64 2, .int .i64 T] w (ResR w (slN p a b d 2 T xs) (slF p a b d 2 T xs) (slCode p a b d 2 T xs)) := by
  have hB := Below.refl w.heap.size w
  have h0 : slOK p a b d 2 T xs = false := by unfold slOK; simp [hT]
  have HN : Hid (slN p a b d 2 T xs = 0) := Lib.hid (by unfold slN; rw [h0]; rfl)
  have HC : Hid (slCode p a b d 2 T xs = 2) := Lib.hid (by unfold slCode; rw [hs, h0]; rfl)
  have HS3 : Hid (inB 2 3 = true) := Lib.hid rfl
  have HT3 := Lib.hid hT
  have Hs := Lib.hid hs
  have HXl := Lib.hid hxl
  have hdm := (ten_parts hs).2
  have ha0 := hdm.1
  have hb0 := hdm.2.1
  have hd0 := hdm.2.2.1
  have hNb : N ≤ 729 := by rw [← hxl, hdm.2.2.2.1]; exact Nat.le_trans (Nat.mul_le_mul (Nat.mul_le_mul hdm.1.2 hdm.2.1.2) hdm.2.2.1.2) (by decide)
  clear hs hxl hdm hT h0
  go_enter Try.func9, Try.ntmps9
  go_upto_region 0 with (fail)
  refine wp_region_lit ?_
  refine ls_op rfl (fun K' hK' => ?_)
  have lz1 := hB.size
  refine wp_new (some 3) rfl (exec_box 29 _ rfl (#[.int .i64 p, .int .i64 a, .int .i64 b, .int .i64 d, .slice (some ⟨bB, oB, none⟩) N c0]) rfl) (fun Wz2 nnz3 => ?_)
  have bz4 := nnz3.below (Below.refl _ _) (Nat.le_refl _)
  replace hB := below_after hB bz4
  have hz5 : At Wz2 w.heap.size (.cells #[.int .i64 p, .int .i64 a, .int .i64 b, .int .i64 d, .slice (some ⟨bB, oB, none⟩) N c0] 29 (0, 0)) := nnz3.at_
  refine hK' _ _ ?_
  clear hK' K' nnz3 bz4
  go_frame
  refine ls_ex (some 6) (.slice none 0 0) rfl rfl (exec_assign _ rfl (.slice none 0 0) rfl) ?_
  go_frame
  refine ls_ex (some 7) (.int .i64 0) rfl rfl (exec_assign _ rfl (.int .i64 0) rfl) ?_
  go_frame
  refine wpList_nil ?_
  go_upto_region 1 with (fail)
  refine wp_region_lit ?_
  refine ls_ex (some 8) (.agg #[.int .i64 p, .int .i64 a, .int .i64 b, .int .i64 d, .slice (some ⟨bB, oB, none⟩) N c0]) rfl rfl (exec_load_all 29 _ rfl w.heap.size rfl _ _ _ hz5 Try.underlying29 rfl 5 (by kernel_rfl) rfl) ?_
  go_frame
  refine ls_op rfl (fun K' hK' => ?_)
  have lz8 := hB.size
  have lz9 := hz5.lt
  refine wp_call1 (some 9) rfl 30 _ _ rfl (fun args w => by kernel_rfl) _ rfl _ (implIsTensorN_c p a b d (some ⟨bB, oB, none⟩) N c0 xs _ HXl.out (hX.keep hB) (by omega)) (fun e Wz6 h => ?_)
  obtain ⟨rfl, bz7⟩ := h
  replace hB := below_after hB bz7
  replace hz5 := hz5.after bz7
  rw [Hs.out]
  clear bz7
  refine ⟨_, rfl, ?_⟩
  refine hK' _ _ ?_
  clear hK' K'
  go_frame
  refine ls_ex (some 10) (.bool false) rfl rfl (exec_not _ _ rfl true rfl) ?_
  go_frame
  refine wpList_nil ?_
  go_upto_region 3 with (fail)
  refine wp_region_lit ?_
  refine ls_ex (some 11) (.int .i64 2) rfl rfl (exec_move _ rfl (.int .i64 2) rfl) ?_
  go_frame
  refine ls_op rfl (fun K' hK' => ?_)
  have lz12 := hB.size
  have lz13 := hz5.lt
  refine wp_call2 (some 12) rfl 31 _ _ _ rfl (fun args w => by kernel_rfl) _ _ rfl rfl _ (isIndex_c 2 3 _) (fun e Wz10 h => ?_)
  obtain ⟨rfl, rfl⟩ := h
  rw [HS3.out]
  refine ⟨_, rfl, ?_⟩
  refine hK' _ _ ?_
  clear hK' K'
  go_frame
  refine ls_ex (some 13) (.bool false) rfl rfl (exec_not _ _ rfl true rfl) ?_
  go_frame
  refine ls_ex (some 14) (.bool false) rfl rfl (exec_move _ rfl (.bool false) rfl) ?_
  go_frame
  refine ls_ex_g (some 15) (.int .i64 T) rfl rfl (exec_move _ rfl (.int .i64 T) rfl) ?_
  go_frame
  refine ls_ex_g (some 16) (.agg #[.int .i64 p, .int .i64 a, .int .i64 b, .int .i64 d, .slice (some ⟨bB, oB, none⟩) N c0]) rfl rfl (exec_load_all 29 _ rfl w.heap.size rfl _ _ _ hz5 Try.underlying29 rfl 5 (by kernel_rfl) rfl) ?_
  go_frame
  refine ls_op_g rfl (fun K' hK' => ?_)
  have lz16 := hB.size
  have lz17 := hz5.lt
  refine wp_call1 (some 17) rfl 32 _ _ rfl (fun args w => by kernel_rfl) _ rfl _ (boxOf_c p a b d _ _) (fun e Wz14 h => ?_)
  obtain ⟨rfl, bz15⟩ := h
  replace hB := below_after hB bz15
  replace hz5 := hz5.after bz15
  clear bz15
  refine ⟨_, rfl, ?_⟩
  refine hK' _ _ ?_
  clear hK' K'
  go_frame
  refine ls_ex_g (some 18) (.int .i64 2) rfl rfl (exec_move _ rfl (.int .i64 2) rfl) ?_
  go_frame
  refine ls_ex_g (some 19) (.int .i64 d) rfl rfl (exec_index_arr3 52 2 _ _ rfl 3 2 _ _ rfl rfl Try.underlying52 _ Try.underlying2 rfl (by kernel_rfl) (by omega) rfl) ?_
  go_frame
  refine ls_op_g rfl (fun K' hK' => ?_)
  have lz20 := hB.size
  have lz21 := hz5.lt
  refine wp_call2 (some 20) rfl 31 _ _ _ rfl (fun args w => by kernel_rfl) _ _ rfl rfl _ (isIndex_c T d _) (fun e Wz18 h => ?_)
  obtain ⟨rfl, rfl⟩ := h
  rw [HT3.out]
  refine ⟨_, rfl, ?_⟩
  refine hK' _ _ ?_
  clear hK' K'
  go_frame
  refine ls_ex_g (some 21) (.bool true) rfl rfl (exec_not _ _ rfl false rfl) ?_
  go_frame
  refine ls_ex (some 22) (.bool true) rfl rfl (exec_pick _ _ _ rfl false rfl (.bool true) rfl) ?_
  go_frame
  refine wpList_nil ?_
  go_upto_region 4 with (fail)
  refine wp_region_lit ?_
  refine ls_ex (some 6) (.slice none 0 0) rfl rfl (exec_assign _ rfl (.slice none 0 0) rfl) ?_
  go_frame
  refine ls_ex (some 7) (.int .i64 2) rfl rfl (exec_assign _ rfl (.int .i64 2) rfl) ?_
  go_frame
  refine wpList_nil ?_
  go_wp2_with fail
  go_ret2
  exact ⟨_, by rw [HC.out]; rfl, by rw [HN.out]; exact OwnR.nil _ _ _ _, hB⟩
set_option maxHeartbeats 4000000 in
theorem implSl_y2 (p : Int) (a b d : Nat) (T : Nat) (bB oB c0 N : Nat) (xs : List Int) (w : World) (hX : RdI w (some ⟨bB, oB, none⟩) xs) (hxl : xs.length = N) (hs : tenB p a b d xs = true) (hT : T < d) (hc0 : N ≤ c0) :
    Calls Try.prog 9 #[.agg #[.int .i64 p, .int .i64 a, .int .i64 b, .int .i64 d, .slice (some ⟨bB, oB, none⟩) N c0], .int .i64 2, .int .i64 (T : Nat)] w (ResR w (slN p a b d 2 T xs) (slF p a b d 2 T xs) (slCode p a b d 2 T xs)) := by
  have hB := Below.refl w.heap.size w
  have hTb : inB (T : Nat) d = true := by simp [inB]; omega
  have h0 : slOK p a b d 2 T xs = true := by unfold slOK; rw [hs]; simp [hTb]; rfl
  obtain ⟨q1, q2, q3, q4, hq, hT1⟩ : ∃ q1 q2 q3 q4, trn p 2 (a, b, d, xs) = (q1, q2, q3, q4) ∧ T < q1 := ⟨_, _, _, _, rfl, hT⟩
  obtain ⟨RW, hRW⟩ : ∃ z9, slR q3 ((q4.drop (T * (q2 * q3))).take (q2 * q3)) = z9 := ⟨_, rfl⟩
  have hsq : slQ p a b d 2 xs = (q1, q2, q3, q4) := by rw [← hq]; rfl
  have HN : Hid (slN p a b d 2 T xs = q2) := Lib.hid (by unfold slN; rw [h0, hsq]; rfl)
  have HF : Hid (slF p a b d 2 T xs = RW) := Lib.hid (by unfold slF slG; rw [hsq, Int.toNat_natCast]; exact hRW)
  have HC : Hid (slCode p a b d 2 T xs = 0) := Lib.hid (by unfold slCode; rw [hs, h0]; rfl)
  have HS3 : Hid (inB 2 3 = true) := Lib.hid rfl
  have HT3 := Lib.hid hTb
  have HQ := Lib.hid hq
  have HRW := Lib.hid hRW
  have Hs := Lib.hid hs
  have HXl := Lib.hid hxl
  have hdm := (ten_parts hs).2
  have ha0 := hdm.1
  have hb0 := hdm.2.1
  have hd0 := hdm.2.2.1
  have hNb : N ≤ 729 := by rw [← hxl, hdm.2.2.2.1]; exact Nat.le_trans (Nat.mul_le_mul (Nat.mul_le_mul hdm.1.2 hdm.2.1.2) hdm.2.2.1.2) (by decide)
  clear hs hxl hdm hT h0 hTb hq hsq hRW
  go_enter Try.func9, Try.ntmps9
  go_upto_region 0 with (fail)
  refine wp_region_lit ?_
  refine ls_op rfl (fun K' hK' => ?_)
  have lz1 := hB.size
  refine wp_new (some 3) rfl (exec_box 29 _ rfl (#[.int .i64 p, .int .i64 a, .int .i64 b, .int .i64 d, .slice (some ⟨bB, oB, none⟩) N c0]) rfl) (fun Wz2 nnz3 => ?_)
  have bz4 := nnz3.below (Below.refl _ _) (Nat.le_refl _)
  replace hB := below_after hB bz4
  have hz5 : At Wz2 w.heap.size (.cells #[.int .i64 p, .int .i64 a, .int .i64 b, .int .i64 d, .slice (some ⟨bB, oB, none⟩) N c0] 29 (0, 0)) := nnz3.at_
  refine hK' _ _ ?_
  clear hK' K' nnz3 bz4
  go_frame
  refine ls_ex (some 6) (.slice none 0 0) rfl rfl (exec_assign _ rfl (.slice none 0 0) rfl) ?_
  go_frame
  refine ls_ex (some 7) (.int .i64 0) rfl rfl (exec_assign _ rfl (.int .i64 0) rfl) ?_
  go_frame
  refine wpList_nil ?_
  go_upto_region 1 with (fail)
  refine wp_region_lit ?_
  refine ls_ex (some 8) (.agg #[.int .i64 p, .int .i64 a, .int .i64 b, .int .i64 d, .slice (some ⟨bB, oB, none⟩) N c0]) rfl rfl (exec_load_all 29 _ rfl w.heap.size rfl _ _ _ hz5 Try.underlying29 rfl 5 (by kernel_rfl) rfl) ?_
  go_frame
  refine ls_op rfl (fun K' hK' => ?_)
  have lz8 := hB.size
  have lz9 := hz5.lt
  refine wp_call1 (some 9) rfl 30 _ _ rfl (fun args w => by kernel_rfl) _ rfl _ (implIsTensorN_c p a b d (some ⟨bB, oB, none⟩) N c0 xs _ HXl.out (hX.keep hB) (by omega)) (fun e Wz6 h => ?_)
  obtain ⟨rfl, bz7⟩ := h
  replace hB := below_after hB bz7
  replace hz5 := hz5.after bz7
  rw [Hs.out]
  clear bz7
  refine ⟨_, rfl, ?_⟩
  refine hK' _ _ ?_
  clear hK' K'
  go_frame
  refine ls_ex (some 10) (.bool false) rfl rfl (exec_not _ _ rfl true rfl) ?_
  go_frame
  refine wpList_nil ?_
  go_upto_region 3 with (fail)
  refine wp_region_lit ?_
  refine ls_ex (some 11) (.int .i64 2) rfl rfl (exec_move _ rfl (.int .i64 2) rfl) ?_
  go_frame
  refine ls_op rfl (fun K' hK' => ?_)
  have lz12 := hB.size
  have lz13 := hz5.lt
  refine wp_call2 (some 12) rfl 31 _ _ _ rfl (fun args w => by kernel_rfl) _ _ rfl rfl _ (isIndex_c 2 3 _) (fun e Wz10 h => ?_)
  obtain ⟨rfl, rfl⟩ := h
  rw [HS3.out]
  refine ⟨_, rfl, ?_⟩
  refine hK' _ _ ?_
  clear hK' K'
  go_frame
  refine ls_ex (some 13) (.bool false) rfl rfl (exec_not _ _ rfl true rfl) ?_
  go_frame
  refine ls_ex (some 14) (.bool false) rfl rfl (exec_move _ rfl (.bool false) rfl) ?_
  go_frame
  refine ls_ex_g (some 15) (.int .i64 (T : Nat)) rfl rfl (exec_move _ rfl (.int .i64 (T : Nat)) rfl) ?_
  go_frame
  refine ls_ex_g (some 16) (.agg #[.int .i64 p, .int .i64 a, .int .i64 b, .int .i64 d, .slice (some ⟨bB, oB, none⟩) N c0]) rfl rfl (exec_load_all 29 _ rfl w.heap.size rfl _ _ _ hz5 Try.underlying29 rfl 5 (by kernel_rfl) rfl) ?_
  go_frame
  refine ls_op_g rfl (fun K' hK' => ?_)
  have lz16 := hB.size
  have lz17 := hz5.lt
  refine wp_call1 (some 17) rfl 32 _ _ rfl (fun args w => by kernel_rfl) _ rfl _ (boxOf_c p a b d _ _) (fun e Wz14 h => ?_)
  obtain ⟨rfl, bz15⟩ := h
  replace hB := below_after hB bz15
  replace hz5 := hz5.after bz15
  clear bz15
  refine ⟨_, rfl, ?_⟩
  refine hK' _ _ ?_
  clear hK' K'
  go_frame
  refine ls_ex_g (some 18) (.int .i64 2) rfl rfl (exec_move _ rfl (.int .i64 2) rfl) ?_
  go_frame
  refine ls_ex_g (some 19) (.int .i64 d) rfl rfl (exec_index_arr3 52 2 _ _ rfl 3 2 _ _ rfl rfl Try.underlying52 _ Try.underlying2 rfl (by kernel_rfl) (by omega) rfl) ?_
  go_frame
  refine ls_op_g rfl (fun K' hK' => ?_)
  have lz20 := hB.size
  have lz21 := hz5.lt
  refine wp_call2 (some 20) rfl 31 _ _ _ rfl (fun args w => by kernel_rfl) _ _ rfl rfl _ (isIndex_c (T : Nat) d _) (fun e Wz18 h => ?_)
  obtain ⟨rfl, rfl⟩ := h
  rw [HT3.out]
  refine ⟨_, rfl, ?_⟩
  refine hK' _ _ ?_
  clear hK' K'
  go_frame
  refine ls_ex_g (some 21) (.bool false) rfl rfl (exec_not _ _ rfl true rfl) ?_
  go_frame
  refine ls_ex (some 22) (.bool false) rfl rfl (exec_pick _ _ _ rfl false rfl (.bool false) rfl) ?_
  go_frame
  refine wpList_nil ?_
  go_upto_region 5 with (fail)
  refine wp_region_lit ?_
  refine ls_ex (some 23) (.agg #[.int .i64 p, .int .i64 a, .int .i64 b, .int .i64 d, .slice (some ⟨bB, oB, none⟩) N c0]) rfl rfl (exec_load_all 29 _ rfl w.heap.size rfl _ _ _ hz5 Try.underlying29 rfl 5 (by kernel_rfl) rfl) ?_
  go_frame
  refine ls_ex (some 24) (.int .i64 2) rfl rfl (exec_move _ rfl (.int .i64 2) rfl) ?_
  go_frame
  refine ls_op rfl (fun K' hK' => ?_)
  have lz24 := hB.size
  have lz25 := hz5.lt
  refine wp_call2 (some 25) rfl 34 _ _ _ rfl (fun args w => by kernel_rfl) _ _ rfl rfl _ (turnedTo_q p a b d 2 bB oB c0 N xs 2 _ q1 q2 q3 q4 HQ.out rfl (hX.keep hB) HXl.out Hs.out (by omega) hc0) (fun e Wz22 h => ?_)
  obtain ⟨b9, o9, c9, rfl, hc9, hq5, hq6, hq4, bz23⟩ := h
  replace hB := below_after hB bz23
  replace hz5 := hz5.after bz23
  clear bz23
  refine ⟨_, rfl, ?_⟩
  refine hK' _ _ ?_
  clear hK' K'
  go_frame
  refine ls_ex (some 26) (.int .i64 (T : Nat)) rfl rfl (exec_move _ rfl (.int .i64 (T : Nat)) rfl) ?_
  go_frame
  refine ls_op rfl (fun K' hK' => ?_)
  have lz28 := hB.size
  have lz29 := hz5.lt
  have lo9 := hB.size
  refine wp_call2 (some 27) rfl 33 _ _ _ rfl (fun args w => by kernel_rfl) _ _ rfl rfl _ (sliceAt_c p q1 q2 q3 T b9 o9 c9 N q4 _ hq4 hq5 hq6 hT1 hc9) (fun e Wz26 h => ?_)
  obtain ⟨v9, rfl, ho, bz27⟩ := h
  replace hB := below_after hB bz27
  replace hz5 := hz5.after bz27
  replace hq4 := hq4.keep bz27
  rw [HRW.out] at ho
  replace ho := OwnP.of ho
  clear bz27
  refine ⟨_, rfl, ?_⟩
  refine hK' _ _ ?_
  clear hK' K'
  go_frame
  refine ls_ex (some 6) (v9) rfl rfl (exec_assign _ rfl (v9) rfl) ?_
  go_frame
  refine ls_ex (some 7) (.int .i64 0) rfl rfl (exec_assign _ rfl (.int .i64 0) rfl) ?_
  go_frame
  refine wpList_nil ?_
  go_wp2_with fail
  obtain ⟨hi9, hh9, ho9⟩ := ho
  go_ret2
  rw [HN.out, HF.out]
  exact ⟨v9, by rw [HC.out]; rfl, ho9.mono (by omega) hh9, hB⟩
theorem specSliceOf_c (p a b d : Int) (A : Option Addr) (c : Nat) (xs : List Int) (S T : Int) (w : World) (hX : RdI w A xs) (hlen : xs.length ≤ 1048576) (hc : xs.length ≤ c) : Calls Try.prog 7 #[.agg #[.int .i64 p, .int .i64 a, .int .i64 b, .int .i64 d, .slice A xs.length c], .int .i64 S, .int .i64 T] w (ResV w (slN p a b d S T xs) (slF p a b d S T xs) (slCode p a b d S T xs)) := by
  rcases Bool.eq_false_or_eq_true (tenB p a b d xs) with hs | hs
  · rcases Bool.eq_false_or_eq_true (inB S 3) with hS | hS
    · obtain ⟨a, b, d, rfl, rfl, rfl⟩ := ten_natsT hs
      have h0 := (ten_parts hs).2
      have hpos : 0 < xs.length := by rw [h0.2.2.2.1]; exact Nat.mul_pos (Nat.mul_pos (by omega) (by omega)) (by omega)
      obtain ⟨bB, oB, rfl, _⟩ := hX.at_ (i := 0) hpos
      have h3 : S = 0 ∨ S = 1 ∨ S = 2 := by simp [inB] at hS; omega
      rcases h3 with rfl | rfl | rfl
      · rcases Bool.eq_false_or_eq_true (inB T a) with hT | hT
        · obtain ⟨T, rfl⟩ := Int.eq_ofNat_of_zero_le (show 0 ≤ T by simp [inB] at hT; omega)
          exact specSl_y0 p a b d T bB oB c xs.length xs w hX rfl hs (by simp [inB] at hT; omega) hc
        · exact specSl_n0 p a b d T bB oB c xs.length xs w hX rfl hs hT
      · rcases Bool.eq_false_or_eq_true (inB T b) with hT | hT
        · obtain ⟨T, rfl⟩ := Int.eq_ofNat_of_zero_le (show 0 ≤ T by simp [inB] at hT; omega)
          exact specSl_y1 p a b d T bB oB c xs.length xs w hX rfl hs (by simp [inB] at hT; omega) hc
        · exact specSl_n1 p a b d T bB oB c xs.length xs w hX rfl hs hT
      · rcases Bool.eq_false_or_eq_true (inB T d) with hT | hT
        · obtain ⟨T, rfl⟩ := Int.eq_ofNat_of_zero_le (show 0 ≤ T by simp [inB] at hT; omega)
          exact specSl_y2 p a b d T bB oB c xs.length xs w hX rfl hs (by simp [inB] at hT; omega) hc
        · exact specSl_n2 p a b d T bB oB c xs.length xs w hX rfl hs hT
    · exact specSl_b p a b d S T A c xs w hX hlen hs hS
  · exact specSl_a p a b d S T A c xs w hX hlen hs
theorem implSliceOf_c (p a b d : Int) (A : Option Addr) (c : Nat) (xs : List Int) (S T : Int) (w : World) (hX : RdI w A xs) (hlen : xs.length ≤ 1048576) (hc : xs.length ≤ c) : Calls Try.prog 9 #[.agg #[.int .i64 p, .int .i64 a, .int .i64 b, .int .i64 d, .slice A xs.length c], .int .i64 S, .int .i64 T] w (ResR w (slN p a b d S T xs) (slF p a b d S T xs) (slCode p a b d S T xs)) := by
  rcases Bool.eq_false_or_eq_true (tenB p a b d xs) with hs | hs
  · rcases Bool.eq_false_or_eq_true (inB S 3) with hS | hS
    · obtain ⟨a, b, d, rfl, rfl, rfl⟩ := ten_natsT hs
      have h0 := (ten_parts hs).2
      have hpos : 0 < xs.length := by rw [h0.2.2.2.1]; exact Nat.mul_pos (Nat.mul_pos (by omega) (by omega)) (by omega)
      obtain ⟨bB, oB, rfl, _⟩ := hX.at_ (i := 0) hpos
      have h3 : S = 0 ∨ S = 1 ∨ S = 2 := by simp [inB] at hS; omega
      rcases h3 with rfl | rfl | rfl
      · rcases Bool.eq_false_or_eq_true (inB T a) with hT | hT
        · obtain ⟨T, rfl⟩ := Int.eq_ofNat_of_zero_le (show 0 ≤ T by simp [inB] at hT; omega)
          exact implSl_y0 p a b d T bB oB c xs.length xs w hX rfl hs (by simp [inB] at hT; omega) hc
        · exact implSl_n0 p a b d T bB oB c xs.length xs w hX rfl hs hT
      · rcases Bool.eq_false_or_eq_true (inB T b) with hT | hT
        · obtain ⟨T, rfl⟩ := Int.eq_ofNat_of_zero_le (show 0 ≤ T by simp [inB] at hT; omega)
          exact implSl_y1 p a b d T bB oB c xs.length xs w hX rfl hs (by simp [inB] at hT; omega) hc
        · exact implSl_n1 p a b d T bB oB c xs.length xs w hX rfl hs hT
      · rcases Bool.eq_false_or_eq_true (inB T d) with hT | hT
        · obtain ⟨T, rfl⟩ := Int.eq_ofNat_of_zero_le (show 0 ≤ T by simp [inB] at hT; omega)
          exact implSl_y2 p a b d T bB oB c xs.length xs w hX rfl hs (by simp [inB] at hT; omega) hc
        · exact implSl_n2 p a b d T bB oB c xs.length xs w hX rfl hs hT
    · exact implSl_b p a b d S T A c xs w hX hlen hs hS
  · exact implSl_a p a b d S T A c xs w hX hlen hs
theorem sl_ok {p a b d S T : Int} {xs : List Int} : slN p a b d S T xs + tot (slF p a b d S T xs) (slN p a b d S T xs) ≤ 1048576 := by
  unfold slN
  split
  · next h =>
    unfold slOK at h
    rw [Bool.and_eq_true] at h
    obtain ⟨a, b, d, rfl, rfl, rfl⟩ := ten_natsT h.1
    have hS : inB S 3 = true := by
      have := h.2
      rw [Bool.and_eq_true] at this
      exact this.1
    have h3 : S = 0 ∨ S = 1 ∨ S = 2 := by simp [inB] at hS; omega
    have hq : (slQ p a b d S xs).2.1 ≤ 9 ∧ (slQ p a b d S xs).2.2.1 ≤ 9 := by
      have hd := (ten_parts h.1).2
      rcases h3 with rfl | rfl | rfl
      · exact ⟨hd.2.1.2, hd.2.2.1.2⟩
      · exact ⟨hd.2.2.1.2, hd.1.2⟩
      · exact ⟨hd.1.2, hd.2.1.2⟩
    have h5 := tot_le (row := slF p a b d S T xs) (n := (slQ p a b d S xs).2.1) (K := 9) (fun i _ => by simp only [slF, slG, slR, List.length_take]; omega)
    omega
  · simp [tot]
end Go.Proofs.Ytolgfpcadfjliaa
