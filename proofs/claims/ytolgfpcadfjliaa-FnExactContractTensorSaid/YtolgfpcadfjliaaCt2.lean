/-
  spec.ContractTensor; ContractTensor of both sides. (Made by mkct.py.)
-/
import Derived.Test.YtolgfpcadfjliaaCt1
import Derived.Test.YtolgfpcadfjliaaHeldT
namespace Go.Proofs.Ytolgfpcadfjliaa
open Go.RowKit
set_option maxRecDepth 100000
theorem wp_make_Iz {o : Oper} {a : Act} {w : World} {K : Act → World → Prop} {Q : Exit → Act → World → Prop} (d : Option Tmp) (hd : o.dst = d) (l c : Operand) (hop : o.op = Op.makeSlice 22 l c)
    (n : Nat) (hl : a.eval l = .int .i64 n) (hc : a.eval c = .int .i64 n) (hb : n ≤ 1000000)
    (h : ∀ w', New w w' (.cells (iar (List.replicate n 0)) 2 (0, 0)) → K (a.put d (.slice (some ⟨w.heap.size, 0, none⟩) n n)) w') : Oper.wp Try.prog o a w K Q := by
  subst hd
  obtain ⟨i, hi0, hz, h1, h2⟩ := info_parts infoI64
  have hr := run_make (P := Try.prog) w 22 2 i _ Try.underlying22 hi0 hz .i64 .i64 n n (by omega) (Int.le_refl _) (by rw [h2]; omega) (by omega)
  have hzc : (Value.int .i64 0).cells = #[Value.int .i64 0] := rfl
  simp only [Int.toNat_natCast, h1, hzc, made_one, iar_zero] at hr
  unfold Oper.wp
  simp [execOp, hop, hl, hc, hr, Result.andThen]
  exact h _ (New.alloc _ _)
theorem inB_sp (x p : Int) : inB x p = (decide (0 ≤ x) && decide (x ≤ p - 1)) := by
  rw [Bool.eq_iff_iff]
  simp only [inB, Bool.and_eq_true, decide_eq_true_eq]
  omega
set_option maxHeartbeats 4000000 in
theorem l05Numbers_c (p n : Int) (Ax : Option Addr) (cx : Nat) (xs : List Int) (w : World) (hp : -1000 ≤ p ∧ p ≤ 1000) (hx : RdI w Ax xs) (hnx : xs.length ≤ 1048576) :
    Calls Try.prog 36 #[.int .i64 p, .slice Ax xs.length cx, .int .i64 n] w (fun e w' => e = .returned (.bool (numsB p xs && ((xs.length : Int) == n))) ∧ Below w.heap.size w w') := by
  have hB := Below.refl w.heap.size w
  skip
  go_enter Try.func36, Try.ntmps36
  go_upto_region 0 with (fail)
  refine wp_region_lit ?_
  refine ls_ex (some 6) (.bool false) rfl rfl (exec_assign _ rfl (.bool false) rfl) ?_
  go_frame
  refine wpList_nil ?_
  go_upto_region 1 with (fail)
  refine wp_region_lit ?_
  refine ls_ex (some 7) (.int .i64 0) rfl rfl (exec_assign _ rfl (.int .i64 0) rfl) ?_
  go_frame
  refine wpList_nil ?_
  go_wp2_with fail
  go_loopw [7] (fun s7 wr => ∃ i : Nat, i ≤ xs.length ∧ s7 = .int .i64 i ∧ Below w.heap.size w wr ∧ Hid (∀ (y : Nat) (hy : y < xs.length), y < i → inB xs[y] p = true)) (fun s7 _ => xs.length - (intOf s7).toNat)
  case atStart => exact ⟨0, by omega, rfl, hB, Lib.hid (by omega)⟩
  case round =>
    clear hB
    obtain ⟨i, hi, rfl, hB, HA⟩ := hrel
    by_cases hlt : i < xs.length
    · obtain ⟨b, off, rfl, hc⟩ := (hx.keep hB).at_ hlt
      have Hc := Lib.hid hc
      clear hc
      cases hb : inB xs[i] p with
      | false =>
        have HNo : Hid (numsB p xs = false) := Lib.hid (numsB_no hlt hb)
        have HIn : Hid ((decide (0 ≤ xs[i]) && decide (xs[i] ≤ p - 1)) = false) := Lib.hid (by rw [← inB_sp]; exact hb)
        clear hb
        go_upto_region 2 with (fail)
        refine wp_region_lit ?_
        refine ls_ex (some 8) (.int .i64 i) rfl rfl (exec_move _ rfl (.int .i64 i) rfl) ?_
        go_frame
        refine ls_ex (some 9) (.slice (some ⟨b, off, none⟩) xs.length cx) rfl rfl (exec_move _ rfl (.slice (some ⟨b, off, none⟩) xs.length cx) rfl) ?_
        go_frame
        refine ls_ex (some 10) (.int .i64 xs.length) rfl rfl (exec_len _ 22 2 rfl ((some ⟨b, off, none⟩)) xs.length cx rfl Try.underlying22) ?_
        go_frame
        refine ls_ex (some 11) (.bool true) rfl rfl (exec_lss _ _ _ _ rfl i xs.length rfl rfl true (decide_eq_true (by omega))) ?_
        go_frame
        refine wpList_nil ?_
        go_upto_region 4 with (fail)
        refine wp_region_lit ?_
        refine ls_ex (some 14) (.slice (some ⟨b, off, none⟩) xs.length cx) rfl rfl (exec_move _ rfl (.slice (some ⟨b, off, none⟩) xs.length cx) rfl) ?_
        go_frame
        refine ls_ex (some 15) (.int .i64 i) rfl rfl (exec_move _ rfl (.int .i64 i) rfl) ?_
        go_frame
        refine ls_ex (some 16) (.pointer (some ⟨b, off + i * 1, none⟩)) rfl rfl (exec_index_slice _ 2 _ _ rfl b off xs.length cx i 1 rfl rfl Try.underlying22 (by kernel_rfl) (by omega)) ?_
        go_frame
        refine ls_ex (some 17) (.int .i64 xs[i]) rfl rfl (exec_load_one 2 _ rfl b (off + i * 1) rfl (.int .i64 xs[i]) _ Try.underlying2 rfl (by rw [Nat.mul_one]; exact Hc.out)) ?_
        go_frame
        refine ls_ex (some 18) (.int .i64 p) rfl rfl (exec_move _ rfl (.int .i64 p) rfl) ?_
        go_frame
        refine ls_ex (some 19) (.int .i64 (p - 1)) rfl rfl (exec_sub _ _ _ _ rfl p 1 (p - 1) rfl rfl (IntWalk.i64_in _ (by omega))) ?_
        go_frame
        refine ls_op rfl (fun K' hK' => ?_)
        have lz3 := hB.size
        refine wp_call3 (some 20) rfl 26 _ _ _ _ rfl (fun args w => by kernel_rfl) _ _ _ rfl rfl rfl _ (l01In_c xs[i] 0 (p - 1) _) (fun e Wz1 h => ?_)
        obtain ⟨rfl, rfl⟩ := h
        rw [HIn.out]
        refine ⟨_, rfl, ?_⟩
        refine hK' _ _ ?_
        clear hK' K'
        go_frame
        refine ls_ex (some 21) (.bool true) rfl rfl (exec_not _ _ rfl false rfl) ?_
        go_frame
        refine wpList_nil ?_
        go_upto_region 5 with (fail)
        refine wp_region_lit ?_
        refine ls_ex (some 6) (.bool false) rfl rfl (exec_assign _ rfl (.bool false) rfl) ?_
        go_frame
        refine wpList_nil ?_
        go_wp2_with fail
        go_ret
        exact ⟨by rw [HNo.out]; rfl, hB⟩
      | true =>
        have HS : Hid (∀ (y : Nat) (hy : y < xs.length), y < i + 1 → inB xs[y] p = true) := Lib.hid (fun y hy hyk => by by_cases e : y = i; subst e; exact hb; exact HA.out y hy (by omega))
        have HIn : Hid ((decide (0 ≤ xs[i]) && decide (xs[i] ≤ p - 1)) = true) := Lib.hid (by rw [← inB_sp]; exact hb)
        clear hb
        go_upto_region 2 with (fail)
        refine wp_region_lit ?_
        refine ls_ex (some 8) (.int .i64 i) rfl rfl (exec_move _ rfl (.int .i64 i) rfl) ?_
        go_frame
        refine ls_ex (some 9) (.slice (some ⟨b, off, none⟩) xs.length cx) rfl rfl (exec_move _ rfl (.slice (some ⟨b, off, none⟩) xs.length cx) rfl) ?_
        go_frame
        refine ls_ex (some 10) (.int .i64 xs.length) rfl rfl (exec_len _ 22 2 rfl ((some ⟨b, off, none⟩)) xs.length cx rfl Try.underlying22) ?_
        go_frame
        refine ls_ex (some 11) (.bool true) rfl rfl (exec_lss _ _ _ _ rfl i xs.length rfl rfl true (decide_eq_true (by omega))) ?_
        go_frame
        refine wpList_nil ?_
        go_upto_region 4 with (fail)
        refine wp_region_lit ?_
        refine ls_ex (some 14) (.slice (some ⟨b, off, none⟩) xs.length cx) rfl rfl (exec_move _ rfl (.slice (some ⟨b, off, none⟩) xs.length cx) rfl) ?_
        go_frame
        refine ls_ex (some 15) (.int .i64 i) rfl rfl (exec_move _ rfl (.int .i64 i) rfl) ?_
        go_frame
        refine ls_ex (some 16) (.pointer (some ⟨b, off + i * 1, none⟩)) rfl rfl (exec_index_slice _ 2 _ _ rfl b off xs.length cx i 1 rfl rfl Try.underlying22 (by kernel_rfl) (by omega)) ?_
        go_frame
        refine ls_ex (some 17) (.int .i64 xs[i]) rfl rfl (exec_load_one 2 _ rfl b (off + i * 1) rfl (.int .i64 xs[i]) _ Try.underlying2 rfl (by rw [Nat.mul_one]; exact Hc.out)) ?_
        go_frame
        refine ls_ex (some 18) (.int .i64 p) rfl rfl (exec_move _ rfl (.int .i64 p) rfl) ?_
        go_frame
        refine ls_ex (some 19) (.int .i64 (p - 1)) rfl rfl (exec_sub _ _ _ _ rfl p 1 (p - 1) rfl rfl (IntWalk.i64_in _ (by omega))) ?_
        go_frame
        refine ls_op rfl (fun K' hK' => ?_)
        have lz6 := hB.size
        refine wp_call3 (some 20) rfl 26 _ _ _ _ rfl (fun args w => by kernel_rfl) _ _ _ rfl rfl rfl _ (l01In_c xs[i] 0 (p - 1) _) (fun e Wz4 h => ?_)
        obtain ⟨rfl, rfl⟩ := h
        rw [HIn.out]
        refine ⟨_, rfl, ?_⟩
        refine hK' _ _ ?_
        clear hK' K'
        go_frame
        refine ls_ex (some 21) (.bool false) rfl rfl (exec_not _ _ rfl true rfl) ?_
        go_frame
        refine wpList_nil ?_
        go_upto_region 3 with (fail)
        refine wp_region_lit ?_
        refine ls_ex (some 12) (.int .i64 i) rfl rfl (exec_move _ rfl (.int .i64 i) rfl) ?_
        go_frame
        refine ls_ex (some 13) (.int .i64 (i + 1)) rfl rfl (exec_add _ _ _ _ rfl i 1 (i + 1) rfl rfl (IntWalk.i64_in _ (by omega))) ?_
        go_frame
        refine ls_ex (some 7) (.int .i64 (i + 1)) rfl rfl (exec_assign _ rfl (.int .i64 (i + 1)) rfl) ?_
        go_frame
        refine wpList_nil ?_
        go_wp2_with fail
        go_roundw
        case rel => exact ⟨i + 1, by omega, by go_num, hB, HS⟩
        case measure => simp [intOf]; omega
    · have HY : Hid (numsB p xs = true) := Lib.hid (numsB_yes fun y hy => HA.out y hy (by omega))
      clear HA
      go_upto_region 2 with (fail)
      refine wp_region_lit ?_
      refine ls_ex (some 8) (.int .i64 i) rfl rfl (exec_move _ rfl (.int .i64 i) rfl) ?_
      go_frame
      refine ls_ex (some 9) (.slice Ax xs.length cx) rfl rfl (exec_move _ rfl (.slice Ax xs.length cx) rfl) ?_
      go_frame
      refine ls_ex (some 10) (.int .i64 xs.length) rfl rfl (exec_len _ 22 2 rfl Ax xs.length cx rfl Try.underlying22) ?_
      go_frame
      refine ls_ex (some 11) (.bool false) rfl rfl (exec_lss _ _ _ _ rfl i xs.length rfl rfl false (decide_eq_false (by omega))) ?_
      go_frame
      refine wpList_nil ?_
      go_upto_region 6 with (fail)
      refine wp_region_lit ?_
      refine ls_ex (some 22) (.slice Ax xs.length cx) rfl rfl (exec_move _ rfl (.slice Ax xs.length cx) rfl) ?_
      go_frame
      refine ls_ex (some 23) (.int .i64 xs.length) rfl rfl (exec_len _ 22 2 rfl Ax xs.length cx rfl Try.underlying22) ?_
      go_frame
      refine ls_ex (some 24) (.int .i64 n) rfl rfl (exec_move _ rfl (.int .i64 n) rfl) ?_
      go_frame
      refine ls_ex (some 25) (.bool ((xs.length : Int) == n)) rfl rfl (exec_eql _ _ _ _ rfl (xs.length : Int) n rfl rfl _ rfl) ?_
      go_frame
      refine ls_ex (some 6) (.bool ((xs.length : Int) == n)) rfl rfl (exec_assign _ rfl (.bool ((xs.length : Int) == n)) rfl) ?_
      go_frame
      refine wpList_nil ?_
      go_wp2_with fail
      go_ret
      exact ⟨by rw [HY.out]; rfl, hB⟩
theorem cell_iar {w : World} {g c : Nat} {xs : List Int} {V : Int} (h : At w g (.cells (iar xs) 2 (0, 0))) (hv : xs[c]? = some V) : w.cell? ⟨g, c * 1, none⟩ = some (.int .i64 V) := by
  rw [Nat.mul_one, h.at_]
  simp [iar, i64s, hv]
attribute [local irreducible] wpList
theorem OutV.put {w w' : World} {lo hi k g : Nat} {v : Value} {row : Nat → List Int} {o : Obj} (h : OutV w lo hi v k row) (hp : Put w w' g o) (hg : hi ≤ g) : OutV w' lo hi v k row := by
  obtain ⟨gs, caps, os, h⟩ := h
  have h0 := h.hi9
  refine ⟨gs, caps, os, ⟨h.own.1, ?_⟩, Nat.le_trans h0 (Nat.le_of_eq (hp.size rfl).symm), h.top, fun i hi' => ⟨hp.other (h.rowA i hi').1 (by have := (h.rowA i hi').2.2; omega), (h.rowA i hi').2⟩, h.nums⟩
  rcases h.own.2 with hn | ⟨g2, cap, cur, hv, hb, hgg, rest⟩
  · exact .inl hn
  · exact .inr ⟨g2, cap, cur, hv, hb, hp.other (k := g2) hgg (by have := h.top g2 (by rw [hv]; rfl); omega), rest⟩
theorem l05NumbersL_c (p n : Int) (A : Option Addr) (c : Nat) (xs : List Int) (w : World) (hp : -1000 ≤ p ∧ p ≤ 1000) (hx : RdI w A xs) (hnx : xs.length ≤ 1048576) :
    Calls Try.prog 36 #[.int .i64 p, .slice A xs.length c, .int .i64 n] w fun e w' => e = .returned (.bool (listB p n xs)) ∧ Below w.heap.size w w' := by
  have h := l05Numbers_c p n A c xs w hp hx hnx
  rwa [show (numsB p xs && ((xs.length : Int) == n)) = listB p n xs by simp [listB, Bool.and_comm]; first | rfl | (rw [Bool.eq_iff_iff]; simp)] at h
theorem l05NumbersM_c (p : Int) (d : Nat) (A : Option Addr) (c : Nat) (xs : List Int) (w : World) (hp : -1000 ≤ p ∧ p ≤ 1000) (hr : RdI w A xs) (hd : xs.length = d) (hn : d ≤ 1048576) :
    Calls Try.prog 36 #[.int .i64 p, .slice A d c, .int .i64 d] w fun e w' => e = .returned (.bool (listB p d xs)) ∧ Below w.heap.size w w' := by
  subst hd
  exact l05NumbersL_c p xs.length A c xs w hp hr hn
theorem iar_at {xs : List Int} {t : Nat} {X : Int} (h : xs[t]? = some X) : (iar xs)[t]? = some (.int .i64 X) := by
  simp [iar, i64s, h]
/-- A row half made: the numbers below k done, that at k over i numbers. -/
def ctP (p : Int) (ns xs : List Int) (a b d j k i : Nat) : List Int := (List.range d).map fun k' => if k' < k then ctS ns xs b d j k' a % p else if k' = k then ctS ns xs b d j k i % p else 0
theorem ctP_len (p : Int) (ns xs : List Int) (a b d j k i : Nat) : (ctP p ns xs a b d j k i).length = d := by simp [ctP]
theorem ctP_at {p : Int} {ns xs : List Int} {a b d j k i : Nat} (hk : k < d) : (ctP p ns xs a b d j k i)[k]? = some (ctS ns xs b d j k i % p) := by simp [ctP, hk]
theorem ctP_zero (p : Int) (ns xs : List Int) (a b d j : Nat) : ctP p ns xs a b d j 0 0 = List.replicate d 0 := by
  unfold ctP
  apply List.ext_getElem
  · simp
  · intro t h1 h2
    by_cases e : t = 0 <;> simp [e, ctS]
theorem ctP_next {p : Int} {ns xs : List Int} {a b d j k : Nat} : ctP p ns xs a b d j k a = ctP p ns xs a b d j (k + 1) 0 := by
  unfold ctP
  apply List.map_congr_left
  intro t _
  rcases Nat.lt_trichotomy t k with h | h | h
  · simp [h, show t < k + 1 by omega]
  · subst h
    simp
  · by_cases e : t = k + 1
    · subst e
      simp [ctS, show ¬ k + 1 < k by omega]
    · simp [show ¬ t < k by omega, show ¬ t = k by omega, show ¬ t < k + 1 by omega, e]
theorem ctP_all {p : Int} {ns xs : List Int} {a b d j : Nat} : ctP p ns xs a b d j d 0 = ctR p ns xs a b d j := by
  unfold ctP ctR
  apply List.map_congr_left
  intro t ht
  simp [List.mem_range.1 ht]
theorem ctP_set {p : Int} {ns xs : List Int} {a b d j k i : Nat} {R : Int} (hR : ctS ns xs b d j k (i + 1) % p = R) : (ctP p ns xs a b d j k i).set k R = ctP p ns xs a b d j k (i + 1) := by
  apply List.ext_getElem
  · simp [ctP]
  · intro t h1 h2
    rw [List.getElem_set]
    by_cases e : k = t
    · subst e
      simp [ctP, hR]
    · simp only [if_neg e, ctP, List.getElem_map, List.getElem_range]
      rw [if_neg (show ¬ t = k from fun h => e h.symm), if_neg (show ¬ t = k from fun h => e h.symm)]
theorem ct_nats {p a b d : Int} {xs : List Int} (h : tenB p a b d xs = true) : 0 < xs.length := by
  obtain ⟨a, b, d, rfl, rfl, rfl⟩ := ten_natsT h
  have h0 := (ten_parts h).2
  rw [h0.2.2.2.1]
  exact Nat.mul_pos (Nat.mul_pos (by omega) (by omega)) (by omega)
theorem alCu_impl_Tensor {o : Oper} {a : Act} {w : World} (ho : o.op = .alloc 29) : (execOp a.eval o).run Try.prog w = .ok (.value (.pointer (some ⟨w.heap.size, 0, none⟩))) (w.alloc (.cells #[.int .i64 0, .int .i64 0, .int .i64 0, .int .i64 0, .slice none 0 0] 29 (0, 0))) := by
  unfold execOp
  rw [ho]
  kernel_rfl
set_option maxHeartbeats 4000000 in
theorem specCt_a (p a b d S : Int) (A : Option Addr) (c : Nat) (xs : List Int) (AL : Option Addr) (cL : Nat) (ls : List Int) (w : World) (hX : RdI w A xs) (hlen : xs.length ≤ 1048576) (hs : tenB p a b d xs = false) :
    Calls Try.prog 15 #[.agg #[.int .i64 p, .int .i64 a, .int .i64 b, .int .i64 d, .slice A xs.length c], .int .i64 S, .slice AL ls.length cL] w (ResV w (cnN p a b d S ls xs) (cnF p a b d S ls xs) (cnCode p a b d S ls xs)) := by
  have hB := Below.refl w.heap.size w
  have HN : Hid (cnN p a b d S ls xs = 0) := Lib.hid (by unfold cnN ctOK; rw [hs]; rfl)
  have HC : Hid (cnCode p a b d S ls xs = 1) := Lib.hid (by unfold cnCode; rw [hs]; rfl)
  have Hs := Lib.hid hs
  clear hs
  go_enter Try.func15, Try.ntmps15
  go_upto_region 0 with (fail)
  refine wp_region_lit ?_
  refine ls_op rfl (fun K' hK' => ?_)
  have lz1 := hB.size
  refine wp_new (some 3) rfl (exec_box 29 _ rfl (#[.int .i64 p, .int .i64 a, .int .i64 b, .int .i64 d, .slice A xs.length c]) rfl) (fun Wz2 nnz3 => ?_)
  have bz4 := nnz3.below (Below.refl _ _) (Nat.le_refl _)
  replace hB := below_after hB bz4
  have hz5 : At Wz2 w.heap.size (.cells #[.int .i64 p, .int .i64 a, .int .i64 b, .int .i64 d, .slice A xs.length c] 29 (0, 0)) := nnz3.at_
  refine hK' _ _ ?_
  clear hK' K' nnz3 bz4
  go_frame
  refine ls_ex (some 6) (.slice none 0 0) rfl rfl (exec_assign _ rfl (.slice none 0 0) rfl) ?_
  go_frame
  refine ls_ex (some 7) (.int .i64 0) rfl rfl (exec_assign _ rfl (.int .i64 0) rfl) ?_
  go_frame
  refine wpList_nil ?_
  go_upto_region 1 with (fail)
  refine wp_region_lit ?_
  refine ls_ex (some 15) (.agg #[.int .i64 p, .int .i64 a, .int .i64 b, .int .i64 d, .slice A xs.length c]) rfl rfl (exec_load_all 29 _ rfl w.heap.size rfl _ _ _ hz5 Try.underlying29 rfl 5 (by kernel_rfl) rfl) ?_
  go_frame
  refine ls_op rfl (fun K' hK' => ?_)
  have lz8 := hB.size
  have lz9 := hz5.lt
  refine wp_call1 (some 16) rfl 25 _ _ rfl (fun args w => by kernel_rfl) _ rfl _ (l05Is_c p a b d A c xs _ (hX.keep hB) (by omega)) (fun e Wz6 h => ?_)
  obtain ⟨rfl, bz7⟩ := h
  replace hB := below_after hB bz7
  replace hz5 := hz5.after bz7
  rw [Hs.out]
  clear bz7
  refine ⟨_, rfl, ?_⟩
  refine hK' _ _ ?_
  clear hK' K'
  go_frame
  refine ls_ex (some 17) (.bool true) rfl rfl (exec_not _ _ rfl false rfl) ?_
  go_frame
  refine ls_ex (some 14) (.bool true) rfl rfl (exec_assign _ rfl (.bool true) rfl) ?_
  go_frame
  refine wpList_nil ?_
  go_upto_region 2 with (fail)
  refine wp_region_lit ?_
  refine ls_ex (some 6) (.slice none 0 0) rfl rfl (exec_assign _ rfl (.slice none 0 0) rfl) ?_
  go_frame
  refine ls_ex (some 7) (.int .i64 1) rfl rfl (exec_assign _ rfl (.int .i64 1) rfl) ?_
  go_frame
  refine wpList_nil ?_
  go_wp2_with fail
  go_ret2
  exact ⟨_, by rw [HC.out]; rfl, by rw [HN.out]; exact OwnV.nil _ _ _ _, hB⟩
set_option maxHeartbeats 4000000 in
theorem specCt_b (p a b d S : Int) (A : Option Addr) (c : Nat) (xs : List Int) (AL : Option Addr) (cL : Nat) (ls : List Int) (w : World) (hX : RdI w A xs) (hlen : xs.length ≤ 1048576) (hs : tenB p a b d xs = true) (hS : inB S 3 = false) :
    Calls Try.prog 15 #[.agg #[.int .i64 p, .int .i64 a, .int .i64 b, .int .i64 d, .slice A xs.length c], .int .i64 S, .slice AL ls.length cL] w (ResV w (cnN p a b d S ls xs) (cnF p a b d S ls xs) (cnCode p a b d S ls xs)) := by
  have hB := Below.refl w.heap.size w
  have h0 : ctOK p a b d S ls xs = false := by unfold ctOK; rw [hS, Bool.false_and, Bool.and_false]
  have HN : Hid (cnN p a b d S ls xs = 0) := Lib.hid (by unfold cnN; rw [h0]; rfl)
  have HC : Hid (cnCode p a b d S ls xs = 2) := Lib.hid (by unfold cnCode; rw [hs, h0]; rfl)
  have Hs := Lib.hid hs
  have HS3 := Lib.hid hS
  clear hs hS h0
  go_enter Try.func15, Try.ntmps15
  go_upto_region 0 with (fail)
  refine wp_region_lit ?_
  refine ls_op rfl (fun K' hK' => ?_)
  have lz1 := hB.size
  refine wp_new (some 3) rfl (exec_box 29 _ rfl (#[.int .i64 p, .int .i64 a, .int .i64 b, .int .i64 d, .slice A xs.length c]) rfl) (fun Wz2 nnz3 => ?_)
  have bz4 := nnz3.below (Below.refl _ _) (Nat.le_refl _)
  replace hB := below_after hB bz4
  have hz5 : At Wz2 w.heap.size (.cells #[.int .i64 p, .int .i64 a, .int .i64 b, .int .i64 d, .slice A xs.length c] 29 (0, 0)) := nnz3.at_
  refine hK' _ _ ?_
  clear hK' K' nnz3 bz4
  go_frame
  refine ls_ex (some 6) (.slice none 0 0) rfl rfl (exec_assign _ rfl (.slice none 0 0) rfl) ?_
  go_frame
  refine ls_ex (some 7) (.int .i64 0) rfl rfl (exec_assign _ rfl (.int .i64 0) rfl) ?_
  go_frame
  refine wpList_nil ?_
  go_upto_region 1 with (fail)
  refine wp_region_lit ?_
  refine ls_ex (some 15) (.agg #[.int .i64 p, .int .i64 a, .int .i64 b, .int .i64 d, .slice A xs.length c]) rfl rfl (exec_load_all 29 _ rfl w.heap.size rfl _ _ _ hz5 Try.underlying29 rfl 5 (by kernel_rfl) rfl) ?_
  go_frame
  refine ls_op rfl (fun K' hK' => ?_)
  have lz8 := hB.size
  have lz9 := hz5.lt
  refine wp_call1 (some 16) rfl 25 _ _ rfl (fun args w => by kernel_rfl) _ rfl _ (l05Is_c p a b d A c xs _ (hX.keep hB) (by omega)) (fun e Wz6 h => ?_)
  obtain ⟨rfl, bz7⟩ := h
  replace hB := below_after hB bz7
  replace hz5 := hz5.after bz7
  rw [Hs.out]
  clear bz7
  refine ⟨_, rfl, ?_⟩
  refine hK' _ _ ?_
  clear hK' K'
  go_frame
  refine ls_ex (some 17) (.bool false) rfl rfl (exec_not _ _ rfl true rfl) ?_
  go_frame
  refine ls_ex (some 14) (.bool false) rfl rfl (exec_assign _ rfl (.bool false) rfl) ?_
  go_frame
  refine wpList_nil ?_
  go_upto_region 3 with (fail)
  refine wp_region_y (zs := []) (S := fun w' => Below w.heap.size w w') (S2 := fun w' => True) (by kernel_rfl) ?_
  change wpAnyY _ _ _ _ _ _ _ _ _ _ (World.drew _)
  generalize hwdz10 : World.drew _ = wdz10
  replace hB : Below w.heap.size w wdz10 := by rw [← hwdz10]; exact hB.drew
  replace hz5 : At wdz10 w.heap.size (.cells #[.int .i64 p, .int .i64 a, .int .i64 b, .int .i64 d, .slice A xs.length c] 29 (0, 0)) := by rw [← hwdz10]; exact hz5
  clear hwdz10
  refine y_yield 0 (some 19) (.int .i64 S) rfl (by kernel_rfl) (by kernel_rfl) (by kernel_rfl) (fun _ _ _ h => h) rfl rfl hB (fun w' h' => exec_move _ rfl (.int .i64 S) rfl) ?_
  go_frame
  refine y_oper 1 (by kernel_rfl) rfl rfl (fun K' hK' => ?_)
  have lz13 := hB.size
  have lz14 := hz5.lt
  refine wp_call3 (some 20) rfl 26 _ _ _ _ rfl (fun args w => by kernel_rfl) _ _ _ rfl rfl rfl _ (l01In_idx S 3 2 rfl _) (fun e Wz11 h => ?_)
  obtain ⟨rfl, rfl⟩ := h
  rw [HS3.out]
  refine ⟨_, rfl, ?_⟩
  refine hK' _ _ hB (fun _ => trivial) ?_
  clear hK' K'
  go_frame
  refine y_yield 2 (some 21) (.bool true) rfl (by kernel_rfl) (by kernel_rfl) (by kernel_rfl) (fun _ _ _ h => h) rfl rfl hB (fun w' h' => exec_not _ _ rfl false rfl) ?_
  go_frame
  refine y_yield 3 (some 22) (.bool true) rfl (by kernel_rfl) (by kernel_rfl) (by kernel_rfl) (fun _ _ _ h => h) rfl rfl hB (fun w' h' => exec_move _ rfl (.bool true) rfl) ?_
  go_frame
  refine y_skip 4 (some 23) rfl (by kernel_rfl) (by kernel_rfl) (by kernel_rfl) (fun _ _ _ h => h) rfl rfl hB ?_
  go_frame
  refine y_skip 5 (some 24) rfl (by kernel_rfl) (by kernel_rfl) (by kernel_rfl) (fun _ _ _ h => h) rfl rfl hB ?_
  go_frame
  refine y_skip 6 (some 25) rfl (by kernel_rfl) (by kernel_rfl) (by kernel_rfl) (fun _ _ _ h => h) rfl rfl hB ?_
  go_frame
  refine y_skip 7 (some 26) rfl (by kernel_rfl) (by kernel_rfl) (by kernel_rfl) (fun _ _ _ h => h) rfl rfl hB ?_
  go_frame
  refine y_skip 8 (some 27) rfl (by kernel_rfl) (by kernel_rfl) (by kernel_rfl) (fun _ _ _ h => h) rfl rfl hB ?_
  go_frame
  refine y_pass 9 (some 28) (by kernel_rfl) rfl rfl rfl hB ?_
  go_frame
  refine y_pass 10 (some 29) (by kernel_rfl) rfl rfl rfl hB ?_
  go_frame
  refine y_skip 11 (some 30) rfl (by kernel_rfl) (by kernel_rfl) (by kernel_rfl) (fun _ _ _ h => h) rfl rfl hB ?_
  go_frame
  refine y_yield 12 (some 31) (.bool true) rfl (by kernel_rfl) (by kernel_rfl) (by kernel_rfl) (fun _ _ _ h => h) rfl rfl hB (fun w' h' => exec_pick _ _ _ rfl true rfl (.bool true) rfl) ?_
  go_frame
  refine y_oper 13 (by kernel_rfl) rfl rfl (fun K' hK' => ?_)
  refine wp_exec (some 18) rfl (.bool true) (exec_assign _ rfl (.bool true) rfl) ?_
  refine hK' _ _ hB (fun _ => trivial) ?_
  clear hK' K'
  go_frame
  refine y_done (by kernel_rfl) ?_ _
  go_upto_region 4 with (fail)
  refine wp_region_lit ?_
  refine ls_ex (some 6) (.slice none 0 0) rfl rfl (exec_assign _ rfl (.slice none 0 0) rfl) ?_
  go_frame
  refine ls_ex (some 7) (.int .i64 2) rfl rfl (exec_assign _ rfl (.int .i64 2) rfl) ?_
  go_frame
  refine wpList_nil ?_
  go_wp2_with fail
  go_ret2
  exact ⟨_, by rw [HC.out]; rfl, by rw [HN.out]; exact OwnV.nil _ _ _ _, hB⟩
set_option maxHeartbeats 4000000 in
theorem specCt_n0 (p : Int) (a b d : Nat) (bB oB c0 N : Nat) (xs : List Int) (AL : Option Addr) (cL : Nat) (ls : List Int) (w : World) (hX : RdI w (some ⟨bB, oB, none⟩) xs) (hxl : xs.length = N) (hs : tenB p a b d xs = true) (hN : RdI w AL ls) (hln : ls.length ≤ 1048576) (hT : listB p a ls = false) :
    Calls Try.prog 15 #[.agg #[.int .i64 p, .int .i64 a, .int .i64 b, .int .i64 d, .slice (some ⟨bB, oB, none⟩) N c0], .int .i64 0, .slice AL ls.length cL] w (ResV w (cnN p a b d 0 ls xs) (cnF p a b d 0 ls xs) (cnCode p a b d 0 ls xs)) := by
  have hB := Below.refl w.heap.size w
  have h0 : ctOK p a b d 0 ls xs = false := by unfold ctOK; simp [hT]
  have HN : Hid (cnN p a b d 0 ls xs = 0) := Lib.hid (by unfold cnN; rw [h0]; rfl)
  have HC : Hid (cnCode p a b d 0 ls xs = 2) := Lib.hid (by unfold cnCode; rw [hs, h0]; rfl)
  have HS3 : Hid (inB 0 3 = true) := Lib.hid rfl
  have HT3 := Lib.hid hT
  have Hs := Lib.hid hs
  have HXl := Lib.hid hxl
  have hpp := prime_le5 (ten_parts hs).1
  have hdm := (ten_parts hs).2
  have ha0 := hdm.1
  have hb0 := hdm.2.1
  have hd0 := hdm.2.2.1
  have hNb : N ≤ 729 := by rw [← hxl, hdm.2.2.2.1]; exact Nat.le_trans (Nat.mul_le_mul (Nat.mul_le_mul hdm.1.2 hdm.2.1.2) hdm.2.2.1.2) (by decide)
  clear hs hxl hdm hT h0
  go_enter Try.func15, Try.ntmps15
  go_upto_region 0 with (fail)
  refine wp_region_lit ?_
  refine ls_op rfl (fun K' hK' => ?_)
  have lz1 := hB.size
  refine wp_new (some 3) rfl (exec_box 29 _ rfl (#[.int .i64 p, .int .i64 a, .int .i64 b, .int .i64 d, .slice (some ⟨bB, oB, none⟩) N c0]) rfl) (fun Wz2 nnz3 => ?_)
  have bz4 := nnz3.below (Below.refl _ _) (Nat.le_refl _)
  replace hB := below_after hB bz4
  have hz5 : At Wz2 w.heap.size (.cells #[.int .i64 p, .int .i64 a, .int .i64 b, .int .i64 d, .slice (some ⟨bB, oB, none⟩) N c0] 29 (0, 0)) := nnz3.at_
  refine hK' _ _ ?_
  clear hK' K' nnz3 bz4
  go_frame
  refine ls_ex (some 6) (.slice none 0 0) rfl rfl (exec_assign _ rfl (.slice none 0 0) rfl) ?_
  go_frame
  refine ls_ex (some 7) (.int .i64 0) rfl rfl (exec_assign _ rfl (.int .i64 0) rfl) ?_
  go_frame
  refine wpList_nil ?_
  go_upto_region 1 with (fail)
  refine wp_region_lit ?_
  refine ls_ex (some 15) (.agg #[.int .i64 p, .int .i64 a, .int .i64 b, .int .i64 d, .slice (some ⟨bB, oB, none⟩) N c0]) rfl rfl (exec_load_all 29 _ rfl w.heap.size rfl _ _ _ hz5 Try.underlying29 rfl 5 (by kernel_rfl) rfl) ?_
  go_frame
  refine ls_op rfl (fun K' hK' => ?_)
  have lz8 := hB.size
  have lz9 := hz5.lt
  refine wp_call1 (some 16) rfl 25 _ _ rfl (fun args w => by kernel_rfl) _ rfl _ (l05IsN_c p a b d (some ⟨bB, oB, none⟩) N c0 xs _ HXl.out (hX.keep hB) (by omega)) (fun e Wz6 h => ?_)
  obtain ⟨rfl, bz7⟩ := h
  replace hB := below_after hB bz7
  replace hz5 := hz5.after bz7
  rw [Hs.out]
  clear bz7
  refine ⟨_, rfl, ?_⟩
  refine hK' _ _ ?_
  clear hK' K'
  go_frame
  refine ls_ex (some 17) (.bool false) rfl rfl (exec_not _ _ rfl true rfl) ?_
  go_frame
  refine ls_ex (some 14) (.bool false) rfl rfl (exec_assign _ rfl (.bool false) rfl) ?_
  go_frame
  refine wpList_nil ?_
  go_upto_region 3 with (fail)
  refine wp_region_y (zs := []) (S := fun w' => Below w.heap.size w w' ∧ At w' w.heap.size (.cells #[.int .i64 p, .int .i64 a, .int .i64 b, .int .i64 d, .slice (some ⟨bB, oB, none⟩) N c0] 29 (0, 0))) (S2 := fun w' => True) (by kernel_rfl) ?_
  change wpAnyY _ _ _ _ _ _ _ _ _ _ (World.drew _)
  generalize hwdz10 : World.drew _ = wdz10
  replace hB : Below w.heap.size w wdz10 := by rw [← hwdz10]; exact hB.drew
  replace hz5 : At wdz10 w.heap.size (.cells #[.int .i64 p, .int .i64 a, .int .i64 b, .int .i64 d, .slice (some ⟨bB, oB, none⟩) N c0] 29 (0, 0)) := by rw [← hwdz10]; exact hz5
  clear hwdz10
  refine y_yield 0 (some 19) (.int .i64 0) rfl (by kernel_rfl) (by kernel_rfl) (by kernel_rfl) (fun _ _ _ h => h) rfl rfl ⟨hB, hz5⟩ (fun w' h' => exec_move _ rfl (.int .i64 0) rfl) ?_
  go_frame
  refine y_oper 1 (by kernel_rfl) rfl rfl (fun K' hK' => ?_)
  have lz13 := hB.size
  have lz14 := hz5.lt
  refine wp_call3 (some 20) rfl 26 _ _ _ _ rfl (fun args w => by kernel_rfl) _ _ _ rfl rfl rfl _ (l01In_idx 0 3 2 rfl _) (fun e Wz11 h => ?_)
  obtain ⟨rfl, rfl⟩ := h
  rw [HS3.out]
  refine ⟨_, rfl, ?_⟩
  refine hK' _ _ ⟨hB, hz5⟩ (fun _ => trivial) ?_
  clear hK' K'
  go_frame
  refine y_yield 2 (some 21) (.bool false) rfl (by kernel_rfl) (by kernel_rfl) (by kernel_rfl) (fun _ _ _ h => h) rfl rfl ⟨hB, hz5⟩ (fun w' h' => exec_not _ _ rfl true rfl) ?_
  go_frame
  refine y_yield 3 (some 22) (.bool false) rfl (by kernel_rfl) (by kernel_rfl) (by kernel_rfl) (fun _ _ _ h => h) rfl rfl ⟨hB, hz5⟩ (fun w' h' => exec_move _ rfl (.bool false) rfl) ?_
  go_frame
  refine y_yield 4 (some 23) (.pointer (some ⟨w.heap.size, 0, none⟩)) rfl (by kernel_rfl) (by kernel_rfl) (by kernel_rfl) (fun _ _ _ h => h) rfl rfl ⟨hB, hz5⟩ (fun w' h' => exec_fieldAddr 29 _ 0 rfl _ (by kernel_rfl)) ?_
  go_frame
  refine y_yield 5 (some 24) (.int .i64 p) rfl (by kernel_rfl) (by kernel_rfl) (by kernel_rfl) (fun _ _ _ h => h) rfl rfl ⟨hB, hz5⟩ (fun w' h' => exec_load_one 2 _ rfl w.heap.size 0 rfl (.int .i64 p) _ Try.underlying2 rfl (h'.2.at_ 0)) ?_
  go_frame
  refine y_yield 6 (some 25) (.slice AL ls.length cL) rfl (by kernel_rfl) (by kernel_rfl) (by kernel_rfl) (fun _ _ _ h => h) rfl rfl ⟨hB, hz5⟩ (fun w' h' => exec_move _ rfl (.slice AL ls.length cL) rfl) ?_
  go_frame
  refine y_yield 7 (some 26) (.agg #[.int .i64 p, .int .i64 a, .int .i64 b, .int .i64 d, .slice (some ⟨bB, oB, none⟩) N c0]) rfl (by kernel_rfl) (by kernel_rfl) (by kernel_rfl) (fun _ _ _ h => h) rfl rfl ⟨hB, hz5⟩ (fun w' h' => exec_load_all 29 _ rfl w.heap.size rfl _ _ _ h'.2 Try.underlying29 rfl 5 (by kernel_rfl) rfl) ?_
  go_frame
  refine y_yield 8 (some 27) (.int .i64 0) rfl (by kernel_rfl) (by kernel_rfl) (by kernel_rfl) (fun _ _ _ h => h) rfl rfl ⟨hB, hz5⟩ (fun w' h' => exec_move _ rfl (.int .i64 0) rfl) ?_
  go_frame
  refine y_oper 9 (by kernel_rfl) rfl rfl (fun K' hK' => ?_)
  have lz17 := hB.size
  have lz18 := hz5.lt
  refine wp_call2 (some 28) rfl 27 _ _ _ rfl (fun args w => by kernel_rfl) _ _ rfl rfl _ (l05Side0_c p a b d _ _) (fun e Wz15 h => ?_)
  obtain ⟨rfl, bz16⟩ := h
  replace hB := below_after hB bz16
  replace hz5 := hz5.after bz16
  clear bz16
  refine ⟨_, rfl, ?_⟩
  refine hK' _ _ ⟨hB, hz5⟩ (fun _ => trivial) ?_
  clear hK' K'
  go_frame
  refine y_oper 10 (by kernel_rfl) rfl rfl (fun K' hK' => ?_)
  have lz21 := hB.size
  have lz22 := hz5.lt
  refine wp_call3 (some 29) rfl 36 _ _ _ _ rfl (fun args w => by kernel_rfl) _ _ _ rfl rfl rfl _ (l05NumbersL_c p a AL cL ls _ (by omega) (hN.keep hB) (by omega)) (fun e Wz19 h => ?_)
  obtain ⟨rfl, bz20⟩ := h
  replace hB := below_after hB bz20
  replace hz5 := hz5.after bz20
  rw [HT3.out]
  clear bz20
  refine ⟨_, rfl, ?_⟩
  refine hK' _ _ ⟨hB, hz5⟩ (fun _ => trivial) ?_
  clear hK' K'
  go_frame
  refine y_yield 11 (some 30) (.bool true) rfl (by kernel_rfl) (by kernel_rfl) (by kernel_rfl) (fun _ _ _ h => h) rfl rfl ⟨hB, hz5⟩ (fun w' h' => exec_not _ _ rfl false rfl) ?_
  go_frame
  refine y_yield 12 (some 31) (.bool true) rfl (by kernel_rfl) (by kernel_rfl) (by kernel_rfl) (fun _ _ _ h => h) rfl rfl ⟨hB, hz5⟩ (fun w' h' => exec_pick _ _ _ rfl false rfl (.bool true) rfl) ?_
  go_frame
  refine y_oper 13 (by kernel_rfl) rfl rfl (fun K' hK' => ?_)
  refine wp_exec (some 18) rfl (.bool true) (exec_assign _ rfl (.bool true) rfl) ?_
  refine hK' _ _ ⟨hB, hz5⟩ (fun _ => trivial) ?_
  clear hK' K'
  go_frame
  refine y_done (by kernel_rfl) ?_ _
  go_upto_region 4 with (fail)
  refine wp_region_lit ?_
  refine ls_ex (some 6) (.slice none 0 0) rfl rfl (exec_assign _ rfl (.slice none 0 0) rfl) ?_
  go_frame
  refine ls_ex (some 7) (.int .i64 2) rfl rfl (exec_assign _ rfl (.int .i64 2) rfl) ?_
  go_frame
  refine wpList_nil ?_
  go_wp2_with fail
  go_ret2
  exact ⟨_, by rw [HC.out]; rfl, by rw [HN.out]; exact OwnV.nil _ _ _ _, hB⟩
set_option maxHeartbeats 4000000 in
theorem specCt_n1 (p : Int) (a b d : Nat) (bB oB c0 N : Nat) (xs : List Int) (AL : Option Addr) (cL : Nat) (ls : List Int) (w : World) (hX : RdI w (some ⟨bB, oB, none⟩) xs) (hxl : xs.length = N) (hs : tenB p a b d xs = true) (hN : RdI w AL ls) (hln : ls.length ≤ 1048576) (hT : listB p b ls = false) :
    Calls Try.prog 15 #[.agg #[.int .i64 p, .int .i64 a, .int .i64 b, .int .i64 d, .slice (some ⟨bB, oB, none⟩) N c0], .int .i64 1, .slice AL ls.length cL] w (ResV w (cnN p a b d 1 ls xs) (cnF p a b d 1 ls xs) (cnCode p a b d 1 ls xs)) := by
  have hB := Below.refl w.heap.size w
  have h0 : ctOK p a b d 1 ls xs = false := by unfold ctOK; simp [hT]
  have HN : Hid (cnN p a b d 1 ls xs = 0) := Lib.hid (by unfold cnN; rw [h0]; rfl)
  have HC : Hid (cnCode p a b d 1 ls xs = 2) := Lib.hid (by unfold cnCode; rw [hs, h0]; rfl)
  have HS3 : Hid (inB 1 3 = true) := Lib.hid rfl
  have HT3 := Lib.hid hT
  have Hs := Lib.hid hs
  have HXl := Lib.hid hxl
  have hpp := prime_le5 (ten_parts hs).1
  have hdm := (ten_parts hs).2
  have ha0 := hdm.1
  have hb0 := hdm.2.1
  have hd0 := hdm.2.2.1
  have hNb : N ≤ 729 := by rw [← hxl, hdm.2.2.2.1]; exact Nat.le_trans (Nat.mul_le_mul (Nat.mul_le_mul hdm.1.2 hdm.2.1.2) hdm.2.2.1.2) (by decide)
  clear hs hxl hdm hT h0
  go_enter Try.func15, Try.ntmps15
  go_upto_region 0 with (fail)
  refine wp_region_lit ?_
  refine ls_op rfl (fun K' hK' => ?_)
  have lz1 := hB.size
  refine wp_new (some 3) rfl (exec_box 29 _ rfl (#[.int .i64 p, .int .i64 a, .int .i64 b, .int .i64 d, .slice (some ⟨bB, oB, none⟩) N c0]) rfl) (fun Wz2 nnz3 => ?_)
  have bz4 := nnz3.below (Below.refl _ _) (Nat.le_refl _)
  replace hB := below_after hB bz4
  have hz5 : At Wz2 w.heap.size (.cells #[.int .i64 p, .int .i64 a, .int .i64 b, .int .i64 d, .slice (some ⟨bB, oB, none⟩) N c0] 29 (0, 0)) := nnz3.at_
  refine hK' _ _ ?_
  clear hK' K' nnz3 bz4
  go_frame
  refine ls_ex (some 6) (.slice none 0 0) rfl rfl (exec_assign _ rfl (.slice none 0 0) rfl) ?_
  go_frame
  refine ls_ex (some 7) (.int .i64 0) rfl rfl (exec_assign _ rfl (.int .i64 0) rfl) ?_
  go_frame
  refine wpList_nil ?_
  go_upto_region 1 with (fail)
  refine wp_region_lit ?_
  refine ls_ex (some 15) (.agg #[.int .i64 p, .int .i64 a, .int .i64 b, .int .i64 d, .slice (some ⟨bB, oB, none⟩) N c0]) rfl rfl (exec_load_all 29 _ rfl w.heap.size rfl _ _ _ hz5 Try.underlying29 rfl 5 (by kernel_rfl) rfl) ?_
  go_frame
  refine ls_op rfl (fun K' hK' => ?_)
  have lz8 := hB.size
  have lz9 := hz5.lt
  refine wp_call1 (some 16) rfl 25 _ _ rfl (fun args w => by kernel_rfl) _ rfl _ (l05IsN_c p a b d (some ⟨bB, oB, none⟩) N c0 xs _ HXl.out (hX.keep hB) (by omega)) (fun e Wz6 h => ?_)
  obtain ⟨rfl, bz7⟩ := h
  replace hB := below_after hB bz7
  replace hz5 := hz5.after bz7
  rw [Hs.out]
  clear bz7
  refine ⟨_, rfl, ?_⟩
  refine hK' _ _ ?_
  clear hK' K'
  go_frame
  refine ls_ex (some 17) (.bool false) rfl rfl (exec_not _ _ rfl true rfl) ?_
  go_frame
  refine ls_ex (some 14) (.bool false) rfl rfl (exec_assign _ rfl (.bool false) rfl) ?_
  go_frame
  refine wpList_nil ?_
  go_upto_region 3 with (fail)
  refine wp_region_y (zs := []) (S := fun w' => Below w.heap.size w w' ∧ At w' w.heap.size (.cells #[.int .i64 p, .int .i64 a, .int .i64 b, .int .i64 d, .slice (some ⟨bB, oB, none⟩) N c0] 29 (0, 0))) (S2 := fun w' => True) (by kernel_rfl) ?_
  change wpAnyY _ _ _ _ _ _ _ _ _ _ (World.drew _)
  generalize hwdz10 : World.drew _ = wdz10
  replace hB : Below w.heap.size w wdz10 := by rw [← hwdz10]; exact hB.drew
  replace hz5 : At wdz10 w.heap.size (.cells #[.int .i64 p, .int .i64 a, .int .i64 b, .int .i64 d, .slice (some ⟨bB, oB, none⟩) N c0] 29 (0, 0)) := by rw [← hwdz10]; exact hz5
  clear hwdz10
  refine y_yield 0 (some 19) (.int .i64 1) rfl (by kernel_rfl) (by kernel_rfl) (by kernel_rfl) (fun _ _ _ h => h) rfl rfl ⟨hB, hz5⟩ (fun w' h' => exec_move _ rfl (.int .i64 1) rfl) ?_
  go_frame
  refine y_oper 1 (by kernel_rfl) rfl rfl (fun K' hK' => ?_)
  have lz13 := hB.size
  have lz14 := hz5.lt
  refine wp_call3 (some 20) rfl 26 _ _ _ _ rfl (fun args w => by kernel_rfl) _ _ _ rfl rfl rfl _ (l01In_idx 1 3 2 rfl _) (fun e Wz11 h => ?_)
  obtain ⟨rfl, rfl⟩ := h
  rw [HS3.out]
  refine ⟨_, rfl, ?_⟩
  refine hK' _ _ ⟨hB, hz5⟩ (fun _ => trivial) ?_
  clear hK' K'
  go_frame
  refine y_yield 2 (some 21) (.bool false) rfl (by kernel_rfl) (by kernel_rfl) (by kernel_rfl) (fun _ _ _ h => h) rfl rfl ⟨hB, hz5⟩ (fun w' h' => exec_not _ _ rfl true rfl) ?_
  go_frame
  refine y_yield 3 (some 22) (.bool false) rfl (by kernel_rfl) (by kernel_rfl) (by kernel_rfl) (fun _ _ _ h => h) rfl rfl ⟨hB, hz5⟩ (fun w' h' => exec_move _ rfl (.bool false) rfl) ?_
  go_frame
  refine y_yield 4 (some 23) (.pointer (some ⟨w.heap.size, 0, none⟩)) rfl (by kernel_rfl) (by kernel_rfl) (by kernel_rfl) (fun _ _ _ h => h) rfl rfl ⟨hB, hz5⟩ (fun w' h' => exec_fieldAddr 29 _ 0 rfl _ (by kernel_rfl)) ?_
  go_frame
  refine y_yield 5 (some 24) (.int .i64 p) rfl (by kernel_rfl) (by kernel_rfl) (by kernel_rfl) (fun _ _ _ h => h) rfl rfl ⟨hB, hz5⟩ (fun w' h' => exec_load_one 2 _ rfl w.heap.size 0 rfl (.int .i64 p) _ Try.underlying2 rfl (h'.2.at_ 0)) ?_
  go_frame
  refine y_yield 6 (some 25) (.slice AL ls.length cL) rfl (by kernel_rfl) (by kernel_rfl) (by kernel_rfl) (fun _ _ _ h => h) rfl rfl ⟨hB, hz5⟩ (fun w' h' => exec_move _ rfl (.slice AL ls.length cL) rfl) ?_
  go_frame
  refine y_yield 7 (some 26) (.agg #[.int .i64 p, .int .i64 a, .int .i64 b, .int .i64 d, .slice (some ⟨bB, oB, none⟩) N c0]) rfl (by kernel_rfl) (by kernel_rfl) (by kernel_rfl) (fun _ _ _ h => h) rfl rfl ⟨hB, hz5⟩ (fun w' h' => exec_load_all 29 _ rfl w.heap.size rfl _ _ _ h'.2 Try.underlying29 rfl 5 (by kernel_rfl) rfl) ?_
  go_frame
  refine y_yield 8 (some 27) (.int .i64 1) rfl (by kernel_rfl) (by kernel_rfl) (by kernel_rfl) (fun _ _ _ h => h) rfl rfl ⟨hB, hz5⟩ (fun w' h' => exec_move _ rfl (.int .i64 1) rfl) ?_
  go_frame
  refine y_oper 9 (by kernel_rfl) rfl rfl (fun K' hK' => ?_)
  have lz17 := hB.size
  have lz18 := hz5.lt
  refine wp_call2 (some 28) rfl 27 _ _ _ rfl (fun args w => by kernel_rfl) _ _ rfl rfl _ (l05Side1_c p a b d _ _) (fun e Wz15 h => ?_)
  obtain ⟨rfl, bz16⟩ := h
  replace hB := below_after hB bz16
  replace hz5 := hz5.after bz16
  clear bz16
  refine ⟨_, rfl, ?_⟩
  refine hK' _ _ ⟨hB, hz5⟩ (fun _ => trivial) ?_
  clear hK' K'
  go_frame
  refine y_oper 10 (by kernel_rfl) rfl rfl (fun K' hK' => ?_)
  have lz21 := hB.size
  have lz22 := hz5.lt
  refine wp_call3 (some 29) rfl 36 _ _ _ _ rfl (fun args w => by kernel_rfl) _ _ _ rfl rfl rfl _ (l05NumbersL_c p b AL cL ls _ (by omega) (hN.keep hB) (by omega)) (fun e Wz19 h => ?_)
  obtain ⟨rfl, bz20⟩ := h
  replace hB := below_after hB bz20
  replace hz5 := hz5.after bz20
  rw [HT3.out]
  clear bz20
  refine ⟨_, rfl, ?_⟩
  refine hK' _ _ ⟨hB, hz5⟩ (fun _ => trivial) ?_
  clear hK' K'
  go_frame
  refine y_yield 11 (some 30) (.bool true) rfl (by kernel_rfl) (by kernel_rfl) (by kernel_rfl) (fun _ _ _ h => h) rfl rfl ⟨hB, hz5⟩ (fun w' h' => exec_not _ _ rfl false rfl) ?_
  go_frame
  refine y_yield 12 (some 31) (.bool true) rfl (by kernel_rfl) (by kernel_rfl) (by kernel_rfl) (fun _ _ _ h => h) rfl rfl ⟨hB, hz5⟩ (fun w' h' => exec_pick _ _ _ rfl false rfl (.bool true) rfl) ?_
  go_frame
  refine y_oper 13 (by kernel_rfl) rfl rfl (fun K' hK' => ?_)
  refine wp_exec (some 18) rfl (.bool true) (exec_assign _ rfl (.bool true) rfl) ?_
  refine hK' _ _ ⟨hB, hz5⟩ (fun _ => trivial) ?_
  clear hK' K'
  go_frame
  refine y_done (by kernel_rfl) ?_ _
  go_upto_region 4 with (fail)
  refine wp_region_lit ?_
  refine ls_ex (some 6) (.slice none 0 0) rfl rfl (exec_assign _ rfl (.slice none 0 0) rfl) ?_
  go_frame
  refine ls_ex (some 7) (.int .i64 2) rfl rfl (exec_assign _ rfl (.int .i64 2) rfl) ?_
  go_frame
  refine wpList_nil ?_
  go_wp2_with fail
  go_ret2
  exact ⟨_, by rw [HC.out]; rfl, by rw [HN.out]; exact OwnV.nil _ _ _ _, hB⟩
set_option maxHeartbeats 4000000 in
theorem specCt_n2 (p : Int) (a b d : Nat) (bB oB c0 N : Nat) (xs : List Int) (AL : Option Addr) (cL : Nat) (ls : List Int) (w : World) (hX : RdI w (some ⟨bB, oB, none⟩) xs) (hxl : xs.length = N) (hs : tenB p a b d xs = true) (hN : RdI w AL ls) (hln : ls.length ≤ 1048576) (hT : listB p d ls = false) :
    Calls Try.prog 15 #[.agg #[.int .i64 p, .int .i64 a, .int .i64 b, .int .i64 d, .slice (some ⟨bB, oB, none⟩) N c0], .int .i64 2, .slice AL ls.length cL] w (ResV w (cnN p a b d 2 ls xs) (cnF p a b d 2 ls xs) (cnCode p a b d 2 ls xs)) := by
  have hB := Below.refl w.heap.size w
  have h0 : ctOK p a b d 2 ls xs = false := by unfold ctOK; simp [hT]
  have HN : Hid (cnN p a b d 2 ls xs = 0) := Lib.hid (by unfold cnN; rw [h0]; rfl)
  have HC : Hid (cnCode p a b d 2 ls xs = 2) := Lib.hid (by unfold cnCode; rw [hs, h0]; rfl)
  have HS3 : Hid (inB 2 3 = true) := Lib.hid rfl
  have HT3 := Lib.hid hT
  have Hs := Lib.hid hs
  have HXl := Lib.hid hxl
  have hpp := prime_le5 (ten_parts hs).1
  have hdm := (ten_parts hs).2
  have ha0 := hdm.1
  have hb0 := hdm.2.1
  have hd0 := hdm.2.2.1
  have hNb : N ≤ 729 := by rw [← hxl, hdm.2.2.2.1]; exact Nat.le_trans (Nat.mul_le_mul (Nat.mul_le_mul hdm.1.2 hdm.2.1.2) hdm.2.2.1.2) (by decide)
  clear hs hxl hdm hT h0
  go_enter Try.func15, Try.ntmps15
  go_upto_region 0 with (fail)
  refine wp_region_lit ?_
  refine ls_op rfl (fun K' hK' => ?_)
  have lz1 := hB.size
  refine wp_new (some 3) rfl (exec_box 29 _ rfl (#[.int .i64 p, .int .i64 a, .int .i64 b, .int .i64 d, .slice (some ⟨bB, oB, none⟩) N c0]) rfl) (fun Wz2 nnz3 => ?_)
  have bz4 := nnz3.below (Below.refl _ _) (Nat.le_refl _)
  replace hB := below_after hB bz4
  have hz5 : At Wz2 w.heap.size (.cells #[.int .i64 p, .int .i64 a, .int .i64 b, .int .i64 d, .slice (some ⟨bB, oB, none⟩) N c0] 29 (0, 0)) := nnz3.at_
  refine hK' _ _ ?_
  clear hK' K' nnz3 bz4
  go_frame
  refine ls_ex (some 6) (.slice none 0 0) rfl rfl (exec_assign _ rfl (.slice none 0 0) rfl) ?_
  go_frame
  refine ls_ex (some 7) (.int .i64 0) rfl rfl (exec_assign _ rfl (.int .i64 0) rfl) ?_
  go_frame
  refine wpList_nil ?_
  go_upto_region 1 with (fail)
  refine wp_region_lit ?_
  refine ls_ex (some 15) (.agg #[.int .i64 p, .int .i64 a, .int .i64 b, .int .i64 d, .slice (some ⟨bB, oB, none⟩) N c0]) rfl rfl (exec_load_all 29 _ rfl w.heap.size rfl _ _ _ hz5 Try.underlying29 rfl 5 (by kernel_rfl) rfl) ?_
  go_frame
  refine ls_op rfl (fun K' hK' => ?_)
  have lz8 := hB.size
  have lz9 := hz5.lt
  refine wp_call1 (some 16) rfl 25 _ _ rfl (fun args w => by kernel_rfl) _ rfl _ (l05IsN_c p a b d (some ⟨bB, oB, none⟩) N c0 xs _ HXl.out (hX.keep hB) (by omega)) (fun e Wz6 h => ?_)
  obtain ⟨rfl, bz7⟩ := h
  replace hB := below_after hB bz7
  replace hz5 := hz5.after bz7
  rw [Hs.out]
  clear bz7
  refine ⟨_, rfl, ?_⟩
  refine hK' _ _ ?_
  clear hK' K'
  go_frame
  refine ls_ex (some 17) (.bool false) rfl rfl (exec_not _ _ rfl true rfl) ?_
  go_frame
  refine ls_ex (some 14) (.bool false) rfl rfl (exec_assign _ rfl (.bool false) rfl) ?_
  go_frame
  refine wpList_nil ?_
  go_upto_region 3 with (fail)
  refine wp_region_y (zs := []) (S := fun w' => Below w.heap.size w w' ∧ At w' w.heap.size (.cells #[.int .i64 p, .int .i64 a, .int .i64 b, .int .i64 d, .slice (some ⟨bB, oB, none⟩) N c0] 29 (0, 0))) (S2 := fun w' => True) (by kernel_rfl) ?_
  change wpAnyY _ _ _ _ _ _ _ _ _ _ (World.drew _)
  generalize hwdz10 : World.drew _ = wdz10
  replace hB : Below w.heap.size w wdz10 := by rw [← hwdz10]; exact hB.drew
  replace hz5 : At wdz10 w.heap.size (.cells #[.int .i64 p, .int .i64 a, .int .i64 b, .int .i64 d, .slice (some ⟨bB, oB, none⟩) N c0] 29 (0, 0)) := by rw [← hwdz10]; exact hz5
  clear hwdz10
  refine y_yield 0 (some 19) (.int .i64 2) rfl (by kernel_rfl) (by kernel_rfl) (by kernel_rfl) (fun _ _ _ h => h) rfl rfl ⟨hB, hz5⟩ (fun w' h' => exec_move _ rfl (.int .i64 2) rfl) ?_
  go_frame
  refine y_oper 1 (by kernel_rfl) rfl rfl (fun K' hK' => ?_)
  have lz13 := hB.size
  have lz14 := hz5.lt
  refine wp_call3 (some 20) rfl 26 _ _ _ _ rfl (fun args w => by kernel_rfl) _ _ _ rfl rfl rfl _ (l01In_idx 2 3 2 rfl _) (fun e Wz11 h => ?_)
  obtain ⟨rfl, rfl⟩ := h
  rw [HS3.out]
  refine ⟨_, rfl, ?_⟩
  refine hK' _ _ ⟨hB, hz5⟩ (fun _ => trivial) ?_
  clear hK' K'
  go_frame
  refine y_yield 2 (some 21) (.bool false) rfl (by kernel_rfl) (by kernel_rfl) (by kernel_rfl) (fun _ _ _ h => h) rfl rfl ⟨hB, hz5⟩ (fun w' h' => exec_not _ _ rfl true rfl) ?_
  go_frame
  refine y_yield 3 (some 22) (.bool false) rfl (by kernel_rfl) (by kernel_rfl) (by kernel_rfl) (fun _ _ _ h => h) rfl rfl ⟨hB, hz5⟩ (fun w' h' => exec_move _ rfl (.bool false) rfl) ?_
  go_frame
  refine y_yield 4 (some 23) (.pointer (some ⟨w.heap.size, 0, none⟩)) rfl (by kernel_rfl) (by kernel_rfl) (by kernel_rfl) (fun _ _ _ h => h) rfl rfl ⟨hB, hz5⟩ (fun w' h' => exec_fieldAddr 29 _ 0 rfl _ (by kernel_rfl)) ?_
  go_frame
  refine y_yield 5 (some 24) (.int .i64 p) rfl (by kernel_rfl) (by kernel_rfl) (by kernel_rfl) (fun _ _ _ h => h) rfl rfl ⟨hB, hz5⟩ (fun w' h' => exec_load_one 2 _ rfl w.heap.size 0 rfl (.int .i64 p) _ Try.underlying2 rfl (h'.2.at_ 0)) ?_
  go_frame
  refine y_yield 6 (some 25) (.slice AL ls.length cL) rfl (by kernel_rfl) (by kernel_rfl) (by kernel_rfl) (fun _ _ _ h => h) rfl rfl ⟨hB, hz5⟩ (fun w' h' => exec_move _ rfl (.slice AL ls.length cL) rfl) ?_
  go_frame
  refine y_yield 7 (some 26) (.agg #[.int .i64 p, .int .i64 a, .int .i64 b, .int .i64 d, .slice (some ⟨bB, oB, none⟩) N c0]) rfl (by kernel_rfl) (by kernel_rfl) (by kernel_rfl) (fun _ _ _ h => h) rfl rfl ⟨hB, hz5⟩ (fun w' h' => exec_load_all 29 _ rfl w.heap.size rfl _ _ _ h'.2 Try.underlying29 rfl 5 (by kernel_rfl) rfl) ?_
  go_frame
  refine y_yield 8 (some 27) (.int .i64 2) rfl (by kernel_rfl) (by kernel_rfl) (by kernel_rfl) (fun _ _ _ h => h) rfl rfl ⟨hB, hz5⟩ (fun w' h' => exec_move _ rfl (.int .i64 2) rfl) ?_
  go_frame
  refine y_oper 9 (by kernel_rfl) rfl rfl (fun K' hK' => ?_)
  have lz17 := hB.size
  have lz18 := hz5.lt
  refine wp_call2 (some 28) rfl 27 _ _ _ rfl (fun args w => by kernel_rfl) _ _ rfl rfl _ (l05Side2_c p a b d _ _) (fun e Wz15 h => ?_)
  obtain ⟨rfl, bz16⟩ := h
  replace hB := below_after hB bz16
  replace hz5 := hz5.after bz16
  clear bz16
  refine ⟨_, rfl, ?_⟩
  refine hK' _ _ ⟨hB, hz5⟩ (fun _ => trivial) ?_
  clear hK' K'
  go_frame
  refine y_oper 10 (by kernel_rfl) rfl rfl (fun K' hK' => ?_)
  have lz21 := hB.size
  have lz22 := hz5.lt
  refine wp_call3 (some 29) rfl 36 _ _ _ _ rfl (fun args w => by kernel_rfl) _ _ _ rfl rfl rfl _ (l05NumbersL_c p d AL cL ls _ (by omega) (hN.keep hB) (by omega)) (fun e Wz19 h => ?_)
  obtain ⟨rfl, bz20⟩ := h
  replace hB := below_after hB bz20
  replace hz5 := hz5.after bz20
  rw [HT3.out]
  clear bz20
  refine ⟨_, rfl, ?_⟩
  refine hK' _ _ ⟨hB, hz5⟩ (fun _ => trivial) ?_
  clear hK' K'
  go_frame
  refine y_yield 11 (some 30) (.bool true) rfl (by kernel_rfl) (by kernel_rfl) (by kernel_rfl) (fun _ _ _ h => h) rfl rfl ⟨hB, hz5⟩ (fun w' h' => exec_not _ _ rfl false rfl) ?_
  go_frame
  refine y_yield 12 (some 31) (.bool true) rfl (by kernel_rfl) (by kernel_rfl) (by kernel_rfl) (fun _ _ _ h => h) rfl rfl ⟨hB, hz5⟩ (fun w' h' => exec_pick _ _ _ rfl false rfl (.bool true) rfl) ?_
  go_frame
  refine y_oper 13 (by kernel_rfl) rfl rfl (fun K' hK' => ?_)
  refine wp_exec (some 18) rfl (.bool true) (exec_assign _ rfl (.bool true) rfl) ?_
  refine hK' _ _ ⟨hB, hz5⟩ (fun _ => trivial) ?_
  clear hK' K'
  go_frame
  refine y_done (by kernel_rfl) ?_ _
  go_upto_region 4 with (fail)
  refine wp_region_lit ?_
  refine ls_ex (some 6) (.slice none 0 0) rfl rfl (exec_assign _ rfl (.slice none 0 0) rfl) ?_
  go_frame
  refine ls_ex (some 7) (.int .i64 2) rfl rfl (exec_assign _ rfl (.int .i64 2) rfl) ?_
  go_frame
  refine wpList_nil ?_
  go_wp2_with fail
  go_ret2
  exact ⟨_, by rw [HC.out]; rfl, by rw [HN.out]; exact OwnV.nil _ _ _ _, hB⟩
set_option maxHeartbeats 4000000 in
theorem specCt_y0 (p : Int) (a b d : Nat) (bB oB c0 N : Nat) (xs : List Int) (bN oN cN NS : Nat) (ls : List Int) (w : World) (hX : RdI w (some ⟨bB, oB, none⟩) xs) (hxl : xs.length = N) (hs : tenB p a b d xs = true) (hN : RdI w (some ⟨bN, oN, none⟩) ls) (hLl : ls.length = NS) (hc0 : N ≤ c0) (hT : listB p NS ls = true) (hD : a = NS) :
    Calls Try.prog 15 #[.agg #[.int .i64 p, .int .i64 a, .int .i64 b, .int .i64 d, .slice (some ⟨bB, oB, none⟩) N c0], .int .i64 0, .slice (some ⟨bN, oN, none⟩) NS cN] w (ResV w (cnN p a b d 0 ls xs) (cnF p a b d 0 ls xs) (cnCode p a b d 0 ls xs)) := by
  have hB := Below.refl w.heap.size w
  subst hD
  have h0 : ctOK p a b d 0 ls xs = true := by unfold ctOK; rw [hs]; simp [hT]; rfl
  obtain ⟨q1, q2, q3, q4, hq⟩ : ∃ q1 q2 q3 q4, trn p 0 (a, b, d, xs) = (q1, q2, q3, q4) := ⟨_, _, _, _, rfl⟩
  obtain ⟨RW, hRW⟩ : ∃ z9, ctR p ls q4 q1 q2 q3 = z9 := ⟨_, rfl⟩
  have hsq : slQ p a b d 0 xs = (q1, q2, q3, q4) := by rw [← hq]; rfl
  have HN : Hid (cnN p a b d 0 ls xs = q2) := Lib.hid (by unfold cnN; rw [h0, hsq]; rfl)
  have HF : Hid (cnF p a b d 0 ls xs = RW) := Lib.hid (by unfold cnF cnG; rw [hsq]; exact hRW)
  have HC : Hid (cnCode p a b d 0 ls xs = 0) := Lib.hid (by unfold cnCode; rw [hs, h0]; rfl)
  have HS3 : Hid (inB 0 3 = true) := Lib.hid rfl
  have HT3 := Lib.hid hT
  have HQ := Lib.hid hq
  have HRW := Lib.hid hRW
  have HLl := Lib.hid hLl
  have HMb := Lib.hid (listB_parts hT).2
  have HS1 : Hid (q1 = a) := Lib.hid (by have h9 := congrArg (·.1) hq; exact h9.symm)
  have Hs := Lib.hid hs
  have HXl := Lib.hid hxl
  have hpp := prime_le5 (ten_parts hs).1
  have hdm := (ten_parts hs).2
  have ha0 := hdm.1
  have hb0 := hdm.2.1
  have hd0 := hdm.2.2.1
  have hNb : N ≤ 729 := by rw [← hxl, hdm.2.2.2.1]; exact Nat.le_trans (Nat.mul_le_mul (Nat.mul_le_mul hdm.1.2 hdm.2.1.2) hdm.2.2.1.2) (by decide)
  clear hs hxl hdm hT h0 hq hsq hRW hLl
  go_enter Try.func15, Try.ntmps15
  go_upto_region 0 with (fail)
  refine wp_region_lit ?_
  refine ls_op rfl (fun K' hK' => ?_)
  have lz1 := hB.size
  refine wp_new (some 3) rfl (exec_box 29 _ rfl (#[.int .i64 p, .int .i64 a, .int .i64 b, .int .i64 d, .slice (some ⟨bB, oB, none⟩) N c0]) rfl) (fun Wz2 nnz3 => ?_)
  have bz4 := nnz3.below (Below.refl _ _) (Nat.le_refl _)
  replace hB := below_after hB bz4
  have hz5 : At Wz2 w.heap.size (.cells #[.int .i64 p, .int .i64 a, .int .i64 b, .int .i64 d, .slice (some ⟨bB, oB, none⟩) N c0] 29 (0, 0)) := nnz3.at_
  refine hK' _ _ ?_
  clear hK' K' nnz3 bz4
  go_frame
  refine ls_ex (some 6) (.slice none 0 0) rfl rfl (exec_assign _ rfl (.slice none 0 0) rfl) ?_
  go_frame
  refine ls_ex (some 7) (.int .i64 0) rfl rfl (exec_assign _ rfl (.int .i64 0) rfl) ?_
  go_frame
  refine wpList_nil ?_
  go_upto_region 1 with (fail)
  refine wp_region_lit ?_
  refine ls_ex (some 15) (.agg #[.int .i64 p, .int .i64 a, .int .i64 b, .int .i64 d, .slice (some ⟨bB, oB, none⟩) N c0]) rfl rfl (exec_load_all 29 _ rfl w.heap.size rfl _ _ _ hz5 Try.underlying29 rfl 5 (by kernel_rfl) rfl) ?_
  go_frame
  refine ls_op rfl (fun K' hK' => ?_)
  have lz8 := hB.size
  have lz9 := hz5.lt
  refine wp_call1 (some 16) rfl 25 _ _ rfl (fun args w => by kernel_rfl) _ rfl _ (l05IsN_c p a b d (some ⟨bB, oB, none⟩) N c0 xs _ HXl.out (hX.keep hB) (by omega)) (fun e Wz6 h => ?_)
  obtain ⟨rfl, bz7⟩ := h
  replace hB := below_after hB bz7
  replace hz5 := hz5.after bz7
  rw [Hs.out]
  clear bz7
  refine ⟨_, rfl, ?_⟩
  refine hK' _ _ ?_
  clear hK' K'
  go_frame
  refine ls_ex (some 17) (.bool false) rfl rfl (exec_not _ _ rfl true rfl) ?_
  go_frame
  refine ls_ex (some 14) (.bool false) rfl rfl (exec_assign _ rfl (.bool false) rfl) ?_
  go_frame
  refine wpList_nil ?_
  go_upto_region 3 with (fail)
  refine wp_region_y (zs := []) (S := fun w' => Below w.heap.size w w' ∧ At w' w.heap.size (.cells #[.int .i64 p, .int .i64 a, .int .i64 b, .int .i64 d, .slice (some ⟨bB, oB, none⟩) N c0] 29 (0, 0))) (S2 := fun w' => True) (by kernel_rfl) ?_
  change wpAnyY _ _ _ _ _ _ _ _ _ _ (World.drew _)
  generalize hwdz10 : World.drew _ = wdz10
  replace hB : Below w.heap.size w wdz10 := by rw [← hwdz10]; exact hB.drew
  replace hz5 : At wdz10 w.heap.size (.cells #[.int .i64 p, .int .i64 a, .int .i64 b, .int .i64 d, .slice (some ⟨bB, oB, none⟩) N c0] 29 (0, 0)) := by rw [← hwdz10]; exact hz5
  clear hwdz10
  refine y_yield 0 (some 19) (.int .i64 0) rfl (by kernel_rfl) (by kernel_rfl) (by kernel_rfl) (fun _ _ _ h => h) rfl rfl ⟨hB, hz5⟩ (fun w' h' => exec_move _ rfl (.int .i64 0) rfl) ?_
  go_frame
  refine y_oper 1 (by kernel_rfl) rfl rfl (fun K' hK' => ?_)
  have lz13 := hB.size
  have lz14 := hz5.lt
  refine wp_call3 (some 20) rfl 26 _ _ _ _ rfl (fun args w => by kernel_rfl) _ _ _ rfl rfl rfl _ (l01In_idx 0 3 2 rfl _) (fun e Wz11 h => ?_)
  obtain ⟨rfl, rfl⟩ := h
  rw [HS3.out]
  refine ⟨_, rfl, ?_⟩
  refine hK' _ _ ⟨hB, hz5⟩ (fun _ => trivial) ?_
  clear hK' K'
  go_frame
  refine y_yield 2 (some 21) (.bool false) rfl (by kernel_rfl) (by kernel_rfl) (by kernel_rfl) (fun _ _ _ h => h) rfl rfl ⟨hB, hz5⟩ (fun w' h' => exec_not _ _ rfl true rfl) ?_
  go_frame
  refine y_yield 3 (some 22) (.bool false) rfl (by kernel_rfl) (by kernel_rfl) (by kernel_rfl) (fun _ _ _ h => h) rfl rfl ⟨hB, hz5⟩ (fun w' h' => exec_move _ rfl (.bool false) rfl) ?_
  go_frame
  refine y_yield 4 (some 23) (.pointer (some ⟨w.heap.size, 0, none⟩)) rfl (by kernel_rfl) (by kernel_rfl) (by kernel_rfl) (fun _ _ _ h => h) rfl rfl ⟨hB, hz5⟩ (fun w' h' => exec_fieldAddr 29 _ 0 rfl _ (by kernel_rfl)) ?_
  go_frame
  refine y_yield 5 (some 24) (.int .i64 p) rfl (by kernel_rfl) (by kernel_rfl) (by kernel_rfl) (fun _ _ _ h => h) rfl rfl ⟨hB, hz5⟩ (fun w' h' => exec_load_one 2 _ rfl w.heap.size 0 rfl (.int .i64 p) _ Try.underlying2 rfl (h'.2.at_ 0)) ?_
  go_frame
  refine y_yield 6 (some 25) (.slice (some ⟨bN, oN, none⟩) a cN) rfl (by kernel_rfl) (by kernel_rfl) (by kernel_rfl) (fun _ _ _ h => h) rfl rfl ⟨hB, hz5⟩ (fun w' h' => exec_move _ rfl (.slice (some ⟨bN, oN, none⟩) a cN) rfl) ?_
  go_frame
  refine y_yield 7 (some 26) (.agg #[.int .i64 p, .int .i64 a, .int .i64 b, .int .i64 d, .slice (some ⟨bB, oB, none⟩) N c0]) rfl (by kernel_rfl) (by kernel_rfl) (by kernel_rfl) (fun _ _ _ h => h) rfl rfl ⟨hB, hz5⟩ (fun w' h' => exec_load_all 29 _ rfl w.heap.size rfl _ _ _ h'.2 Try.underlying29 rfl 5 (by kernel_rfl) rfl) ?_
  go_frame
  refine y_yield 8 (some 27) (.int .i64 0) rfl (by kernel_rfl) (by kernel_rfl) (by kernel_rfl) (fun _ _ _ h => h) rfl rfl ⟨hB, hz5⟩ (fun w' h' => exec_move _ rfl (.int .i64 0) rfl) ?_
  go_frame
  refine y_oper 9 (by kernel_rfl) rfl rfl (fun K' hK' => ?_)
  have lz17 := hB.size
  have lz18 := hz5.lt
  refine wp_call2 (some 28) rfl 27 _ _ _ rfl (fun args w => by kernel_rfl) _ _ rfl rfl _ (l05Side0_c p a b d _ _) (fun e Wz15 h => ?_)
  obtain ⟨rfl, bz16⟩ := h
  replace hB := below_after hB bz16
  replace hz5 := hz5.after bz16
  clear bz16
  refine ⟨_, rfl, ?_⟩
  refine hK' _ _ ⟨hB, hz5⟩ (fun _ => trivial) ?_
  clear hK' K'
  go_frame
  refine y_oper 10 (by kernel_rfl) rfl rfl (fun K' hK' => ?_)
  have lz21 := hB.size
  have lz22 := hz5.lt
  refine wp_call3 (some 29) rfl 36 _ _ _ _ rfl (fun args w => by kernel_rfl) _ _ _ rfl rfl rfl _ (l05NumbersM_c p a (some ⟨bN, oN, none⟩) cN ls _ (by omega) (hN.keep hB) HLl.out (by omega)) (fun e Wz19 h => ?_)
  obtain ⟨rfl, bz20⟩ := h
  replace hB := below_after hB bz20
  replace hz5 := hz5.after bz20
  rw [HT3.out]
  clear bz20
  refine ⟨_, rfl, ?_⟩
  refine hK' _ _ ⟨hB, hz5⟩ (fun _ => trivial) ?_
  clear hK' K'
  go_frame
  refine y_yield 11 (some 30) (.bool false) rfl (by kernel_rfl) (by kernel_rfl) (by kernel_rfl) (fun _ _ _ h => h) rfl rfl ⟨hB, hz5⟩ (fun w' h' => exec_not _ _ rfl true rfl) ?_
  go_frame
  refine y_yield 12 (some 31) (.bool false) rfl (by kernel_rfl) (by kernel_rfl) (by kernel_rfl) (fun _ _ _ h => h) rfl rfl ⟨hB, hz5⟩ (fun w' h' => exec_pick _ _ _ rfl false rfl (.bool false) rfl) ?_
  go_frame
  refine y_oper 13 (by kernel_rfl) rfl rfl (fun K' hK' => ?_)
  refine wp_exec (some 18) rfl (.bool false) (exec_assign _ rfl (.bool false) rfl) ?_
  refine hK' _ _ ⟨hB, hz5⟩ (fun _ => trivial) ?_
  clear hK' K'
  go_frame
  refine y_done (by kernel_rfl) ?_ _
  go_upto_region 5 with (fail)
  refine wp_region_lit ?_
  refine ls_ex (some 32) (.agg #[.int .i64 p, .int .i64 a, .int .i64 b, .int .i64 d, .slice (some ⟨bB, oB, none⟩) N c0]) rfl rfl (exec_load_all 29 _ rfl w.heap.size rfl _ _ _ hz5 Try.underlying29 rfl 5 (by kernel_rfl) rfl) ?_
  go_frame
  refine ls_ex (some 33) (.int .i64 0) rfl rfl (exec_move _ rfl (.int .i64 0) rfl) ?_
  go_frame
  refine ls_op rfl (fun K' hK' => ?_)
  have lz25 := hB.size
  have lz26 := hz5.lt
  refine wp_call2 (some 34) rfl 29 _ _ _ rfl (fun args w => by kernel_rfl) _ _ rfl rfl _ (l05Turned_q p a b d 0 bB oB c0 N xs 0 _ q1 q2 q3 q4 HQ.out rfl (hX.keep hB) HXl.out Hs.out (by omega) hc0) (fun e Wz23 h => ?_)
  obtain ⟨b9, o9, c9, rfl, hc9, hq5, hq6, hq4, bz24⟩ := h
  replace hB := below_after hB bz24
  replace hz5 := hz5.after bz24
  have h9q := (ten_parts hq6).2
  have ha9 : 1 ≤ q1 ∧ q1 ≤ 9 := h9q.1
  have hb9 : 1 ≤ q2 ∧ q2 ≤ 9 := h9q.2.1
  have hd9 : 1 ≤ q3 ∧ q3 ≤ 9 := h9q.2.2.1
  have HN9 : Hid (q1 * q2 * q3 = N) := Lib.hid (by rw [← hq5]; exact h9q.2.2.2.1.symm)
  have HNb := Lib.hid h9q.2.2.2.2
  have HQl := Lib.hid hq5
  have HQt := Lib.hid hq6
  clear h9q hq5 hq6
  have hB5 := Below.refl Wz23.heap.size Wz23
  have lo5 := hB.size
  clear bz24
  refine ⟨_, rfl, ?_⟩
  refine hK' _ _ ?_
  clear hK' K'
  go_frame
  refine ls_op rfl (fun K' hK' => ?_)
  have lz27 := hB.size
  have lz28 := hz5.lt
  have lz29 := hB5.size
  refine wp_new (some 35) rfl (exec_bs0M rfl) (fun Wz30 nnz31 => ?_)
  have bz32 := nnz31.below (Below.refl _ _) (Nat.le_refl _)
  replace hB := below_after hB bz32
  replace hz5 := hz5.after bz32
  replace hB5 := below_after hB5 bz32
  have hk0 : At Wz30 Wz23.heap.size (.cells #[] 22 (0, 0)) := nnz31.at_
  refine hK' _ _ ?_
  clear hK' K' nnz31 bz32
  go_frame
  refine ls_op rfl (fun K' hK' => ?_)
  have lz33 := hB.size
  have lz34 := hz5.lt
  have lz35 := hB5.size
  have lz36 := hk0.lt
  refine wp_new (some 8) rfl (alCu_impl_Tensor rfl) (fun Wz37 nnz38 => ?_)
  have bz39 := nnz38.below (Below.refl _ _) (Nat.le_refl _)
  replace hB := below_after hB bz39
  replace hz5 := hz5.after bz39
  replace hB5 := below_after hB5 bz39
  replace hk0 := hk0.after bz39
  have hz40 : At Wz37 Wz30.heap.size (.cells #[.int .i64 0, .int .i64 0, .int .i64 0, .int .i64 0, .slice none 0 0] 29 (0, 0)) := nnz38.at_
  refine hK' _ _ ?_
  clear hK' K' nnz38 bz39
  go_frame
  refine ls_op rfl (fun K' hK' => ?_)
  refine wp_store_all 29 _ _ rfl rfl Wz30.heap.size rfl #[.int .i64 p, .int .i64 q1, .int .i64 q2, .int .i64 q3, .slice (some ⟨b9, o9, none⟩) N c9] rfl _ _ hz40 5 (by kernel_rfl) rfl rfl (one5 _ _ _ _ _ _ _) (fun Wz41 pz42 => ?_)
  replace hB := pz42.below hB (by omega)
  replace hz5 := pz42.other hz5 (by omega)
  replace hB5 := pz42.below hB5 (by omega)
  replace hk0 := pz42.other hk0 (by omega)
  replace hz40 : At Wz41 Wz30.heap.size (.cells #[.int .i64 p, .int .i64 q1, .int .i64 q2, .int .i64 q3, .slice (some ⟨b9, o9, none⟩) N c9] 29 (0, 0)) := pz42.at_
  refine hK' _ _ ?_
  clear hK' K' pz42
  refine ls_ex (some 9) (.slice (some ⟨Wz23.heap.size, 0, none⟩) 0 0) rfl rfl (exec_assign _ rfl (.slice (some ⟨Wz23.heap.size, 0, none⟩) 0 0) rfl) ?_
  go_frame
  refine wpList_nil ?_
  go_upto_region 6 with (fail)
  refine wp_region_lit ?_
  refine ls_ex (some 10) (.int .i64 0) rfl rfl (exec_assign _ rfl (.int .i64 0) rfl) ?_
  go_frame
  refine wpList_nil ?_
  go_wp2_with fail
  go_loopw [9, 10, 11, 12, 13] (fun s9 s10 s11 s12 s13 wr => ∃ (j : Nat) (v : Value) (z8 : Nat), j ≤ q2 ∧ v = s9 ∧ s10 = .int .i64 j ∧ Below w.heap.size w wr ∧ Below Wz23.heap.size Wz23 wr ∧ At wr w.heap.size (.cells #[.int .i64 p, .int .i64 a, .int .i64 b, .int .i64 d, .slice (some ⟨bB, oB, none⟩) N c0] 29 (0, 0)) ∧ At wr Wz30.heap.size (.cells #[.int .i64 p, .int .i64 q1, .int .i64 q2, .int .i64 q3, .slice (some ⟨b9, o9, none⟩) N c9] 29 (0, 0)) ∧ OutV wr Wz23.heap.size z8 v j RW) (fun _ s10 _ _ _ _ => q2 - (intOf s10).toNat)
  case atStart => exact ⟨0, _, _, by omega, rfl, rfl, hB, hB5, hz5, hz40, OutV.nil hk0 (by omega) _⟩
  case round =>
    clear hB hz5 hB5 hk0 hz40
    obtain ⟨j, v, z8, hle, rfl, rfl, hB, hB5, h3, h8, hu⟩ := hrel
    by_cases hlt : j < q2
    · have hj : j < q2 := hlt
      obtain ⟨we, rfl⟩ : ∃ x : World, x = wr := ⟨_, rfl⟩
      go_upto_region 7 with (fail)
      refine wp_region_lit ?_
      refine ls_ex (some 36) (.int .i64 j) rfl rfl (exec_move _ rfl (.int .i64 j) rfl) ?_
      go_frame
      refine ls_ex (some 37) (.pointer (some ⟨Wz30.heap.size, 2, none⟩)) rfl rfl (exec_fieldAddr 29 _ 2 rfl _ (by kernel_rfl)) ?_
      go_frame
      refine ls_ex (some 38) (.int .i64 q2) rfl rfl (exec_load_one 2 _ rfl Wz30.heap.size 2 rfl (.int .i64 q2) _ Try.underlying2 rfl (h8.at_ 2)) ?_
      go_frame
      refine ls_ex (some 39) (.bool true) rfl rfl (exec_lss _ _ _ _ rfl j q2 rfl rfl true (decide_eq_true (by omega))) ?_
      go_frame
      refine wpList_nil ?_
      go_upto_region 9 with (fail)
      refine wp_region_lit ?_
      refine ls_ex (some 42) (.pointer (some ⟨Wz30.heap.size, 3, none⟩)) rfl rfl (exec_fieldAddr 29 _ 3 rfl _ (by kernel_rfl)) ?_
      go_frame
      refine ls_ex (some 43) (.int .i64 q3) rfl rfl (exec_load_one 2 _ rfl Wz30.heap.size 3 rfl (.int .i64 q3) _ Try.underlying2 rfl (h8.at_ 3)) ?_
      go_frame
      refine ls_op rfl (fun K' hK' => ?_)
      have lz43 := hB.size
      have lz44 := hB5.size
      have lz45 := h3.lt
      have lz46 := h8.lt
      replace hu := hu.raise
      refine wp_make_Iz (some 44) rfl _ _ rfl q3 rfl rfl (by omega) (fun Wz47 nnz48 => ?_)
      have bz49 := nnz48.below (Below.refl _ _) (Nat.le_refl _)
      replace hB := below_after hB bz49
      replace hB5 := below_after hB5 bz49
      replace h3 := h3.after bz49
      replace h8 := h8.after bz49
      replace hu := hu.below bz49
      have hR : At Wz47 we.heap.size (.cells (iar (List.replicate q3 0)) 2 (0, 0)) := nnz48.at_
      refine hK' _ _ ?_
      clear hK' K' nnz48 bz49
      go_frame
      refine ls_ex (some 11) (.slice (some ⟨we.heap.size, 0, none⟩) q3 q3) rfl rfl (exec_assign _ rfl (.slice (some ⟨we.heap.size, 0, none⟩) q3 q3) rfl) ?_
      go_frame
      refine wpList_nil ?_
      go_upto_region 10 with (fail)
      refine wp_region_lit ?_
      refine ls_ex (some 12) (.int .i64 0) rfl rfl (exec_assign _ rfl (.int .i64 0) rfl) ?_
      go_frame
      refine wpList_nil ?_
      go_wp2_with fail
      go_loopw [12, 13] (fun s12 s13 wr => ∃ k : Nat, k ≤ q3 ∧ s12 = .int .i64 k ∧ Below w.heap.size w wr ∧ Below Wz23.heap.size Wz23 wr ∧ At wr w.heap.size (.cells #[.int .i64 p, .int .i64 a, .int .i64 b, .int .i64 d, .slice (some ⟨bB, oB, none⟩) N c0] 29 (0, 0)) ∧ At wr Wz30.heap.size (.cells #[.int .i64 p, .int .i64 q1, .int .i64 q2, .int .i64 q3, .slice (some ⟨b9, o9, none⟩) N c9] 29 (0, 0)) ∧ OutV wr Wz23.heap.size we.heap.size v j RW ∧ At wr we.heap.size (.cells (iar (ctP p ls q4 q1 q2 q3 j k 0)) 2 (0, 0))) (fun s12 _ _ => q3 - (intOf s12).toNat)
      case atStart => exact ⟨0, by omega, rfl, hB, hB5, h3, h8, hu, by rw [ctP_zero]; exact hR⟩
      case round =>
        clear hB hB5 h3 h8 hu hR
        obtain ⟨k, hle2, rfl, hB, hB5, h3, h8, hu, hR⟩ := hrel
        by_cases hlt : k < q3
        · have hlt2 : k < q3 := hlt
          obtain ⟨wf, rfl⟩ : ∃ x : World, x = wr := ⟨_, rfl⟩
          go_upto_region 11 with (fail)
          refine wp_region_lit ?_
          refine ls_ex (some 45) (.int .i64 k) rfl rfl (exec_move _ rfl (.int .i64 k) rfl) ?_
          go_frame
          refine ls_ex (some 46) (.pointer (some ⟨Wz30.heap.size, 3, none⟩)) rfl rfl (exec_fieldAddr 29 _ 3 rfl _ (by kernel_rfl)) ?_
          go_frame
          refine ls_ex (some 47) (.int .i64 q3) rfl rfl (exec_load_one 2 _ rfl Wz30.heap.size 3 rfl (.int .i64 q3) _ Try.underlying2 rfl (h8.at_ 3)) ?_
          go_frame
          refine ls_ex (some 48) (.bool true) rfl rfl (exec_lss _ _ _ _ rfl k q3 rfl rfl true (decide_eq_true (by omega))) ?_
          go_frame
          refine wpList_nil ?_
          go_upto_region 13 with (fail)
          refine wp_region_lit ?_
          refine ls_ex (some 13) (.int .i64 0) rfl rfl (exec_assign _ rfl (.int .i64 0) rfl) ?_
          go_frame
          refine wpList_nil ?_
          go_wp2_with fail
          go_loopw [13] (fun s13 wr => ∃ i : Nat, i ≤ q1 ∧ s13 = .int .i64 i ∧ Below w.heap.size w wr ∧ Below Wz23.heap.size Wz23 wr ∧ At wr w.heap.size (.cells #[.int .i64 p, .int .i64 a, .int .i64 b, .int .i64 d, .slice (some ⟨bB, oB, none⟩) N c0] 29 (0, 0)) ∧ At wr Wz30.heap.size (.cells #[.int .i64 p, .int .i64 q1, .int .i64 q2, .int .i64 q3, .slice (some ⟨b9, o9, none⟩) N c9] 29 (0, 0)) ∧ OutV wr Wz23.heap.size we.heap.size v j RW ∧ At wr we.heap.size (.cells (iar (ctP p ls q4 q1 q2 q3 j k i)) 2 (0, 0))) (fun s13 _ => q1 - (intOf s13).toNat)
          case atStart => exact ⟨0, by omega, rfl, hB, hB5, h3, h8, hu, hR⟩
          case round =>
            clear hB hB5 h3 h8 hu hR
            obtain ⟨i, hle3, rfl, hB, hB5, h3, h8, hu, hR⟩ := hrel
            by_cases hlt : i < q1
            · obtain ⟨X, hX9⟩ : ∃ z9, nthI q4 ((((i : Nat) : Int) * q2 + (j : Nat)) * q3 + (k : Nat)) = z9 := ⟨_, rfl⟩
              obtain ⟨U, hU9⟩ : ∃ z9, ls[i]? = some z9 := ⟨_, List.getElem?_eq_getElem (by have := HLl.out; have := HS1.out; omega)⟩
              have hXb : 0 ≤ X ∧ X ≤ 4 := by have h9 := nth_in HNb.out (by omega) ((((i : Nat) : Int) * q2 + (j : Nat)) * q3 + (k : Nat)); rw [hX9] at h9; omega
              have hUb : 0 ≤ U ∧ U ≤ 4 := by have h9 := inB_of HMb.out hU9; omega
              obtain ⟨M, hM⟩ : ∃ z9, U * X = z9 := ⟨_, rfl⟩
              have hMb := m4c hUb hXb
              rw [hM] at hMb
              have HM : Hid (IntKind.i64.wrap (U * X) = M) := Lib.hid (by rw [hM]; exact IntWalk.i64_in _ (by omega))
              obtain ⟨Y, hY9⟩ : ∃ z9, ctS ls q4 q2 q3 j k i % p = z9 := ⟨_, rfl⟩
              have hYb : 0 ≤ Y ∧ Y ≤ 4 := by rw [← hY9]; have e1 := Int.emod_nonneg (ctS ls q4 q2 q3 j k i) (show p ≠ 0 by omega); have e2 := Int.emod_lt_of_pos (ctS ls q4 q2 q3 j k i) (show 0 < p by omega); omega
              obtain ⟨Z, hZ9⟩ : ∃ z9, Y + M = z9 := ⟨_, rfl⟩
              have HSum : Hid (IntKind.i64.wrap (Y + M) = Z) := Lib.hid (by rw [← hZ9]; exact IntWalk.i64_in _ (by omega))
              obtain ⟨R, hR9⟩ : ∃ z9, Z % p = z9 := ⟨_, rfl⟩
              have HRem : Hid (Z.tmod p = R) := Lib.hid (by rw [Int.tmod_eq_emod_of_nonneg (by omega)]; exact hR9)
              have HYg : Hid ((ctP p ls q4 q1 q2 q3 j k i)[k]? = some Y) := Lib.hid (by rw [← hY9]; exact ctP_at hlt2)
              have HSet : Hid ((ctP p ls q4 q1 q2 q3 j k i).set k R = ctP p ls q4 q1 q2 q3 j k (i + 1)) := Lib.hid (ctP_set (by rw [← hR9, ← hZ9, ← hY9, ← hM, ctS, hU9, Option.getD_some, hX9, Int.emod_add_emod]))
              have HLen := Lib.hid (ctP_len p ls q4 q1 q2 q3 j k i)
              have hlt9 : i < a := by have := HS1.out; omega
              have HXg := Lib.hid hX9
              have HUg := Lib.hid hU9
              clear hX9 hU9 hM hY9 hZ9 hR9
              go_upto_region 14 with (fail)
              refine wp_region_lit ?_
              refine ls_ex (some 51) (.int .i64 i) rfl rfl (exec_move _ rfl (.int .i64 i) rfl) ?_
              go_frame
              refine ls_ex (some 52) (.pointer (some ⟨Wz30.heap.size, 1, none⟩)) rfl rfl (exec_fieldAddr 29 _ 1 rfl _ (by kernel_rfl)) ?_
              go_frame
              refine ls_ex (some 53) (.int .i64 q1) rfl rfl (exec_load_one 2 _ rfl Wz30.heap.size 1 rfl (.int .i64 q1) _ Try.underlying2 rfl (h8.at_ 1)) ?_
              go_frame
              refine ls_ex (some 54) (.bool true) rfl rfl (exec_lss _ _ _ _ rfl i q1 rfl rfl true (decide_eq_true (by omega))) ?_
              go_frame
              refine wpList_nil ?_
              go_upto_region 16 with (fail)
              refine wp_region_y (zs := [21]) (S := fun w' => Below w.heap.size w w' ∧ At w' Wz30.heap.size (.cells #[.int .i64 p, .int .i64 q1, .int .i64 q2, .int .i64 q3, .slice (some ⟨b9, o9, none⟩) N c9] 29 (0, 0)) ∧ At w' w.heap.size (.cells #[.int .i64 p, .int .i64 a, .int .i64 b, .int .i64 d, .slice (some ⟨bB, oB, none⟩) N c0] 29 (0, 0))) (S2 := fun w' => At w' we.heap.size (.cells (iar (ctP p ls q4 q1 q2 q3 j k i)) 2 (0, 0))) (by kernel_rfl) ?_
              change wpAnyY _ _ _ _ _ _ _ _ _ _ (World.drew _)
              generalize hwdz50 : World.drew _ = wdz50
              replace hB : Below w.heap.size w wdz50 := by rw [← hwdz50]; exact hB.drew
              replace hB5 : Below Wz23.heap.size Wz23 wdz50 := by rw [← hwdz50]; exact hB5.drew
              replace h3 : At wdz50 w.heap.size (.cells #[.int .i64 p, .int .i64 a, .int .i64 b, .int .i64 d, .slice (some ⟨bB, oB, none⟩) N c0] 29 (0, 0)) := by rw [← hwdz50]; exact h3
              replace h8 : At wdz50 Wz30.heap.size (.cells #[.int .i64 p, .int .i64 q1, .int .i64 q2, .int .i64 q3, .slice (some ⟨b9, o9, none⟩) N c9] 29 (0, 0)) := by rw [← hwdz50]; exact h8
              replace hu : OutV wdz50 Wz23.heap.size we.heap.size v j RW := by rw [← hwdz50]; exact hu.drew
              replace hR : At wdz50 we.heap.size (.cells (iar (ctP p ls q4 q1 q2 q3 j k i)) 2 (0, 0)) := by rw [← hwdz50]; exact hR
              clear hwdz50
              refine y_yield 0 (some 57) (.slice (some ⟨we.heap.size, 0, none⟩) q3 q3) rfl (by kernel_rfl) (by kernel_rfl) (by kernel_rfl) (fun _ _ _ h => h) rfl rfl ⟨hB, h8, h3⟩ (fun w' h' => exec_move _ rfl (.slice (some ⟨we.heap.size, 0, none⟩) q3 q3) rfl) ?_
              go_frame
              refine y_yield 1 (some 58) (.int .i64 k) rfl (by kernel_rfl) (by kernel_rfl) (by kernel_rfl) (fun _ _ _ h => h) rfl rfl ⟨hB, h8, h3⟩ (fun w' h' => exec_move _ rfl (.int .i64 k) rfl) ?_
              go_frame
              refine y_yield 2 (some 59) (.slice (some ⟨we.heap.size, 0, none⟩) q3 q3) rfl (by kernel_rfl) (by kernel_rfl) (by kernel_rfl) (fun _ _ _ h => h) rfl rfl ⟨hB, h8, h3⟩ (fun w' h' => exec_move _ rfl (.slice (some ⟨we.heap.size, 0, none⟩) q3 q3) rfl) ?_
              go_frame
              refine y_yield 3 (some 60) (.int .i64 k) rfl (by kernel_rfl) (by kernel_rfl) (by kernel_rfl) (fun _ _ _ h => h) rfl rfl ⟨hB, h8, h3⟩ (fun w' h' => exec_move _ rfl (.int .i64 k) rfl) ?_
              go_frame
              refine y_yield 4 (some 61) (.pointer (some ⟨we.heap.size, k * 1, none⟩)) rfl (by kernel_rfl) (by kernel_rfl) (by kernel_rfl) (fun _ _ _ h => h) rfl rfl ⟨hB, h8, h3⟩ (fun w' h' => exec_ix0 _ 2 _ _ rfl we.heap.size q3 q3 k 1 rfl rfl Try.underlying22 (by kernel_rfl) (by omega)) ?_
              go_frame
              refine y_yield3 5 (some 62) (.int .i64 Y) rfl 22 (by kernel_rfl) (by kernel_rfl) (by kernel_rfl) (by kernel_rfl) (by kernel_rfl) (fun _ _ _ h => h) rfl rfl ⟨hB, h8, h3⟩ hR (fun w' h' h2' => exec_load_one 2 _ rfl we.heap.size (k * 1) rfl (.int .i64 Y) _ Try.underlying2 rfl (cell_iar h2' HYg.out)) ?_
              go_frame
              refine y_yield 6 (some 63) (.slice (some ⟨bN, oN, none⟩) a cN) rfl (by kernel_rfl) (by kernel_rfl) (by kernel_rfl) (fun _ _ _ h => h) rfl rfl ⟨hB, h8, h3⟩ (fun w' h' => exec_move _ rfl (.slice (some ⟨bN, oN, none⟩) a cN) rfl) ?_
              go_frame
              refine y_yield 7 (some 64) (.int .i64 i) rfl (by kernel_rfl) (by kernel_rfl) (by kernel_rfl) (fun _ _ _ h => h) rfl rfl ⟨hB, h8, h3⟩ (fun w' h' => exec_move _ rfl (.int .i64 i) rfl) ?_
              go_frame
              refine y_yield 8 (some 65) (.pointer (some ⟨bN, oN + i * 1, none⟩)) rfl (by kernel_rfl) (by kernel_rfl) (by kernel_rfl) (fun _ _ _ h => h) rfl rfl ⟨hB, h8, h3⟩ (fun w' h' => exec_index_slice _ 2 _ _ rfl bN oN a cN i 1 rfl rfl Try.underlying22 (by kernel_rfl) hlt9) ?_
              go_frame
              refine y_yield 9 (some 66) (.int .i64 U) rfl (by kernel_rfl) (by kernel_rfl) (by kernel_rfl) (fun _ _ _ h => h) rfl rfl ⟨hB, h8, h3⟩ (fun w' h' => exec_load_one 2 _ rfl bN (oN + i * 1) rfl (.int .i64 U) _ Try.underlying2 rfl (RdI.c1S (hN.keep h'.1) HUg.out)) ?_
              go_frame
              refine y_yield 10 (some 67) (.agg #[.int .i64 p, .int .i64 q1, .int .i64 q2, .int .i64 q3, .slice (some ⟨b9, o9, none⟩) N c9]) rfl (by kernel_rfl) (by kernel_rfl) (by kernel_rfl) (fun _ _ _ h => h) rfl rfl ⟨hB, h8, h3⟩ (fun w' h' => exec_load_all 29 _ rfl Wz30.heap.size rfl _ _ _ h'.2.1 Try.underlying29 rfl 5 (by kernel_rfl) rfl) ?_
              go_frame
              refine y_yield 11 (some 68) (.int .i64 i) rfl (by kernel_rfl) (by kernel_rfl) (by kernel_rfl) (fun _ _ _ h => h) rfl rfl ⟨hB, h8, h3⟩ (fun w' h' => exec_move _ rfl (.int .i64 i) rfl) ?_
              go_frame
              refine y_yield 12 (some 69) (.int .i64 j) rfl (by kernel_rfl) (by kernel_rfl) (by kernel_rfl) (fun _ _ _ h => h) rfl rfl ⟨hB, h8, h3⟩ (fun w' h' => exec_move _ rfl (.int .i64 j) rfl) ?_
              go_frame
              refine y_yield 13 (some 70) (.int .i64 k) rfl (by kernel_rfl) (by kernel_rfl) (by kernel_rfl) (fun _ _ _ h => h) rfl rfl ⟨hB, h8, h3⟩ (fun w' h' => exec_move _ rfl (.int .i64 k) rfl) ?_
              go_frame
              refine y_yield 17 (some 74) (.pointer (some ⟨w.heap.size, 0, none⟩)) rfl (by kernel_rfl) (by kernel_rfl) (by kernel_rfl) (fun _ _ _ h => h) rfl rfl ⟨hB, h8, h3⟩ (fun w' h' => exec_fieldAddr 29 _ 0 rfl _ (by kernel_rfl)) ?_
              go_frame
              refine y_yield 18 (some 75) (.int .i64 p) rfl (by kernel_rfl) (by kernel_rfl) (by kernel_rfl) (fun _ _ _ h => h) rfl rfl ⟨hB, h8, h3⟩ (fun w' h' => exec_load_one 2 _ rfl w.heap.size 0 rfl (.int .i64 p) _ Try.underlying2 rfl (h'.2.2.at_ 0)) ?_
              go_frame
              refine y_oper 14 (by kernel_rfl) rfl rfl (fun K' hK' => ?_)
              have lz53 := hB.size
              have lz54 := hB5.size
              have lz55 := h3.lt
              have lz56 := h8.lt
              have lz57 := hR.lt
              refine wp_call4 (some 71) rfl 37 _ _ _ _ _ rfl (fun args w => by kernel_rfl) _ _ _ _ rfl rfl rfl rfl _ (l05AtN_c p q1 q2 q3 (some ⟨b9, o9, none⟩) c9 N q4 i j k _ (hq4.keep hB5) HQl.out HN9.out ha9.2 hb9.2 hd9.2 hlt hj hlt2) (fun e Wz51 h => ?_)
              obtain ⟨rfl, bz52⟩ := h
              replace hB := below_after hB bz52
              replace hB5 := below_after hB5 bz52
              replace h3 := h3.after bz52
              replace h8 := h8.after bz52
              replace hu := hu.below bz52
              replace hR := hR.after bz52
              rw [HXg.out]
              clear bz52
              refine ⟨_, rfl, ?_⟩
              refine hK' _ _ ⟨hB, h8, h3⟩ (fun _ => hR) ?_
              clear hK' K'
              go_frame
              refine y_yield 15 (some 72) (.int .i64 M) rfl (by kernel_rfl) (by kernel_rfl) (by kernel_rfl) (fun _ _ _ h => h) rfl rfl ⟨hB, h8, h3⟩ (fun w' h' => exec_mul _ _ _ _ rfl U X M rfl rfl HM.out) ?_
              go_frame
              refine y_yield 16 (some 73) (.int .i64 Z) rfl (by kernel_rfl) (by kernel_rfl) (by kernel_rfl) (fun _ _ _ h => h) rfl rfl ⟨hB, h8, h3⟩ (fun w' h' => exec_add _ _ _ _ rfl Y M Z rfl rfl HSum.out) ?_
              go_frame
              refine y_yield 19 (some 76) (.int .i64 R) rfl (by kernel_rfl) (by kernel_rfl) (by kernel_rfl) (fun _ _ _ h => h) rfl rfl ⟨hB, h8, h3⟩ (fun w' h' => exec_rem _ _ _ _ rfl Z p R rfl rfl (by omega) HRem.out) ?_
              go_frame
              refine y_yield 20 (some 77) (.pointer (some ⟨we.heap.size, k * 1, none⟩)) rfl (by kernel_rfl) (by kernel_rfl) (by kernel_rfl) (fun _ _ _ h => h) rfl rfl ⟨hB, h8, h3⟩ (fun w' h' => exec_ix0 _ 2 _ _ rfl we.heap.size q3 q3 k 1 rfl rfl Try.underlying22 (by kernel_rfl) (by omega)) ?_
              go_frame
              refine y_oper 21 (by kernel_rfl) rfl rfl (fun K' hK' => ?_)
              have lz60 := hB.size
              have lz61 := hB5.size
              have lz62 := h3.lt
              have lz63 := h8.lt
              have lz64 := hR.lt
              refine wp_store_one 2 _ _ rfl rfl we.heap.size (k * 1) rfl (.int .i64 R) rfl rfl rfl _ _ hR (by kernel_rfl) (by rw [iar_size, HLen.out]; omega) (fun Wz58 pz59 => ?_)
              replace hB := pz59.below hB (by omega)
              replace hB5 := pz59.below hB5 (by omega)
              replace h3 := pz59.other h3 (by omega)
              replace h8 := pz59.other h8 (by omega)
              replace hu := hu.put pz59 (Nat.le_refl _)
              replace hR : At Wz58 we.heap.size (.cells (iar (ctP p ls q4 q1 q2 q3 j k (i + 1))) 2 (0, 0)) := by have h9 := pz59.at_; rwa [Nat.mul_one, iar_set, HSet.out] at h9
              refine hK' _ _ ⟨hB, h8, h3⟩ (fun h => absurd (by decide) h) ?_
              clear hK' K' pz59
              refine y_done (by kernel_rfl) ?_ _
              go_upto_region 15 with (fail)
              refine wp_region_lit ?_
              refine ls_ex (some 55) (.int .i64 i) rfl rfl (exec_move _ rfl (.int .i64 i) rfl) ?_
              go_frame
              refine ls_ex (some 56) (.int .i64 (i + 1)) rfl rfl (exec_add _ _ _ _ rfl i 1 (i + 1) rfl rfl (IntWalk.i64_in _ (by omega))) ?_
              go_frame
              refine ls_ex (some 13) (.int .i64 (i + 1)) rfl rfl (exec_assign _ rfl (.int .i64 (i + 1)) rfl) ?_
              go_frame
              refine wpList_nil ?_
              go_wp2_with fail
              go_roundw
              case rel => exact ⟨i + 1, by omega, by go_num, hB, hB5, h3, h8, hu, hR⟩
              case measure => simp [intOf] <;> omega
            · have hia : i = q1 := by omega
              go_upto_region 14 with (fail)
              refine wp_region_lit ?_
              refine ls_ex (some 51) (.int .i64 i) rfl rfl (exec_move _ rfl (.int .i64 i) rfl) ?_
              go_frame
              refine ls_ex (some 52) (.pointer (some ⟨Wz30.heap.size, 1, none⟩)) rfl rfl (exec_fieldAddr 29 _ 1 rfl _ (by kernel_rfl)) ?_
              go_frame
              refine ls_ex (some 53) (.int .i64 q1) rfl rfl (exec_load_one 2 _ rfl Wz30.heap.size 1 rfl (.int .i64 q1) _ Try.underlying2 rfl (h8.at_ 1)) ?_
              go_frame
              refine ls_ex (some 54) (.bool false) rfl rfl (exec_lss _ _ _ _ rfl i q1 rfl rfl false (decide_eq_false (by omega))) ?_
              go_frame
              refine wpList_nil ?_
              go_upto_region 12 with (fail)
              refine wp_region_lit ?_
              refine ls_ex (some 49) (.int .i64 k) rfl rfl (exec_move _ rfl (.int .i64 k) rfl) ?_
              go_frame
              refine ls_ex (some 50) (.int .i64 (k + 1)) rfl rfl (exec_add _ _ _ _ rfl k 1 (k + 1) rfl rfl (IntWalk.i64_in _ (by omega))) ?_
              go_frame
              refine ls_ex (some 12) (.int .i64 (k + 1)) rfl rfl (exec_assign _ rfl (.int .i64 (k + 1)) rfl) ?_
              go_frame
              refine wpList_nil ?_
              go_wp2_with fail
              go_roundw
              case rel => exact ⟨k + 1, by omega, by go_num, hB, hB5, h3, h8, hu, by have h9 := hR; rw [hia, ctP_next] at h9; exact h9⟩
              case measure => simp [intOf] <;> omega
        · obtain ⟨wk, rfl⟩ : ∃ x : World, x = wr := ⟨_, rfl⟩
          rw [show k = q3 by omega, ctP_all] at hR
          rw [show ctR p ls q4 q1 q2 q3 j = RW j by rw [HRW.out]] at hR
          go_upto_region 11 with (fail)
          refine wp_region_lit ?_
          refine ls_ex (some 45) (.int .i64 k) rfl rfl (exec_move _ rfl (.int .i64 k) rfl) ?_
          go_frame
          refine ls_ex (some 46) (.pointer (some ⟨Wz30.heap.size, 3, none⟩)) rfl rfl (exec_fieldAddr 29 _ 3 rfl _ (by kernel_rfl)) ?_
          go_frame
          refine ls_ex (some 47) (.int .i64 q3) rfl rfl (exec_load_one 2 _ rfl Wz30.heap.size 3 rfl (.int .i64 q3) _ Try.underlying2 rfl (h8.at_ 3)) ?_
          go_frame
          refine ls_ex (some 48) (.bool false) rfl rfl (exec_lss _ _ _ _ rfl k q3 rfl rfl false (decide_eq_false (by omega))) ?_
          go_frame
          refine wpList_nil ?_
          go_upto_region 17 with (fail)
          refine wp_region_lit ?_
          refine ls_ex (some 78) (v) rfl rfl (exec_move _ rfl (v) rfl) ?_
          go_frame
          refine ls_ex (some 79) (.slice (some ⟨we.heap.size, 0, none⟩) q3 q3) rfl rfl (exec_move _ rfl (.slice (some ⟨we.heap.size, 0, none⟩) q3 q3) rfl) ?_
          go_frame
          refine ls_op rfl (fun K' hK' => ?_)
          have lz65 := hB.size
          have lz66 := hB5.size
          have lz67 := h3.lt
          have lz68 := h8.lt
          have lz69 := hR.lt
          have naz74 := hu.away_new
          refine wp_new (some 80) rfl (exec_bsM1 _ rfl ((some ⟨we.heap.size, 0, none⟩)) q3 q3 rfl) (fun Wz70 nnz71 => ?_)
          have bz72 := nnz71.below (Below.refl _ _) (Nat.le_refl _)
          replace hB := below_after hB bz72
          replace hB5 := below_after hB5 bz72
          replace h3 := h3.after bz72
          replace h8 := h8.after bz72
          replace hu := hu.below bz72
          replace hR := hR.after bz72
          have hz73 : At Wz70 wk.heap.size (.cells #[.slice (some ⟨we.heap.size, 0, none⟩) q3 q3] 22 (0, 0)) := nnz71.at_
          refine hK' _ _ ?_
          clear hK' K' nnz71 bz72
          go_frame
          refine ls_op rfl (fun K' hK' => ?_)
          have lz78 := hB.size
          have lz79 := hB5.size
          have lz80 := h3.lt
          have lz81 := h8.lt
          have lz82 := hR.lt
          have lz83 := hz73.lt
          have hz9 := hu.hiLe
          refine wp_appV (some 81) rfl _ _ rfl v j RW rfl hu we.heap.size q3 q3 (iar (RW j)) hR (by have := hB5.size; omega) (by rw [← HRW.out]; exact ctR_len _ _ _ _ _ _ _) (fun t9 X9 hX9 => iar_at hX9) wk.heap.size rfl hz73 (by omega) (by have := hB5.size; omega) (fun v8 Wz75 noz77 grz76 => ?_)
          replace hB := hu.belowG hB grz76 (by omega)
          replace hB5 := hu.belowG hB5 grz76 (Nat.le_refl _)
          replace h3 := h3.grown grz76 (hu.off h3 (by decide))
          replace h8 := h8.grown grz76 (hu.off h8 (by decide))
          replace hu := noz77
          refine hK' _ _ ?_
          clear hK' K' grz76 hz73 hR hz9
          go_frame
          refine ls_ex (some 9) (v8) rfl rfl (exec_assign _ rfl (v8) rfl) ?_
          go_frame
          refine wpList_nil ?_
          go_upto_region 8 with (fail)
          refine wp_region_lit ?_
          refine ls_ex (some 40) (.int .i64 j) rfl rfl (exec_move _ rfl (.int .i64 j) rfl) ?_
          go_frame
          refine ls_ex (some 41) (.int .i64 (j + 1)) rfl rfl (exec_add _ _ _ _ rfl j 1 (j + 1) rfl rfl (IntWalk.i64_in _ (by omega))) ?_
          go_frame
          refine ls_ex (some 10) (.int .i64 (j + 1)) rfl rfl (exec_assign _ rfl (.int .i64 (j + 1)) rfl) ?_
          go_frame
          refine wpList_nil ?_
          go_wp2_with fail
          go_roundw
          case rel => exact ⟨j + 1, v8, _, by omega, rfl, by go_num, hB, hB5, h3, h8, hu⟩
          case measure => simp [intOf] <;> omega
    · have hjb : j = q2 := by omega
      go_upto_region 7 with (fail)
      refine wp_region_lit ?_
      refine ls_ex (some 36) (.int .i64 j) rfl rfl (exec_move _ rfl (.int .i64 j) rfl) ?_
      go_frame
      refine ls_ex (some 37) (.pointer (some ⟨Wz30.heap.size, 2, none⟩)) rfl rfl (exec_fieldAddr 29 _ 2 rfl _ (by kernel_rfl)) ?_
      go_frame
      refine ls_ex (some 38) (.int .i64 q2) rfl rfl (exec_load_one 2 _ rfl Wz30.heap.size 2 rfl (.int .i64 q2) _ Try.underlying2 rfl (h8.at_ 2)) ?_
      go_frame
      refine ls_ex (some 39) (.bool false) rfl rfl (exec_lss _ _ _ _ rfl j q2 rfl rfl false (decide_eq_false (by omega))) ?_
      go_frame
      refine wpList_nil ?_
      go_upto_region 18 with (fail)
      refine wp_region_lit ?_
      refine ls_ex (some 82) (v) rfl rfl (exec_move _ rfl (v) rfl) ?_
      go_frame
      refine ls_ex (some 6) (v) rfl rfl (exec_assign _ rfl (v) rfl) ?_
      go_frame
      refine ls_ex (some 7) (.int .i64 0) rfl rfl (exec_assign _ rfl (.int .i64 0) rfl) ?_
      go_frame
      refine wpList_nil ?_
      go_wp2_with fail
      go_ret2
      rw [HN.out, HF.out]
      exact ⟨v, by rw [HC.out]; rfl, by rw [← hjb]; exact hu.ownV.mono (by omega) (Nat.le_refl _), hB⟩
set_option maxHeartbeats 4000000 in
theorem specCt_y1 (p : Int) (a b d : Nat) (bB oB c0 N : Nat) (xs : List Int) (bN oN cN NS : Nat) (ls : List Int) (w : World) (hX : RdI w (some ⟨bB, oB, none⟩) xs) (hxl : xs.length = N) (hs : tenB p a b d xs = true) (hN : RdI w (some ⟨bN, oN, none⟩) ls) (hLl : ls.length = NS) (hc0 : N ≤ c0) (hT : listB p NS ls = true) (hD : b = NS) :
    Calls Try.prog 15 #[.agg #[.int .i64 p, .int .i64 a, .int .i64 b, .int .i64 d, .slice (some ⟨bB, oB, none⟩) N c0], .int .i64 1, .slice (some ⟨bN, oN, none⟩) NS cN] w (ResV w (cnN p a b d 1 ls xs) (cnF p a b d 1 ls xs) (cnCode p a b d 1 ls xs)) := by
  have hB := Below.refl w.heap.size w
  subst hD
  have h0 : ctOK p a b d 1 ls xs = true := by unfold ctOK; rw [hs]; simp [hT]; rfl
  obtain ⟨q1, q2, q3, q4, hq⟩ : ∃ q1 q2 q3 q4, trn p 1 (a, b, d, xs) = (q1, q2, q3, q4) := ⟨_, _, _, _, rfl⟩
  obtain ⟨RW, hRW⟩ : ∃ z9, ctR p ls q4 q1 q2 q3 = z9 := ⟨_, rfl⟩
  have hsq : slQ p a b d 1 xs = (q1, q2, q3, q4) := by rw [← hq]; rfl
  have HN : Hid (cnN p a b d 1 ls xs = q2) := Lib.hid (by unfold cnN; rw [h0, hsq]; rfl)
  have HF : Hid (cnF p a b d 1 ls xs = RW) := Lib.hid (by unfold cnF cnG; rw [hsq]; exact hRW)
  have HC : Hid (cnCode p a b d 1 ls xs = 0) := Lib.hid (by unfold cnCode; rw [hs, h0]; rfl)
  have HS3 : Hid (inB 1 3 = true) := Lib.hid rfl
  have HT3 := Lib.hid hT
  have HQ := Lib.hid hq
  have HRW := Lib.hid hRW
  have HLl := Lib.hid hLl
  have HMb := Lib.hid (listB_parts hT).2
  have HS1 : Hid (q1 = b) := Lib.hid (by have h9 := congrArg (·.1) hq; exact h9.symm)
  have Hs := Lib.hid hs
  have HXl := Lib.hid hxl
  have hpp := prime_le5 (ten_parts hs).1
  have hdm := (ten_parts hs).2
  have ha0 := hdm.1
  have hb0 := hdm.2.1
  have hd0 := hdm.2.2.1
  have hNb : N ≤ 729 := by rw [← hxl, hdm.2.2.2.1]; exact Nat.le_trans (Nat.mul_le_mul (Nat.mul_le_mul hdm.1.2 hdm.2.1.2) hdm.2.2.1.2) (by decide)
  clear hs hxl hdm hT h0 hq hsq hRW hLl
  go_enter Try.func15, Try.ntmps15
  go_upto_region 0 with (fail)
  refine wp_region_lit ?_
  refine ls_op rfl (fun K' hK' => ?_)
  have lz1 := hB.size
  refine wp_new (some 3) rfl (exec_box 29 _ rfl (#[.int .i64 p, .int .i64 a, .int .i64 b, .int .i64 d, .slice (some ⟨bB, oB, none⟩) N c0]) rfl) (fun Wz2 nnz3 => ?_)
  have bz4 := nnz3.below (Below.refl _ _) (Nat.le_refl _)
  replace hB := below_after hB bz4
  have hz5 : At Wz2 w.heap.size (.cells #[.int .i64 p, .int .i64 a, .int .i64 b, .int .i64 d, .slice (some ⟨bB, oB, none⟩) N c0] 29 (0, 0)) := nnz3.at_
  refine hK' _ _ ?_
  clear hK' K' nnz3 bz4
  go_frame
  refine ls_ex (some 6) (.slice none 0 0) rfl rfl (exec_assign _ rfl (.slice none 0 0) rfl) ?_
  go_frame
  refine ls_ex (some 7) (.int .i64 0) rfl rfl (exec_assign _ rfl (.int .i64 0) rfl) ?_
  go_frame
  refine wpList_nil ?_
  go_upto_region 1 with (fail)
  refine wp_region_lit ?_
  refine ls_ex (some 15) (.agg #[.int .i64 p, .int .i64 a, .int .i64 b, .int .i64 d, .slice (some ⟨bB, oB, none⟩) N c0]) rfl rfl (exec_load_all 29 _ rfl w.heap.size rfl _ _ _ hz5 Try.underlying29 rfl 5 (by kernel_rfl) rfl) ?_
  go_frame
  refine ls_op rfl (fun K' hK' => ?_)
  have lz8 := hB.size
  have lz9 := hz5.lt
  refine wp_call1 (some 16) rfl 25 _ _ rfl (fun args w => by kernel_rfl) _ rfl _ (l05IsN_c p a b d (some ⟨bB, oB, none⟩) N c0 xs _ HXl.out (hX.keep hB) (by omega)) (fun e Wz6 h => ?_)
  obtain ⟨rfl, bz7⟩ := h
  replace hB := below_after hB bz7
  replace hz5 := hz5.after bz7
  rw [Hs.out]
  clear bz7
  refine ⟨_, rfl, ?_⟩
  refine hK' _ _ ?_
  clear hK' K'
  go_frame
  refine ls_ex (some 17) (.bool false) rfl rfl (exec_not _ _ rfl true rfl) ?_
  go_frame
  refine ls_ex (some 14) (.bool false) rfl rfl (exec_assign _ rfl (.bool false) rfl) ?_
  go_frame
  refine wpList_nil ?_
  go_upto_region 3 with (fail)
  refine wp_region_y (zs := []) (S := fun w' => Below w.heap.size w w' ∧ At w' w.heap.size (.cells #[.int .i64 p, .int .i64 a, .int .i64 b, .int .i64 d, .slice (some ⟨bB, oB, none⟩) N c0] 29 (0, 0))) (S2 := fun w' => True) (by kernel_rfl) ?_
  change wpAnyY _ _ _ _ _ _ _ _ _ _ (World.drew _)
  generalize hwdz10 : World.drew _ = wdz10
  replace hB : Below w.heap.size w wdz10 := by rw [← hwdz10]; exact hB.drew
  replace hz5 : At wdz10 w.heap.size (.cells #[.int .i64 p, .int .i64 a, .int .i64 b, .int .i64 d, .slice (some ⟨bB, oB, none⟩) N c0] 29 (0, 0)) := by rw [← hwdz10]; exact hz5
  clear hwdz10
  refine y_yield 0 (some 19) (.int .i64 1) rfl (by kernel_rfl) (by kernel_rfl) (by kernel_rfl) (fun _ _ _ h => h) rfl rfl ⟨hB, hz5⟩ (fun w' h' => exec_move _ rfl (.int .i64 1) rfl) ?_
  go_frame
  refine y_oper 1 (by kernel_rfl) rfl rfl (fun K' hK' => ?_)
  have lz13 := hB.size
  have lz14 := hz5.lt
  refine wp_call3 (some 20) rfl 26 _ _ _ _ rfl (fun args w => by kernel_rfl) _ _ _ rfl rfl rfl _ (l01In_idx 1 3 2 rfl _) (fun e Wz11 h => ?_)
  obtain ⟨rfl, rfl⟩ := h
  rw [HS3.out]
  refine ⟨_, rfl, ?_⟩
  refine hK' _ _ ⟨hB, hz5⟩ (fun _ => trivial) ?_
  clear hK' K'
  go_frame
  refine y_yield 2 (some 21) (.bool false) rfl (by kernel_rfl) (by kernel_rfl) (by kernel_rfl) (fun _ _ _ h => h) rfl rfl ⟨hB, hz5⟩ (fun w' h' => exec_not _ _ rfl true rfl) ?_
  go_frame
  refine y_yield 3 (some 22) (.bool false) rfl (by kernel_rfl) (by kernel_rfl) (by kernel_rfl) (fun _ _ _ h => h) rfl rfl ⟨hB, hz5⟩ (fun w' h' => exec_move _ rfl (.bool false) rfl) ?_
  go_frame
  refine y_yield 4 (some 23) (.pointer (some ⟨w.heap.size, 0, none⟩)) rfl (by kernel_rfl) (by kernel_rfl) (by kernel_rfl) (fun _ _ _ h => h) rfl rfl ⟨hB, hz5⟩ (fun w' h' => exec_fieldAddr 29 _ 0 rfl _ (by kernel_rfl)) ?_
  go_frame
  refine y_yield 5 (some 24) (.int .i64 p) rfl (by kernel_rfl) (by kernel_rfl) (by kernel_rfl) (fun _ _ _ h => h) rfl rfl ⟨hB, hz5⟩ (fun w' h' => exec_load_one 2 _ rfl w.heap.size 0 rfl (.int .i64 p) _ Try.underlying2 rfl (h'.2.at_ 0)) ?_
  go_frame
  refine y_yield 6 (some 25) (.slice (some ⟨bN, oN, none⟩) b cN) rfl (by kernel_rfl) (by kernel_rfl) (by kernel_rfl) (fun _ _ _ h => h) rfl rfl ⟨hB, hz5⟩ (fun w' h' => exec_move _ rfl (.slice (some ⟨bN, oN, none⟩) b cN) rfl) ?_
  go_frame
  refine y_yield 7 (some 26) (.agg #[.int .i64 p, .int .i64 a, .int .i64 b, .int .i64 d, .slice (some ⟨bB, oB, none⟩) N c0]) rfl (by kernel_rfl) (by kernel_rfl) (by kernel_rfl) (fun _ _ _ h => h) rfl rfl ⟨hB, hz5⟩ (fun w' h' => exec_load_all 29 _ rfl w.heap.size rfl _ _ _ h'.2 Try.underlying29 rfl 5 (by kernel_rfl) rfl) ?_
  go_frame
  refine y_yield 8 (some 27) (.int .i64 1) rfl (by kernel_rfl) (by kernel_rfl) (by kernel_rfl) (fun _ _ _ h => h) rfl rfl ⟨hB, hz5⟩ (fun w' h' => exec_move _ rfl (.int .i64 1) rfl) ?_
  go_frame
  refine y_oper 9 (by kernel_rfl) rfl rfl (fun K' hK' => ?_)
  have lz17 := hB.size
  have lz18 := hz5.lt
  refine wp_call2 (some 28) rfl 27 _ _ _ rfl (fun args w => by kernel_rfl) _ _ rfl rfl _ (l05Side1_c p a b d _ _) (fun e Wz15 h => ?_)
  obtain ⟨rfl, bz16⟩ := h
  replace hB := below_after hB bz16
  replace hz5 := hz5.after bz16
  clear bz16
  refine ⟨_, rfl, ?_⟩
  refine hK' _ _ ⟨hB, hz5⟩ (fun _ => trivial) ?_
  clear hK' K'
  go_frame
  refine y_oper 10 (by kernel_rfl) rfl rfl (fun K' hK' => ?_)
  have lz21 := hB.size
  have lz22 := hz5.lt
  refine wp_call3 (some 29) rfl 36 _ _ _ _ rfl (fun args w => by kernel_rfl) _ _ _ rfl rfl rfl _ (l05NumbersM_c p b (some ⟨bN, oN, none⟩) cN ls _ (by omega) (hN.keep hB) HLl.out (by omega)) (fun e Wz19 h => ?_)
  obtain ⟨rfl, bz20⟩ := h
  replace hB := below_after hB bz20
  replace hz5 := hz5.after bz20
  rw [HT3.out]
  clear bz20
  refine ⟨_, rfl, ?_⟩
  refine hK' _ _ ⟨hB, hz5⟩ (fun _ => trivial) ?_
  clear hK' K'
  go_frame
  refine y_yield 11 (some 30) (.bool false) rfl (by kernel_rfl) (by kernel_rfl) (by kernel_rfl) (fun _ _ _ h => h) rfl rfl ⟨hB, hz5⟩ (fun w' h' => exec_not _ _ rfl true rfl) ?_
  go_frame
  refine y_yield 12 (some 31) (.bool false) rfl (by kernel_rfl) (by kernel_rfl) (by kernel_rfl) (fun _ _ _ h => h) rfl rfl ⟨hB, hz5⟩ (fun w' h' => exec_pick _ _ _ rfl false rfl (.bool false) rfl) ?_
  go_frame
  refine y_oper 13 (by kernel_rfl) rfl rfl (fun K' hK' => ?_)
  refine wp_exec (some 18) rfl (.bool false) (exec_assign _ rfl (.bool false) rfl) ?_
  refine hK' _ _ ⟨hB, hz5⟩ (fun _ => trivial) ?_
  clear hK' K'
  go_frame
  refine y_done (by kernel_rfl) ?_ _
  go_upto_region 5 with (fail)
  refine wp_region_lit ?_
  refine ls_ex (some 32) (.agg #[.int .i64 p, .int .i64 a, .int .i64 b, .int .i64 d, .slice (some ⟨bB, oB, none⟩) N c0]) rfl rfl (exec_load_all 29 _ rfl w.heap.size rfl _ _ _ hz5 Try.underlying29 rfl 5 (by kernel_rfl) rfl) ?_
  go_frame
  refine ls_ex (some 33) (.int .i64 1) rfl rfl (exec_move _ rfl (.int .i64 1) rfl) ?_
  go_frame
  refine ls_op rfl (fun K' hK' => ?_)
  have lz25 := hB.size
  have lz26 := hz5.lt
  refine wp_call2 (some 34) rfl 29 _ _ _ rfl (fun args w => by kernel_rfl) _ _ rfl rfl _ (l05Turned_q p a b d 1 bB oB c0 N xs 1 _ q1 q2 q3 q4 HQ.out rfl (hX.keep hB) HXl.out Hs.out (by omega) hc0) (fun e Wz23 h => ?_)
  obtain ⟨b9, o9, c9, rfl, hc9, hq5, hq6, hq4, bz24⟩ := h
  replace hB := below_after hB bz24
  replace hz5 := hz5.after bz24
  have h9q := (ten_parts hq6).2
  have ha9 : 1 ≤ q1 ∧ q1 ≤ 9 := h9q.1
  have hb9 : 1 ≤ q2 ∧ q2 ≤ 9 := h9q.2.1
  have hd9 : 1 ≤ q3 ∧ q3 ≤ 9 := h9q.2.2.1
  have HN9 : Hid (q1 * q2 * q3 = N) := Lib.hid (by rw [← hq5]; exact h9q.2.2.2.1.symm)
  have HNb := Lib.hid h9q.2.2.2.2
  have HQl := Lib.hid hq5
  have HQt := Lib.hid hq6
  clear h9q hq5 hq6
  have hB5 := Below.refl Wz23.heap.size Wz23
  have lo5 := hB.size
  clear bz24
  refine ⟨_, rfl, ?_⟩
  refine hK' _ _ ?_
  clear hK' K'
  go_frame
  refine ls_op rfl (fun K' hK' => ?_)
  have lz27 := hB.size
  have lz28 := hz5.lt
  have lz29 := hB5.size
  refine wp_new (some 35) rfl (exec_bs0M rfl) (fun Wz30 nnz31 => ?_)
  have bz32 := nnz31.below (Below.refl _ _) (Nat.le_refl _)
  replace hB := below_after hB bz32
  replace hz5 := hz5.after bz32
  replace hB5 := below_after hB5 bz32
  have hk0 : At Wz30 Wz23.heap.size (.cells #[] 22 (0, 0)) := nnz31.at_
  refine hK' _ _ ?_
  clear hK' K' nnz31 bz32
  go_frame
  refine ls_op rfl (fun K' hK' => ?_)
  have lz33 := hB.size
  have lz34 := hz5.lt
  have lz35 := hB5.size
  have lz36 := hk0.lt
  refine wp_new (some 8) rfl (alCu_impl_Tensor rfl) (fun Wz37 nnz38 => ?_)
  have bz39 := nnz38.below (Below.refl _ _) (Nat.le_refl _)
  replace hB := below_after hB bz39
  replace hz5 := hz5.after bz39
  replace hB5 := below_after hB5 bz39
  replace hk0 := hk0.after bz39
  have hz40 : At Wz37 Wz30.heap.size (.cells #[.int .i64 0, .int .i64 0, .int .i64 0, .int .i64 0, .slice none 0 0] 29 (0, 0)) := nnz38.at_
  refine hK' _ _ ?_
  clear hK' K' nnz38 bz39
  go_frame
  refine ls_op rfl (fun K' hK' => ?_)
  refine wp_store_all 29 _ _ rfl rfl Wz30.heap.size rfl #[.int .i64 p, .int .i64 q1, .int .i64 q2, .int .i64 q3, .slice (some ⟨b9, o9, none⟩) N c9] rfl _ _ hz40 5 (by kernel_rfl) rfl rfl (one5 _ _ _ _ _ _ _) (fun Wz41 pz42 => ?_)
  replace hB := pz42.below hB (by omega)
  replace hz5 := pz42.other hz5 (by omega)
  replace hB5 := pz42.below hB5 (by omega)
  replace hk0 := pz42.other hk0 (by omega)
  replace hz40 : At Wz41 Wz30.heap.size (.cells #[.int .i64 p, .int .i64 q1, .int .i64 q2, .int .i64 q3, .slice (some ⟨b9, o9, none⟩) N c9] 29 (0, 0)) := pz42.at_
  refine hK' _ _ ?_
  clear hK' K' pz42
  refine ls_ex (some 9) (.slice (some ⟨Wz23.heap.size, 0, none⟩) 0 0) rfl rfl (exec_assign _ rfl (.slice (some ⟨Wz23.heap.size, 0, none⟩) 0 0) rfl) ?_
  go_frame
  refine wpList_nil ?_
  go_upto_region 6 with (fail)
  refine wp_region_lit ?_
  refine ls_ex (some 10) (.int .i64 0) rfl rfl (exec_assign _ rfl (.int .i64 0) rfl) ?_
  go_frame
  refine wpList_nil ?_
  go_wp2_with fail
  go_loopw [9, 10, 11, 12, 13] (fun s9 s10 s11 s12 s13 wr => ∃ (j : Nat) (v : Value) (z8 : Nat), j ≤ q2 ∧ v = s9 ∧ s10 = .int .i64 j ∧ Below w.heap.size w wr ∧ Below Wz23.heap.size Wz23 wr ∧ At wr w.heap.size (.cells #[.int .i64 p, .int .i64 a, .int .i64 b, .int .i64 d, .slice (some ⟨bB, oB, none⟩) N c0] 29 (0, 0)) ∧ At wr Wz30.heap.size (.cells #[.int .i64 p, .int .i64 q1, .int .i64 q2, .int .i64 q3, .slice (some ⟨b9, o9, none⟩) N c9] 29 (0, 0)) ∧ OutV wr Wz23.heap.size z8 v j RW) (fun _ s10 _ _ _ _ => q2 - (intOf s10).toNat)
  case atStart => exact ⟨0, _, _, by omega, rfl, rfl, hB, hB5, hz5, hz40, OutV.nil hk0 (by omega) _⟩
  case round =>
    clear hB hz5 hB5 hk0 hz40
    obtain ⟨j, v, z8, hle, rfl, rfl, hB, hB5, h3, h8, hu⟩ := hrel
    by_cases hlt : j < q2
    · have hj : j < q2 := hlt
      obtain ⟨we, rfl⟩ : ∃ x : World, x = wr := ⟨_, rfl⟩
      go_upto_region 7 with (fail)
      refine wp_region_lit ?_
      refine ls_ex (some 36) (.int .i64 j) rfl rfl (exec_move _ rfl (.int .i64 j) rfl) ?_
      go_frame
      refine ls_ex (some 37) (.pointer (some ⟨Wz30.heap.size, 2, none⟩)) rfl rfl (exec_fieldAddr 29 _ 2 rfl _ (by kernel_rfl)) ?_
      go_frame
      refine ls_ex (some 38) (.int .i64 q2) rfl rfl (exec_load_one 2 _ rfl Wz30.heap.size 2 rfl (.int .i64 q2) _ Try.underlying2 rfl (h8.at_ 2)) ?_
      go_frame
      refine ls_ex (some 39) (.bool true) rfl rfl (exec_lss _ _ _ _ rfl j q2 rfl rfl true (decide_eq_true (by omega))) ?_
      go_frame
      refine wpList_nil ?_
      go_upto_region 9 with (fail)
      refine wp_region_lit ?_
      refine ls_ex (some 42) (.pointer (some ⟨Wz30.heap.size, 3, none⟩)) rfl rfl (exec_fieldAddr 29 _ 3 rfl _ (by kernel_rfl)) ?_
      go_frame
      refine ls_ex (some 43) (.int .i64 q3) rfl rfl (exec_load_one 2 _ rfl Wz30.heap.size 3 rfl (.int .i64 q3) _ Try.underlying2 rfl (h8.at_ 3)) ?_
      go_frame
      refine ls_op rfl (fun K' hK' => ?_)
      have lz43 := hB.size
      have lz44 := hB5.size
      have lz45 := h3.lt
      have lz46 := h8.lt
      replace hu := hu.raise
      refine wp_make_Iz (some 44) rfl _ _ rfl q3 rfl rfl (by omega) (fun Wz47 nnz48 => ?_)
      have bz49 := nnz48.below (Below.refl _ _) (Nat.le_refl _)
      replace hB := below_after hB bz49
      replace hB5 := below_after hB5 bz49
      replace h3 := h3.after bz49
      replace h8 := h8.after bz49
      replace hu := hu.below bz49
      have hR : At Wz47 we.heap.size (.cells (iar (List.replicate q3 0)) 2 (0, 0)) := nnz48.at_
      refine hK' _ _ ?_
      clear hK' K' nnz48 bz49
      go_frame
      refine ls_ex (some 11) (.slice (some ⟨we.heap.size, 0, none⟩) q3 q3) rfl rfl (exec_assign _ rfl (.slice (some ⟨we.heap.size, 0, none⟩) q3 q3) rfl) ?_
      go_frame
      refine wpList_nil ?_
      go_upto_region 10 with (fail)
      refine wp_region_lit ?_
      refine ls_ex (some 12) (.int .i64 0) rfl rfl (exec_assign _ rfl (.int .i64 0) rfl) ?_
      go_frame
      refine wpList_nil ?_
      go_wp2_with fail
      go_loopw [12, 13] (fun s12 s13 wr => ∃ k : Nat, k ≤ q3 ∧ s12 = .int .i64 k ∧ Below w.heap.size w wr ∧ Below Wz23.heap.size Wz23 wr ∧ At wr w.heap.size (.cells #[.int .i64 p, .int .i64 a, .int .i64 b, .int .i64 d, .slice (some ⟨bB, oB, none⟩) N c0] 29 (0, 0)) ∧ At wr Wz30.heap.size (.cells #[.int .i64 p, .int .i64 q1, .int .i64 q2, .int .i64 q3, .slice (some ⟨b9, o9, none⟩) N c9] 29 (0, 0)) ∧ OutV wr Wz23.heap.size we.heap.size v j RW ∧ At wr we.heap.size (.cells (iar (ctP p ls q4 q1 q2 q3 j k 0)) 2 (0, 0))) (fun s12 _ _ => q3 - (intOf s12).toNat)
      case atStart => exact ⟨0, by omega, rfl, hB, hB5, h3, h8, hu, by rw [ctP_zero]; exact hR⟩
      case round =>
        clear hB hB5 h3 h8 hu hR
        obtain ⟨k, hle2, rfl, hB, hB5, h3, h8, hu, hR⟩ := hrel
        by_cases hlt : k < q3
        · have hlt2 : k < q3 := hlt
          obtain ⟨wf, rfl⟩ : ∃ x : World, x = wr := ⟨_, rfl⟩
          go_upto_region 11 with (fail)
          refine wp_region_lit ?_
          refine ls_ex (some 45) (.int .i64 k) rfl rfl (exec_move _ rfl (.int .i64 k) rfl) ?_
          go_frame
          refine ls_ex (some 46) (.pointer (some ⟨Wz30.heap.size, 3, none⟩)) rfl rfl (exec_fieldAddr 29 _ 3 rfl _ (by kernel_rfl)) ?_
          go_frame
          refine ls_ex (some 47) (.int .i64 q3) rfl rfl (exec_load_one 2 _ rfl Wz30.heap.size 3 rfl (.int .i64 q3) _ Try.underlying2 rfl (h8.at_ 3)) ?_
          go_frame
          refine ls_ex (some 48) (.bool true) rfl rfl (exec_lss _ _ _ _ rfl k q3 rfl rfl true (decide_eq_true (by omega))) ?_
          go_frame
          refine wpList_nil ?_
          go_upto_region 13 with (fail)
          refine wp_region_lit ?_
          refine ls_ex (some 13) (.int .i64 0) rfl rfl (exec_assign _ rfl (.int .i64 0) rfl) ?_
          go_frame
          refine wpList_nil ?_
          go_wp2_with fail
          go_loopw [13] (fun s13 wr => ∃ i : Nat, i ≤ q1 ∧ s13 = .int .i64 i ∧ Below w.heap.size w wr ∧ Below Wz23.heap.size Wz23 wr ∧ At wr w.heap.size (.cells #[.int .i64 p, .int .i64 a, .int .i64 b, .int .i64 d, .slice (some ⟨bB, oB, none⟩) N c0] 29 (0, 0)) ∧ At wr Wz30.heap.size (.cells #[.int .i64 p, .int .i64 q1, .int .i64 q2, .int .i64 q3, .slice (some ⟨b9, o9, none⟩) N c9] 29 (0, 0)) ∧ OutV wr Wz23.heap.size we.heap.size v j RW ∧ At wr we.heap.size (.cells (iar (ctP p ls q4 q1 q2 q3 j k i)) 2 (0, 0))) (fun s13 _ => q1 - (intOf s13).toNat)
          case atStart => exact ⟨0, by omega, rfl, hB, hB5, h3, h8, hu, hR⟩
          case round =>
            clear hB hB5 h3 h8 hu hR
            obtain ⟨i, hle3, rfl, hB, hB5, h3, h8, hu, hR⟩ := hrel
            by_cases hlt : i < q1
            · obtain ⟨X, hX9⟩ : ∃ z9, nthI q4 ((((i : Nat) : Int) * q2 + (j : Nat)) * q3 + (k : Nat)) = z9 := ⟨_, rfl⟩
              obtain ⟨U, hU9⟩ : ∃ z9, ls[i]? = some z9 := ⟨_, List.getElem?_eq_getElem (by have := HLl.out; have := HS1.out; omega)⟩
              have hXb : 0 ≤ X ∧ X ≤ 4 := by have h9 := nth_in HNb.out (by omega) ((((i : Nat) : Int) * q2 + (j : Nat)) * q3 + (k : Nat)); rw [hX9] at h9; omega
              have hUb : 0 ≤ U ∧ U ≤ 4 := by have h9 := inB_of HMb.out hU9; omega
              obtain ⟨M, hM⟩ : ∃ z9, U * X = z9 := ⟨_, rfl⟩
              have hMb := m4c hUb hXb
              rw [hM] at hMb
              have HM : Hid (IntKind.i64.wrap (U * X) = M) := Lib.hid (by rw [hM]; exact IntWalk.i64_in _ (by omega))
              obtain ⟨Y, hY9⟩ : ∃ z9, ctS ls q4 q2 q3 j k i % p = z9 := ⟨_, rfl⟩
              have hYb : 0 ≤ Y ∧ Y ≤ 4 := by rw [← hY9]; have e1 := Int.emod_nonneg (ctS ls q4 q2 q3 j k i) (show p ≠ 0 by omega); have e2 := Int.emod_lt_of_pos (ctS ls q4 q2 q3 j k i) (show 0 < p by omega); omega
              obtain ⟨Z, hZ9⟩ : ∃ z9, Y + M = z9 := ⟨_, rfl⟩
              have HSum : Hid (IntKind.i64.wrap (Y + M) = Z) := Lib.hid (by rw [← hZ9]; exact IntWalk.i64_in _ (by omega))
              obtain ⟨R, hR9⟩ : ∃ z9, Z % p = z9 := ⟨_, rfl⟩
              have HRem : Hid (Z.tmod p = R) := Lib.hid (by rw [Int.tmod_eq_emod_of_nonneg (by omega)]; exact hR9)
              have HYg : Hid ((ctP p ls q4 q1 q2 q3 j k i)[k]? = some Y) := Lib.hid (by rw [← hY9]; exact ctP_at hlt2)
              have HSet : Hid ((ctP p ls q4 q1 q2 q3 j k i).set k R = ctP p ls q4 q1 q2 q3 j k (i + 1)) := Lib.hid (ctP_set (by rw [← hR9, ← hZ9, ← hY9, ← hM, ctS, hU9, Option.getD_some, hX9, Int.emod_add_emod]))
              have HLen := Lib.hid (ctP_len p ls q4 q1 q2 q3 j k i)
              have hlt9 : i < b := by have := HS1.out; omega
              have HXg := Lib.hid hX9
              have HUg := Lib.hid hU9
              clear hX9 hU9 hM hY9 hZ9 hR9
              go_upto_region 14 with (fail)
              refine wp_region_lit ?_
              refine ls_ex (some 51) (.int .i64 i) rfl rfl (exec_move _ rfl (.int .i64 i) rfl) ?_
              go_frame
              refine ls_ex (some 52) (.pointer (some ⟨Wz30.heap.size, 1, none⟩)) rfl rfl (exec_fieldAddr 29 _ 1 rfl _ (by kernel_rfl)) ?_
              go_frame
              refine ls_ex (some 53) (.int .i64 q1) rfl rfl (exec_load_one 2 _ rfl Wz30.heap.size 1 rfl (.int .i64 q1) _ Try.underlying2 rfl (h8.at_ 1)) ?_
              go_frame
              refine ls_ex (some 54) (.bool true) rfl rfl (exec_lss _ _ _ _ rfl i q1 rfl rfl true (decide_eq_true (by omega))) ?_
              go_frame
              refine wpList_nil ?_
              go_upto_region 16 with (fail)
              refine wp_region_y (zs := [21]) (S := fun w' => Below w.heap.size w w' ∧ At w' Wz30.heap.size (.cells #[.int .i64 p, .int .i64 q1, .int .i64 q2, .int .i64 q3, .slice (some ⟨b9, o9, none⟩) N c9] 29 (0, 0)) ∧ At w' w.heap.size (.cells #[.int .i64 p, .int .i64 a, .int .i64 b, .int .i64 d, .slice (some ⟨bB, oB, none⟩) N c0] 29 (0, 0))) (S2 := fun w' => At w' we.heap.size (.cells (iar (ctP p ls q4 q1 q2 q3 j k i)) 2 (0, 0))) (by kernel_rfl) ?_
              change wpAnyY _ _ _ _ _ _ _ _ _ _ (World.drew _)
              generalize hwdz50 : World.drew _ = wdz50
              replace hB : Below w.heap.size w wdz50 := by rw [← hwdz50]; exact hB.drew
              replace hB5 : Below Wz23.heap.size Wz23 wdz50 := by rw [← hwdz50]; exact hB5.drew
              replace h3 : At wdz50 w.heap.size (.cells #[.int .i64 p, .int .i64 a, .int .i64 b, .int .i64 d, .slice (some ⟨bB, oB, none⟩) N c0] 29 (0, 0)) := by rw [← hwdz50]; exact h3
              replace h8 : At wdz50 Wz30.heap.size (.cells #[.int .i64 p, .int .i64 q1, .int .i64 q2, .int .i64 q3, .slice (some ⟨b9, o9, none⟩) N c9] 29 (0, 0)) := by rw [← hwdz50]; exact h8
              replace hu : OutV wdz50 Wz23.heap.size we.heap.size v j RW := by rw [← hwdz50]; exact hu.drew
              replace hR : At wdz50 we.heap.size (.cells (iar (ctP p ls q4 q1 q2 q3 j k i)) 2 (0, 0)) := by rw [← hwdz50]; exact hR
              clear hwdz50
              refine y_yield 0 (some 57) (.slice (some ⟨we.heap.size, 0, none⟩) q3 q3) rfl (by kernel_rfl) (by kernel_rfl) (by kernel_rfl) (fun _ _ _ h => h) rfl rfl ⟨hB, h8, h3⟩ (fun w' h' => exec_move _ rfl (.slice (some ⟨we.heap.size, 0, none⟩) q3 q3) rfl) ?_
              go_frame
              refine y_yield 1 (some 58) (.int .i64 k) rfl (by kernel_rfl) (by kernel_rfl) (by kernel_rfl) (fun _ _ _ h => h) rfl rfl ⟨hB, h8, h3⟩ (fun w' h' => exec_move _ rfl (.int .i64 k) rfl) ?_
              go_frame
              refine y_yield 2 (some 59) (.slice (some ⟨we.heap.size, 0, none⟩) q3 q3) rfl (by kernel_rfl) (by kernel_rfl) (by kernel_rfl) (fun _ _ _ h => h) rfl rfl ⟨hB, h8, h3⟩ (fun w' h' => exec_move _ rfl (.slice (some ⟨we.heap.size, 0, none⟩) q3 q3) rfl) ?_
              go_frame
              refine y_yield 3 (some 60) (.int .i64 k) rfl (by kernel_rfl) (by kernel_rfl) (by kernel_rfl) (fun _ _ _ h => h) rfl rfl ⟨hB, h8, h3⟩ (fun w' h' => exec_move _ rfl (.int .i64 k) rfl) ?_
              go_frame
              refine y_yield 4 (some 61) (.pointer (some ⟨we.heap.size, k * 1, none⟩)) rfl (by kernel_rfl) (by kernel_rfl) (by kernel_rfl) (fun _ _ _ h => h) rfl rfl ⟨hB, h8, h3⟩ (fun w' h' => exec_ix0 _ 2 _ _ rfl we.heap.size q3 q3 k 1 rfl rfl Try.underlying22 (by kernel_rfl) (by omega)) ?_
              go_frame
              refine y_yield3 5 (some 62) (.int .i64 Y) rfl 22 (by kernel_rfl) (by kernel_rfl) (by kernel_rfl) (by kernel_rfl) (by kernel_rfl) (fun _ _ _ h => h) rfl rfl ⟨hB, h8, h3⟩ hR (fun w' h' h2' => exec_load_one 2 _ rfl we.heap.size (k * 1) rfl (.int .i64 Y) _ Try.underlying2 rfl (cell_iar h2' HYg.out)) ?_
              go_frame
              refine y_yield 6 (some 63) (.slice (some ⟨bN, oN, none⟩) b cN) rfl (by kernel_rfl) (by kernel_rfl) (by kernel_rfl) (fun _ _ _ h => h) rfl rfl ⟨hB, h8, h3⟩ (fun w' h' => exec_move _ rfl (.slice (some ⟨bN, oN, none⟩) b cN) rfl) ?_
              go_frame
              refine y_yield 7 (some 64) (.int .i64 i) rfl (by kernel_rfl) (by kernel_rfl) (by kernel_rfl) (fun _ _ _ h => h) rfl rfl ⟨hB, h8, h3⟩ (fun w' h' => exec_move _ rfl (.int .i64 i) rfl) ?_
              go_frame
              refine y_yield 8 (some 65) (.pointer (some ⟨bN, oN + i * 1, none⟩)) rfl (by kernel_rfl) (by kernel_rfl) (by kernel_rfl) (fun _ _ _ h => h) rfl rfl ⟨hB, h8, h3⟩ (fun w' h' => exec_index_slice _ 2 _ _ rfl bN oN b cN i 1 rfl rfl Try.underlying22 (by kernel_rfl) hlt9) ?_
              go_frame
              refine y_yield 9 (some 66) (.int .i64 U) rfl (by kernel_rfl) (by kernel_rfl) (by kernel_rfl) (fun _ _ _ h => h) rfl rfl ⟨hB, h8, h3⟩ (fun w' h' => exec_load_one 2 _ rfl bN (oN + i * 1) rfl (.int .i64 U) _ Try.underlying2 rfl (RdI.c1S (hN.keep h'.1) HUg.out)) ?_
              go_frame
              refine y_yield 10 (some 67) (.agg #[.int .i64 p, .int .i64 q1, .int .i64 q2, .int .i64 q3, .slice (some ⟨b9, o9, none⟩) N c9]) rfl (by kernel_rfl) (by kernel_rfl) (by kernel_rfl) (fun _ _ _ h => h) rfl rfl ⟨hB, h8, h3⟩ (fun w' h' => exec_load_all 29 _ rfl Wz30.heap.size rfl _ _ _ h'.2.1 Try.underlying29 rfl 5 (by kernel_rfl) rfl) ?_
              go_frame
              refine y_yield 11 (some 68) (.int .i64 i) rfl (by kernel_rfl) (by kernel_rfl) (by kernel_rfl) (fun _ _ _ h => h) rfl rfl ⟨hB, h8, h3⟩ (fun w' h' => exec_move _ rfl (.int .i64 i) rfl) ?_
              go_frame
              refine y_yield 12 (some 69) (.int .i64 j) rfl (by kernel_rfl) (by kernel_rfl) (by kernel_rfl) (fun _ _ _ h => h) rfl rfl ⟨hB, h8, h3⟩ (fun w' h' => exec_move _ rfl (.int .i64 j) rfl) ?_
              go_frame
              refine y_yield 13 (some 70) (.int .i64 k) rfl (by kernel_rfl) (by kernel_rfl) (by kernel_rfl) (fun _ _ _ h => h) rfl rfl ⟨hB, h8, h3⟩ (fun w' h' => exec_move _ rfl (.int .i64 k) rfl) ?_
              go_frame
              refine y_yield 17 (some 74) (.pointer (some ⟨w.heap.size, 0, none⟩)) rfl (by kernel_rfl) (by kernel_rfl) (by kernel_rfl) (fun _ _ _ h => h) rfl rfl ⟨hB, h8, h3⟩ (fun w' h' => exec_fieldAddr 29 _ 0 rfl _ (by kernel_rfl)) ?_
              go_frame
              refine y_yield 18 (some 75) (.int .i64 p) rfl (by kernel_rfl) (by kernel_rfl) (by kernel_rfl) (fun _ _ _ h => h) rfl rfl ⟨hB, h8, h3⟩ (fun w' h' => exec_load_one 2 _ rfl w.heap.size 0 rfl (.int .i64 p) _ Try.underlying2 rfl (h'.2.2.at_ 0)) ?_
              go_frame
              refine y_oper 14 (by kernel_rfl) rfl rfl (fun K' hK' => ?_)
              have lz53 := hB.size
              have lz54 := hB5.size
              have lz55 := h3.lt
              have lz56 := h8.lt
              have lz57 := hR.lt
              refine wp_call4 (some 71) rfl 37 _ _ _ _ _ rfl (fun args w => by kernel_rfl) _ _ _ _ rfl rfl rfl rfl _ (l05AtN_c p q1 q2 q3 (some ⟨b9, o9, none⟩) c9 N q4 i j k _ (hq4.keep hB5) HQl.out HN9.out ha9.2 hb9.2 hd9.2 hlt hj hlt2) (fun e Wz51 h => ?_)
              obtain ⟨rfl, bz52⟩ := h
              replace hB := below_after hB bz52
              replace hB5 := below_after hB5 bz52
              replace h3 := h3.after bz52
              replace h8 := h8.after bz52
              replace hu := hu.below bz52
              replace hR := hR.after bz52
              rw [HXg.out]
              clear bz52
              refine ⟨_, rfl, ?_⟩
              refine hK' _ _ ⟨hB, h8, h3⟩ (fun _ => hR) ?_
              clear hK' K'
              go_frame
              refine y_yield 15 (some 72) (.int .i64 M) rfl (by kernel_rfl) (by kernel_rfl) (by kernel_rfl) (fun _ _ _ h => h) rfl rfl ⟨hB, h8, h3⟩ (fun w' h' => exec_mul _ _ _ _ rfl U X M rfl rfl HM.out) ?_
              go_frame
              refine y_yield 16 (some 73) (.int .i64 Z) rfl (by kernel_rfl) (by kernel_rfl) (by kernel_rfl) (fun _ _ _ h => h) rfl rfl ⟨hB, h8, h3⟩ (fun w' h' => exec_add _ _ _ _ rfl Y M Z rfl rfl HSum.out) ?_
              go_frame
              refine y_yield 19 (some 76) (.int .i64 R) rfl (by kernel_rfl) (by kernel_rfl) (by kernel_rfl) (fun _ _ _ h => h) rfl rfl ⟨hB, h8, h3⟩ (fun w' h' => exec_rem _ _ _ _ rfl Z p R rfl rfl (by omega) HRem.out) ?_
              go_frame
              refine y_yield 20 (some 77) (.pointer (some ⟨we.heap.size, k * 1, none⟩)) rfl (by kernel_rfl) (by kernel_rfl) (by kernel_rfl) (fun _ _ _ h => h) rfl rfl ⟨hB, h8, h3⟩ (fun w' h' => exec_ix0 _ 2 _ _ rfl we.heap.size q3 q3 k 1 rfl rfl Try.underlying22 (by kernel_rfl) (by omega)) ?_
              go_frame
              refine y_oper 21 (by kernel_rfl) rfl rfl (fun K' hK' => ?_)
              have lz60 := hB.size
              have lz61 := hB5.size
              have lz62 := h3.lt
              have lz63 := h8.lt
              have lz64 := hR.lt
              refine wp_store_one 2 _ _ rfl rfl we.heap.size (k * 1) rfl (.int .i64 R) rfl rfl rfl _ _ hR (by kernel_rfl) (by rw [iar_size, HLen.out]; omega) (fun Wz58 pz59 => ?_)
              replace hB := pz59.below hB (by omega)
              replace hB5 := pz59.below hB5 (by omega)
              replace h3 := pz59.other h3 (by omega)
              replace h8 := pz59.other h8 (by omega)
              replace hu := hu.put pz59 (Nat.le_refl _)
              replace hR : At Wz58 we.heap.size (.cells (iar (ctP p ls q4 q1 q2 q3 j k (i + 1))) 2 (0, 0)) := by have h9 := pz59.at_; rwa [Nat.mul_one, iar_set, HSet.out] at h9
              refine hK' _ _ ⟨hB, h8, h3⟩ (fun h => absurd (by decide) h) ?_
              clear hK' K' pz59
              refine y_done (by kernel_rfl) ?_ _
              go_upto_region 15 with (fail)
              refine wp_region_lit ?_
              refine ls_ex (some 55) (.int .i64 i) rfl rfl (exec_move _ rfl (.int .i64 i) rfl) ?_
              go_frame
              refine ls_ex (some 56) (.int .i64 (i + 1)) rfl rfl (exec_add _ _ _ _ rfl i 1 (i + 1) rfl rfl (IntWalk.i64_in _ (by omega))) ?_
              go_frame
              refine ls_ex (some 13) (.int .i64 (i + 1)) rfl rfl (exec_assign _ rfl (.int .i64 (i + 1)) rfl) ?_
              go_frame
              refine wpList_nil ?_
              go_wp2_with fail
              go_roundw
              case rel => exact ⟨i + 1, by omega, by go_num, hB, hB5, h3, h8, hu, hR⟩
              case measure => simp [intOf] <;> omega
            · have hia : i = q1 := by omega
              go_upto_region 14 with (fail)
              refine wp_region_lit ?_
              refine ls_ex (some 51) (.int .i64 i) rfl rfl (exec_move _ rfl (.int .i64 i) rfl) ?_
              go_frame
              refine ls_ex (some 52) (.pointer (some ⟨Wz30.heap.size, 1, none⟩)) rfl rfl (exec_fieldAddr 29 _ 1 rfl _ (by kernel_rfl)) ?_
              go_frame
              refine ls_ex (some 53) (.int .i64 q1) rfl rfl (exec_load_one 2 _ rfl Wz30.heap.size 1 rfl (.int .i64 q1) _ Try.underlying2 rfl (h8.at_ 1)) ?_
              go_frame
              refine ls_ex (some 54) (.bool false) rfl rfl (exec_lss _ _ _ _ rfl i q1 rfl rfl false (decide_eq_false (by omega))) ?_
              go_frame
              refine wpList_nil ?_
              go_upto_region 12 with (fail)
              refine wp_region_lit ?_
              refine ls_ex (some 49) (.int .i64 k) rfl rfl (exec_move _ rfl (.int .i64 k) rfl) ?_
              go_frame
              refine ls_ex (some 50) (.int .i64 (k + 1)) rfl rfl (exec_add _ _ _ _ rfl k 1 (k + 1) rfl rfl (IntWalk.i64_in _ (by omega))) ?_
              go_frame
              refine ls_ex (some 12) (.int .i64 (k + 1)) rfl rfl (exec_assign _ rfl (.int .i64 (k + 1)) rfl) ?_
              go_frame
              refine wpList_nil ?_
              go_wp2_with fail
              go_roundw
              case rel => exact ⟨k + 1, by omega, by go_num, hB, hB5, h3, h8, hu, by have h9 := hR; rw [hia, ctP_next] at h9; exact h9⟩
              case measure => simp [intOf] <;> omega
        · obtain ⟨wk, rfl⟩ : ∃ x : World, x = wr := ⟨_, rfl⟩
          rw [show k = q3 by omega, ctP_all] at hR
          rw [show ctR p ls q4 q1 q2 q3 j = RW j by rw [HRW.out]] at hR
          go_upto_region 11 with (fail)
          refine wp_region_lit ?_
          refine ls_ex (some 45) (.int .i64 k) rfl rfl (exec_move _ rfl (.int .i64 k) rfl) ?_
          go_frame
          refine ls_ex (some 46) (.pointer (some ⟨Wz30.heap.size, 3, none⟩)) rfl rfl (exec_fieldAddr 29 _ 3 rfl _ (by kernel_rfl)) ?_
          go_frame
          refine ls_ex (some 47) (.int .i64 q3) rfl rfl (exec_load_one 2 _ rfl Wz30.heap.size 3 rfl (.int .i64 q3) _ Try.underlying2 rfl (h8.at_ 3)) ?_
          go_frame
          refine ls_ex (some 48) (.bool false) rfl rfl (exec_lss _ _ _ _ rfl k q3 rfl rfl false (decide_eq_false (by omega))) ?_
          go_frame
          refine wpList_nil ?_
          go_upto_region 17 with (fail)
          refine wp_region_lit ?_
          refine ls_ex (some 78) (v) rfl rfl (exec_move _ rfl (v) rfl) ?_
          go_frame
          refine ls_ex (some 79) (.slice (some ⟨we.heap.size, 0, none⟩) q3 q3) rfl rfl (exec_move _ rfl (.slice (some ⟨we.heap.size, 0, none⟩) q3 q3) rfl) ?_
          go_frame
          refine ls_op rfl (fun K' hK' => ?_)
          have lz65 := hB.size
          have lz66 := hB5.size
          have lz67 := h3.lt
          have lz68 := h8.lt
          have lz69 := hR.lt
          have naz74 := hu.away_new
          refine wp_new (some 80) rfl (exec_bsM1 _ rfl ((some ⟨we.heap.size, 0, none⟩)) q3 q3 rfl) (fun Wz70 nnz71 => ?_)
          have bz72 := nnz71.below (Below.refl _ _) (Nat.le_refl _)
          replace hB := below_after hB bz72
          replace hB5 := below_after hB5 bz72
          replace h3 := h3.after bz72
          replace h8 := h8.after bz72
          replace hu := hu.below bz72
          replace hR := hR.after bz72
          have hz73 : At Wz70 wk.heap.size (.cells #[.slice (some ⟨we.heap.size, 0, none⟩) q3 q3] 22 (0, 0)) := nnz71.at_
          refine hK' _ _ ?_
          clear hK' K' nnz71 bz72
          go_frame
          refine ls_op rfl (fun K' hK' => ?_)
          have lz78 := hB.size
          have lz79 := hB5.size
          have lz80 := h3.lt
          have lz81 := h8.lt
          have lz82 := hR.lt
          have lz83 := hz73.lt
          have hz9 := hu.hiLe
          refine wp_appV (some 81) rfl _ _ rfl v j RW rfl hu we.heap.size q3 q3 (iar (RW j)) hR (by have := hB5.size; omega) (by rw [← HRW.out]; exact ctR_len _ _ _ _ _ _ _) (fun t9 X9 hX9 => iar_at hX9) wk.heap.size rfl hz73 (by omega) (by have := hB5.size; omega) (fun v8 Wz75 noz77 grz76 => ?_)
          replace hB := hu.belowG hB grz76 (by omega)
          replace hB5 := hu.belowG hB5 grz76 (Nat.le_refl _)
          replace h3 := h3.grown grz76 (hu.off h3 (by decide))
          replace h8 := h8.grown grz76 (hu.off h8 (by decide))
          replace hu := noz77
          refine hK' _ _ ?_
          clear hK' K' grz76 hz73 hR hz9
          go_frame
          refine ls_ex (some 9) (v8) rfl rfl (exec_assign _ rfl (v8) rfl) ?_
          go_frame
          refine wpList_nil ?_
          go_upto_region 8 with (fail)
          refine wp_region_lit ?_
          refine ls_ex (some 40) (.int .i64 j) rfl rfl (exec_move _ rfl (.int .i64 j) rfl) ?_
          go_frame
          refine ls_ex (some 41) (.int .i64 (j + 1)) rfl rfl (exec_add _ _ _ _ rfl j 1 (j + 1) rfl rfl (IntWalk.i64_in _ (by omega))) ?_
          go_frame
          refine ls_ex (some 10) (.int .i64 (j + 1)) rfl rfl (exec_assign _ rfl (.int .i64 (j + 1)) rfl) ?_
          go_frame
          refine wpList_nil ?_
          go_wp2_with fail
          go_roundw
          case rel => exact ⟨j + 1, v8, _, by omega, rfl, by go_num, hB, hB5, h3, h8, hu⟩
          case measure => simp [intOf] <;> omega
    · have hjb : j = q2 := by omega
      go_upto_region 7 with (fail)
      refine wp_region_lit ?_
      refine ls_ex (some 36) (.int .i64 j) rfl rfl (exec_move _ rfl (.int .i64 j) rfl) ?_
      go_frame
      refine ls_ex (some 37) (.pointer (some ⟨Wz30.heap.size, 2, none⟩)) rfl rfl (exec_fieldAddr 29 _ 2 rfl _ (by kernel_rfl)) ?_
      go_frame
      refine ls_ex (some 38) (.int .i64 q2) rfl rfl (exec_load_one 2 _ rfl Wz30.heap.size 2 rfl (.int .i64 q2) _ Try.underlying2 rfl (h8.at_ 2)) ?_
      go_frame
      refine ls_ex (some 39) (.bool false) rfl rfl (exec_lss _ _ _ _ rfl j q2 rfl rfl false (decide_eq_false (by omega))) ?_
      go_frame
      refine wpList_nil ?_
      go_upto_region 18 with (fail)
      refine wp_region_lit ?_
      refine ls_ex (some 82) (v) rfl rfl (exec_move _ rfl (v) rfl) ?_
      go_frame
      refine ls_ex (some 6) (v) rfl rfl (exec_assign _ rfl (v) rfl) ?_
      go_frame
      refine ls_ex (some 7) (.int .i64 0) rfl rfl (exec_assign _ rfl (.int .i64 0) rfl) ?_
      go_frame
      refine wpList_nil ?_
      go_wp2_with fail
      go_ret2
      rw [HN.out, HF.out]
      exact ⟨v, by rw [HC.out]; rfl, by rw [← hjb]; exact hu.ownV.mono (by omega) (Nat.le_refl _), hB⟩
set_option maxHeartbeats 4000000 in
theorem specCt_y2 (p : Int) (a b d : Nat) (bB oB c0 N : Nat) (xs : List Int) (bN oN cN NS : Nat) (ls : List Int) (w : World) (hX : RdI w (some ⟨bB, oB, none⟩) xs) (hxl : xs.length = N) (hs : tenB p a b d xs = true) (hN : RdI w (some ⟨bN, oN, none⟩) ls) (hLl : ls.length = NS) (hc0 : N ≤ c0) (hT : listB p NS ls = true) (hD : d = NS) :
    Calls Try.prog 15 #[.agg #[.int .i64 p, .int .i64 a, .int .i64 b, .int .i64 d, .slice (some ⟨bB, oB, none⟩) N c0], .int .i64 2, .slice (some ⟨bN, oN, none⟩) NS cN] w (ResV w (cnN p a b d 2 ls xs) (cnF p a b d 2 ls xs) (cnCode p a b d 2 ls xs)) := by
  have hB := Below.refl w.heap.size w
  subst hD
  have h0 : ctOK p a b d 2 ls xs = true := by unfold ctOK; rw [hs]; simp [hT]; rfl
  obtain ⟨q1, q2, q3, q4, hq⟩ : ∃ q1 q2 q3 q4, trn p 2 (a, b, d, xs) = (q1, q2, q3, q4) := ⟨_, _, _, _, rfl⟩
  obtain ⟨RW, hRW⟩ : ∃ z9, ctR p ls q4 q1 q2 q3 = z9 := ⟨_, rfl⟩
  have hsq : slQ p a b d 2 xs = (q1, q2, q3, q4) := by rw [← hq]; rfl
  have HN : Hid (cnN p a b d 2 ls xs = q2) := Lib.hid (by unfold cnN; rw [h0, hsq]; rfl)
  have HF : Hid (cnF p a b d 2 ls xs = RW) := Lib.hid (by unfold cnF cnG; rw [hsq]; exact hRW)
  have HC : Hid (cnCode p a b d 2 ls xs = 0) := Lib.hid (by unfold cnCode; rw [hs, h0]; rfl)
  have HS3 : Hid (inB 2 3 = true) := Lib.hid rfl
  have HT3 := Lib.hid hT
  have HQ := Lib.hid hq
  have HRW := Lib.hid hRW
  have HLl := Lib.hid hLl
  have HMb := Lib.hid (listB_parts hT).2
  have HS1 : Hid (q1 = d) := Lib.hid (by have h9 := congrArg (·.1) hq; exact h9.symm)
  have Hs := Lib.hid hs
  have HXl := Lib.hid hxl
  have hpp := prime_le5 (ten_parts hs).1
  have hdm := (ten_parts hs).2
  have ha0 := hdm.1
  have hb0 := hdm.2.1
  have hd0 := hdm.2.2.1
  have hNb : N ≤ 729 := by rw [← hxl, hdm.2.2.2.1]; exact Nat.le_trans (Nat.mul_le_mul (Nat.mul_le_mul hdm.1.2 hdm.2.1.2) hdm.2.2.1.2) (by decide)
  clear hs hxl hdm hT h0 hq hsq hRW hLl
  go_enter Try.func15, Try.ntmps15
  go_upto_region 0 with (fail)
  refine wp_region_lit ?_
  refine ls_op rfl (fun K' hK' => ?_)
  have lz1 := hB.size
  refine wp_new (some 3) rfl (exec_box 29 _ rfl (#[.int .i64 p, .int .i64 a, .int .i64 b, .int .i64 d, .slice (some ⟨bB, oB, none⟩) N c0]) rfl) (fun Wz2 nnz3 => ?_)
  have bz4 := nnz3.below (Below.refl _ _) (Nat.le_refl _)
  replace hB := below_after hB bz4
  have hz5 : At Wz2 w.heap.size (.cells #[.int .i64 p, .int .i64 a, .int .i64 b, .int .i64 d, .slice (some ⟨bB, oB, none⟩) N c0] 29 (0, 0)) := nnz3.at_
  refine hK' _ _ ?_
  clear hK' K' nnz3 bz4
  go_frame
  refine ls_ex (some 6) (.slice none 0 0) rfl rfl (exec_assign _ rfl (.slice none 0 0) rfl) ?_
  go_frame
  refine ls_ex (some 7) (.int .i64 0) rfl rfl (exec_assign _ rfl (.int .i64 0) rfl) ?_
  go_frame
  refine wpList_nil ?_
  go_upto_region 1 with (fail)
  refine wp_region_lit ?_
  refine ls_ex (some 15) (.agg #[.int .i64 p, .int .i64 a, .int .i64 b, .int .i64 d, .slice (some ⟨bB, oB, none⟩) N c0]) rfl rfl (exec_load_all 29 _ rfl w.heap.size rfl _ _ _ hz5 Try.underlying29 rfl 5 (by kernel_rfl) rfl) ?_
  go_frame
  refine ls_op rfl (fun K' hK' => ?_)
  have lz8 := hB.size
  have lz9 := hz5.lt
  refine wp_call1 (some 16) rfl 25 _ _ rfl (fun args w => by kernel_rfl) _ rfl _ (l05IsN_c p a b d (some ⟨bB, oB, none⟩) N c0 xs _ HXl.out (hX.keep hB) (by omega)) (fun e Wz6 h => ?_)
  obtain ⟨rfl, bz7⟩ := h
  replace hB := below_after hB bz7
  replace hz5 := hz5.after bz7
  rw [Hs.out]
  clear bz7
  refine ⟨_, rfl, ?_⟩
  refine hK' _ _ ?_
  clear hK' K'
  go_frame
  refine ls_ex (some 17) (.bool false) rfl rfl (exec_not _ _ rfl true rfl) ?_
  go_frame
  refine ls_ex (some 14) (.bool false) rfl rfl (exec_assign _ rfl (.bool false) rfl) ?_
  go_frame
  refine wpList_nil ?_
  go_upto_region 3 with (fail)
  refine wp_region_y (zs := []) (S := fun w' => Below w.heap.size w w' ∧ At w' w.heap.size (.cells #[.int .i64 p, .int .i64 a, .int .i64 b, .int .i64 d, .slice (some ⟨bB, oB, none⟩) N c0] 29 (0, 0))) (S2 := fun w' => True) (by kernel_rfl) ?_
  change wpAnyY _ _ _ _ _ _ _ _ _ _ (World.drew _)
  generalize hwdz10 : World.drew _ = wdz10
  replace hB : Below w.heap.size w wdz10 := by rw [← hwdz10]; exact hB.drew
  replace hz5 : At wdz10 w.heap.size (.cells #[.int .i64 p, .int .i64 a, .int .i64 b, .int .i64 d, .slice (some ⟨bB, oB, none⟩) N c0] 29 (0, 0)) := by rw [← hwdz10]; exact hz5
  clear hwdz10
  refine y_yield 0 (some 19) (.int .i64 2) rfl (by kernel_rfl) (by kernel_rfl) (by kernel_rfl) (fun _ _ _ h => h) rfl rfl ⟨hB, hz5⟩ (fun w' h' => exec_move _ rfl (.int .i64 2) rfl) ?_
  go_frame
  refine y_oper 1 (by kernel_rfl) rfl rfl (fun K' hK' => ?_)
  have lz13 := hB.size
  have lz14 := hz5.lt
  refine wp_call3 (some 20) rfl 26 _ _ _ _ rfl (fun args w => by kernel_rfl) _ _ _ rfl rfl rfl _ (l01In_idx 2 3 2 rfl _) (fun e Wz11 h => ?_)
  obtain ⟨rfl, rfl⟩ := h
  rw [HS3.out]
  refine ⟨_, rfl, ?_⟩
  refine hK' _ _ ⟨hB, hz5⟩ (fun _ => trivial) ?_
  clear hK' K'
  go_frame
  refine y_yield 2 (some 21) (.bool false) rfl (by kernel_rfl) (by kernel_rfl) (by kernel_rfl) (fun _ _ _ h => h) rfl rfl ⟨hB, hz5⟩ (fun w' h' => exec_not _ _ rfl true rfl) ?_
  go_frame
  refine y_yield 3 (some 22) (.bool false) rfl (by kernel_rfl) (by kernel_rfl) (by kernel_rfl) (fun _ _ _ h => h) rfl rfl ⟨hB, hz5⟩ (fun w' h' => exec_move _ rfl (.bool false) rfl) ?_
  go_frame
  refine y_yield 4 (some 23) (.pointer (some ⟨w.heap.size, 0, none⟩)) rfl (by kernel_rfl) (by kernel_rfl) (by kernel_rfl) (fun _ _ _ h => h) rfl rfl ⟨hB, hz5⟩ (fun w' h' => exec_fieldAddr 29 _ 0 rfl _ (by kernel_rfl)) ?_
  go_frame
  refine y_yield 5 (some 24) (.int .i64 p) rfl (by kernel_rfl) (by kernel_rfl) (by kernel_rfl) (fun _ _ _ h => h) rfl rfl ⟨hB, hz5⟩ (fun w' h' => exec_load_one 2 _ rfl w.heap.size 0 rfl (.int .i64 p) _ Try.underlying2 rfl (h'.2.at_ 0)) ?_
  go_frame
  refine y_yield 6 (some 25) (.slice (some ⟨bN, oN, none⟩) d cN) rfl (by kernel_rfl) (by kernel_rfl) (by kernel_rfl) (fun _ _ _ h => h) rfl rfl ⟨hB, hz5⟩ (fun w' h' => exec_move _ rfl (.slice (some ⟨bN, oN, none⟩) d cN) rfl) ?_
  go_frame
  refine y_yield 7 (some 26) (.agg #[.int .i64 p, .int .i64 a, .int .i64 b, .int .i64 d, .slice (some ⟨bB, oB, none⟩) N c0]) rfl (by kernel_rfl) (by kernel_rfl) (by kernel_rfl) (fun _ _ _ h => h) rfl rfl ⟨hB, hz5⟩ (fun w' h' => exec_load_all 29 _ rfl w.heap.size rfl _ _ _ h'.2 Try.underlying29 rfl 5 (by kernel_rfl) rfl) ?_
  go_frame
  refine y_yield 8 (some 27) (.int .i64 2) rfl (by kernel_rfl) (by kernel_rfl) (by kernel_rfl) (fun _ _ _ h => h) rfl rfl ⟨hB, hz5⟩ (fun w' h' => exec_move _ rfl (.int .i64 2) rfl) ?_
  go_frame
  refine y_oper 9 (by kernel_rfl) rfl rfl (fun K' hK' => ?_)
  have lz17 := hB.size
  have lz18 := hz5.lt
  refine wp_call2 (some 28) rfl 27 _ _ _ rfl (fun args w => by kernel_rfl) _ _ rfl rfl _ (l05Side2_c p a b d _ _) (fun e Wz15 h => ?_)
  obtain ⟨rfl, bz16⟩ := h
  replace hB := below_after hB bz16
  replace hz5 := hz5.after bz16
  clear bz16
  refine ⟨_, rfl, ?_⟩
  refine hK' _ _ ⟨hB, hz5⟩ (fun _ => trivial) ?_
  clear hK' K'
  go_frame
  refine y_oper 10 (by kernel_rfl) rfl rfl (fun K' hK' => ?_)
  have lz21 := hB.size
  have lz22 := hz5.lt
  refine wp_call3 (some 29) rfl 36 _ _ _ _ rfl (fun args w => by kernel_rfl) _ _ _ rfl rfl rfl _ (l05NumbersM_c p d (some ⟨bN, oN, none⟩) cN ls _ (by omega) (hN.keep hB) HLl.out (by omega)) (fun e Wz19 h => ?_)
  obtain ⟨rfl, bz20⟩ := h
  replace hB := below_after hB bz20
  replace hz5 := hz5.after bz20
  rw [HT3.out]
  clear bz20
  refine ⟨_, rfl, ?_⟩
  refine hK' _ _ ⟨hB, hz5⟩ (fun _ => trivial) ?_
  clear hK' K'
  go_frame
  refine y_yield 11 (some 30) (.bool false) rfl (by kernel_rfl) (by kernel_rfl) (by kernel_rfl) (fun _ _ _ h => h) rfl rfl ⟨hB, hz5⟩ (fun w' h' => exec_not _ _ rfl true rfl) ?_
  go_frame
  refine y_yield 12 (some 31) (.bool false) rfl (by kernel_rfl) (by kernel_rfl) (by kernel_rfl) (fun _ _ _ h => h) rfl rfl ⟨hB, hz5⟩ (fun w' h' => exec_pick _ _ _ rfl false rfl (.bool false) rfl) ?_
  go_frame
  refine y_oper 13 (by kernel_rfl) rfl rfl (fun K' hK' => ?_)
  refine wp_exec (some 18) rfl (.bool false) (exec_assign _ rfl (.bool false) rfl) ?_
  refine hK' _ _ ⟨hB, hz5⟩ (fun _ => trivial) ?_
  clear hK' K'
  go_frame
  refine y_done (by kernel_rfl) ?_ _
  go_upto_region 5 with (fail)
  refine wp_region_lit ?_
  refine ls_ex (some 32) (.agg #[.int .i64 p, .int .i64 a, .int .i64 b, .int .i64 d, .slice (some ⟨bB, oB, none⟩) N c0]) rfl rfl (exec_load_all 29 _ rfl w.heap.size rfl _ _ _ hz5 Try.underlying29 rfl 5 (by kernel_rfl) rfl) ?_
  go_frame
  refine ls_ex (some 33) (.int .i64 2) rfl rfl (exec_move _ rfl (.int .i64 2) rfl) ?_
  go_frame
  refine ls_op rfl (fun K' hK' => ?_)
  have lz25 := hB.size
  have lz26 := hz5.lt
  refine wp_call2 (some 34) rfl 29 _ _ _ rfl (fun args w => by kernel_rfl) _ _ rfl rfl _ (l05Turned_q p a b d 2 bB oB c0 N xs 2 _ q1 q2 q3 q4 HQ.out rfl (hX.keep hB) HXl.out Hs.out (by omega) hc0) (fun e Wz23 h => ?_)
  obtain ⟨b9, o9, c9, rfl, hc9, hq5, hq6, hq4, bz24⟩ := h
  replace hB := below_after hB bz24
  replace hz5 := hz5.after bz24
  have h9q := (ten_parts hq6).2
  have ha9 : 1 ≤ q1 ∧ q1 ≤ 9 := h9q.1
  have hb9 : 1 ≤ q2 ∧ q2 ≤ 9 := h9q.2.1
  have hd9 : 1 ≤ q3 ∧ q3 ≤ 9 := h9q.2.2.1
  have HN9 : Hid (q1 * q2 * q3 = N) := Lib.hid (by rw [← hq5]; exact h9q.2.2.2.1.symm)
  have HNb := Lib.hid h9q.2.2.2.2
  have HQl := Lib.hid hq5
  have HQt := Lib.hid hq6
  clear h9q hq5 hq6
  have hB5 := Below.refl Wz23.heap.size Wz23
  have lo5 := hB.size
  clear bz24
  refine ⟨_, rfl, ?_⟩
  refine hK' _ _ ?_
  clear hK' K'
  go_frame
  refine ls_op rfl (fun K' hK' => ?_)
  have lz27 := hB.size
  have lz28 := hz5.lt
  have lz29 := hB5.size
  refine wp_new (some 35) rfl (exec_bs0M rfl) (fun Wz30 nnz31 => ?_)
  have bz32 := nnz31.below (Below.refl _ _) (Nat.le_refl _)
  replace hB := below_after hB bz32
  replace hz5 := hz5.after bz32
  replace hB5 := below_after hB5 bz32
  have hk0 : At Wz30 Wz23.heap.size (.cells #[] 22 (0, 0)) := nnz31.at_
  refine hK' _ _ ?_
  clear hK' K' nnz31 bz32
  go_frame
  refine ls_op rfl (fun K' hK' => ?_)
  have lz33 := hB.size
  have lz34 := hz5.lt
  have lz35 := hB5.size
  have lz36 := hk0.lt
  refine wp_new (some 8) rfl (alCu_impl_Tensor rfl) (fun Wz37 nnz38 => ?_)
  have bz39 := nnz38.below (Below.refl _ _) (Nat.le_refl _)
  replace hB := below_after hB bz39
  replace hz5 := hz5.after bz39
  replace hB5 := below_after hB5 bz39
  replace hk0 := hk0.after bz39
  have hz40 : At Wz37 Wz30.heap.size (.cells #[.int .i64 0, .int .i64 0, .int .i64 0, .int .i64 0, .slice none 0 0] 29 (0, 0)) := nnz38.at_
  refine hK' _ _ ?_
  clear hK' K' nnz38 bz39
  go_frame
  refine ls_op rfl (fun K' hK' => ?_)
  refine wp_store_all 29 _ _ rfl rfl Wz30.heap.size rfl #[.int .i64 p, .int .i64 q1, .int .i64 q2, .int .i64 q3, .slice (some ⟨b9, o9, none⟩) N c9] rfl _ _ hz40 5 (by kernel_rfl) rfl rfl (one5 _ _ _ _ _ _ _) (fun Wz41 pz42 => ?_)
  replace hB := pz42.below hB (by omega)
  replace hz5 := pz42.other hz5 (by omega)
  replace hB5 := pz42.below hB5 (by omega)
  replace hk0 := pz42.other hk0 (by omega)
  replace hz40 : At Wz41 Wz30.heap.size (.cells #[.int .i64 p, .int .i64 q1, .int .i64 q2, .int .i64 q3, .slice (some ⟨b9, o9, none⟩) N c9] 29 (0, 0)) := pz42.at_
  refine hK' _ _ ?_
  clear hK' K' pz42
  refine ls_ex (some 9) (.slice (some ⟨Wz23.heap.size, 0, none⟩) 0 0) rfl rfl (exec_assign _ rfl (.slice (some ⟨Wz23.heap.size, 0, none⟩) 0 0) rfl) ?_
  go_frame
  refine wpList_nil ?_
  go_upto_region 6 with (fail)
  refine wp_region_lit ?_
  refine ls_ex (some 10) (.int .i64 0) rfl rfl (exec_assign _ rfl (.int .i64 0) rfl) ?_
  go_frame
  refine wpList_nil ?_
  go_wp2_with fail
  go_loopw [9, 10, 11, 12, 13] (fun s9 s10 s11 s12 s13 wr => ∃ (j : Nat) (v : Value) (z8 : Nat), j ≤ q2 ∧ v = s9 ∧ s10 = .int .i64 j ∧ Below w.heap.size w wr ∧ Below Wz23.heap.size Wz23 wr ∧ At wr w.heap.size (.cells #[.int .i64 p, .int .i64 a, .int .i64 b, .int .i64 d, .slice (some ⟨bB, oB, none⟩) N c0] 29 (0, 0)) ∧ At wr Wz30.heap.size (.cells #[.int .i64 p, .int .i64 q1, .int .i64 q2, .int .i64 q3, .slice (some ⟨b9, o9, none⟩) N c9] 29 (0, 0)) ∧ OutV wr Wz23.heap.size z8 v j RW) (fun _ s10 _ _ _ _ => q2 - (intOf s10).toNat)
  case atStart => exact ⟨0, _, _, by omega, rfl, rfl, hB, hB5, hz5, hz40, OutV.nil hk0 (by omega) _⟩
  case round =>
    clear hB hz5 hB5 hk0 hz40
    obtain ⟨j, v, z8, hle, rfl, rfl, hB, hB5, h3, h8, hu⟩ := hrel
    by_cases hlt : j < q2
    · have hj : j < q2 := hlt
      obtain ⟨we, rfl⟩ : ∃ x : World, x = wr := ⟨_, rfl⟩
      go_upto_region 7 with (fail)
      refine wp_region_lit ?_
      refine ls_ex (some 36) (.int .i64 j) rfl rfl (exec_move _ rfl (.int .i64 j) rfl) ?_
      go_frame
      refine ls_ex (some 37) (.pointer (some ⟨Wz30.heap.size, 2, none⟩)) rfl rfl (exec_fieldAddr 29 _ 2 rfl _ (by kernel_rfl)) ?_
      go_frame
      refine ls_ex (some 38) (.int .i64 q2) rfl rfl (exec_load_one 2 _ rfl Wz30.heap.size 2 rfl (.int .i64 q2) _ Try.underlying2 rfl (h8.at_ 2)) ?_
      go_frame
      refine ls_ex (some 39) (.bool true) rfl rfl (exec_lss _ _ _ _ rfl j q2 rfl rfl true (decide_eq_true (by omega))) ?_
      go_frame
      refine wpList_nil ?_
      go_upto_region 9 with (fail)
      refine wp_region_lit ?_
      refine ls_ex (some 42) (.pointer (some ⟨Wz30.heap.size, 3, none⟩)) rfl rfl (exec_fieldAddr 29 _ 3 rfl _ (by kernel_rfl)) ?_
      go_frame
      refine ls_ex (some 43) (.int .i64 q3) rfl rfl (exec_load_one 2 _ rfl Wz30.heap.size 3 rfl (.int .i64 q3) _ Try.underlying2 rfl (h8.at_ 3)) ?_
      go_frame
      refine ls_op rfl (fun K' hK' => ?_)
      have lz43 := hB.size
      have lz44 := hB5.size
      have lz45 := h3.lt
      have lz46 := h8.lt
      replace hu := hu.raise
      refine wp_make_Iz (some 44) rfl _ _ rfl q3 rfl rfl (by omega) (fun Wz47 nnz48 => ?_)
      have bz49 := nnz48.below (Below.refl _ _) (Nat.le_refl _)
      replace hB := below_after hB bz49
      replace hB5 := below_after hB5 bz49
      replace h3 := h3.after bz49
      replace h8 := h8.after bz49
      replace hu := hu.below bz49
      have hR : At Wz47 we.heap.size (.cells (iar (List.replicate q3 0)) 2 (0, 0)) := nnz48.at_
      refine hK' _ _ ?_
      clear hK' K' nnz48 bz49
      go_frame
      refine ls_ex (some 11) (.slice (some ⟨we.heap.size, 0, none⟩) q3 q3) rfl rfl (exec_assign _ rfl (.slice (some ⟨we.heap.size, 0, none⟩) q3 q3) rfl) ?_
      go_frame
      refine wpList_nil ?_
      go_upto_region 10 with (fail)
      refine wp_region_lit ?_
      refine ls_ex (some 12) (.int .i64 0) rfl rfl (exec_assign _ rfl (.int .i64 0) rfl) ?_
      go_frame
      refine wpList_nil ?_
      go_wp2_with fail
      go_loopw [12, 13] (fun s12 s13 wr => ∃ k : Nat, k ≤ q3 ∧ s12 = .int .i64 k ∧ Below w.heap.size w wr ∧ Below Wz23.heap.size Wz23 wr ∧ At wr w.heap.size (.cells #[.int .i64 p, .int .i64 a, .int .i64 b, .int .i64 d, .slice (some ⟨bB, oB, none⟩) N c0] 29 (0, 0)) ∧ At wr Wz30.heap.size (.cells #[.int .i64 p, .int .i64 q1, .int .i64 q2, .int .i64 q3, .slice (some ⟨b9, o9, none⟩) N c9] 29 (0, 0)) ∧ OutV wr Wz23.heap.size we.heap.size v j RW ∧ At wr we.heap.size (.cells (iar (ctP p ls q4 q1 q2 q3 j k 0)) 2 (0, 0))) (fun s12 _ _ => q3 - (intOf s12).toNat)
      case atStart => exact ⟨0, by omega, rfl, hB, hB5, h3, h8, hu, by rw [ctP_zero]; exact hR⟩
      case round =>
        clear hB hB5 h3 h8 hu hR
        obtain ⟨k, hle2, rfl, hB, hB5, h3, h8, hu, hR⟩ := hrel
        by_cases hlt : k < q3
        · have hlt2 : k < q3 := hlt
          obtain ⟨wf, rfl⟩ : ∃ x : World, x = wr := ⟨_, rfl⟩
          go_upto_region 11 with (fail)
          refine wp_region_lit ?_
          refine ls_ex (some 45) (.int .i64 k) rfl rfl (exec_move _ rfl (.int .i64 k) rfl) ?_
          go_frame
          refine ls_ex (some 46) (.pointer (some ⟨Wz30.heap.size, 3, none⟩)) rfl rfl (exec_fieldAddr 29 _ 3 rfl _ (by kernel_rfl)) ?_
          go_frame
          refine ls_ex (some 47) (.int .i64 q3) rfl rfl (exec_load_one 2 _ rfl Wz30.heap.size 3 rfl (.int .i64 q3) _ Try.underlying2 rfl (h8.at_ 3)) ?_
          go_frame
          refine ls_ex (some 48) (.bool true) rfl rfl (exec_lss _ _ _ _ rfl k q3 rfl rfl true (decide_eq_true (by omega))) ?_
          go_frame
          refine wpList_nil ?_
          go_upto_region 13 with (fail)
          refine wp_region_lit ?_
          refine ls_ex (some 13) (.int .i64 0) rfl rfl (exec_assign _ rfl (.int .i64 0) rfl) ?_
          go_frame
          refine wpList_nil ?_
          go_wp2_with fail
          go_loopw [13] (fun s13 wr => ∃ i : Nat, i ≤ q1 ∧ s13 = .int .i64 i ∧ Below w.heap.size w wr ∧ Below Wz23.heap.size Wz23 wr ∧ At wr w.heap.size (.cells #[.int .i64 p, .int .i64 a, .int .i64 b, .int .i64 d, .slice (some ⟨bB, oB, none⟩) N c0] 29 (0, 0)) ∧ At wr Wz30.heap.size (.cells #[.int .i64 p, .int .i64 q1, .int .i64 q2, .int .i64 q3, .slice (some ⟨b9, o9, none⟩) N c9] 29 (0, 0)) ∧ OutV wr Wz23.heap.size we.heap.size v j RW ∧ At wr we.heap.size (.cells (iar (ctP p ls q4 q1 q2 q3 j k i)) 2 (0, 0))) (fun s13 _ => q1 - (intOf s13).toNat)
          case atStart => exact ⟨0, by omega, rfl, hB, hB5, h3, h8, hu, hR⟩
          case round =>
            clear hB hB5 h3 h8 hu hR
            obtain ⟨i, hle3, rfl, hB, hB5, h3, h8, hu, hR⟩ := hrel
            by_cases hlt : i < q1
            · obtain ⟨X, hX9⟩ : ∃ z9, nthI q4 ((((i : Nat) : Int) * q2 + (j : Nat)) * q3 + (k : Nat)) = z9 := ⟨_, rfl⟩
              obtain ⟨U, hU9⟩ : ∃ z9, ls[i]? = some z9 := ⟨_, List.getElem?_eq_getElem (by have := HLl.out; have := HS1.out; omega)⟩
              have hXb : 0 ≤ X ∧ X ≤ 4 := by have h9 := nth_in HNb.out (by omega) ((((i : Nat) : Int) * q2 + (j : Nat)) * q3 + (k : Nat)); rw [hX9] at h9; omega
              have hUb : 0 ≤ U ∧ U ≤ 4 := by have h9 := inB_of HMb.out hU9; omega
              obtain ⟨M, hM⟩ : ∃ z9, U * X = z9 := ⟨_, rfl⟩
              have hMb := m4c hUb hXb
              rw [hM] at hMb
              have HM : Hid (IntKind.i64.wrap (U * X) = M) := Lib.hid (by rw [hM]; exact IntWalk.i64_in _ (by omega))
              obtain ⟨Y, hY9⟩ : ∃ z9, ctS ls q4 q2 q3 j k i % p = z9 := ⟨_, rfl⟩
              have hYb : 0 ≤ Y ∧ Y ≤ 4 := by rw [← hY9]; have e1 := Int.emod_nonneg (ctS ls q4 q2 q3 j k i) (show p ≠ 0 by omega); have e2 := Int.emod_lt_of_pos (ctS ls q4 q2 q3 j k i) (show 0 < p by omega); omega
              obtain ⟨Z, hZ9⟩ : ∃ z9, Y + M = z9 := ⟨_, rfl⟩
              have HSum : Hid (IntKind.i64.wrap (Y + M) = Z) := Lib.hid (by rw [← hZ9]; exact IntWalk.i64_in _ (by omega))
              obtain ⟨R, hR9⟩ : ∃ z9, Z % p = z9 := ⟨_, rfl⟩
              have HRem : Hid (Z.tmod p = R) := Lib.hid (by rw [Int.tmod_eq_emod_of_nonneg (by omega)]; exact hR9)
              have HYg : Hid ((ctP p ls q4 q1 q2 q3 j k i)[k]? = some Y) := Lib.hid (by rw [← hY9]; exact ctP_at hlt2)
              have HSet : Hid ((ctP p ls q4 q1 q2 q3 j k i).set k R = ctP p ls q4 q1 q2 q3 j k (i + 1)) := Lib.hid (ctP_set (by rw [← hR9, ← hZ9, ← hY9, ← hM, ctS, hU9, Option.getD_some, hX9, Int.emod_add_emod]))
              have HLen := Lib.hid (ctP_len p ls q4 q1 q2 q3 j k i)
              have hlt9 : i < d := by have := HS1.out; omega
              have HXg := Lib.hid hX9
              have HUg := Lib.hid hU9
              clear hX9 hU9 hM hY9 hZ9 hR9
              go_upto_region 14 with (fail)
              refine wp_region_lit ?_
              refine ls_ex (some 51) (.int .i64 i) rfl rfl (exec_move _ rfl (.int .i64 i) rfl) ?_
              go_frame
              refine ls_ex (some 52) (.pointer (some ⟨Wz30.heap.size, 1, none⟩)) rfl rfl (exec_fieldAddr 29 _ 1 rfl _ (by kernel_rfl)) ?_
              go_frame
              refine ls_ex (some 53) (.int .i64 q1) rfl rfl (exec_load_one 2 _ rfl Wz30.heap.size 1 rfl (.int .i64 q1) _ Try.underlying2 rfl (h8.at_ 1)) ?_
              go_frame
              refine ls_ex (some 54) (.bool true) rfl rfl (exec_lss _ _ _ _ rfl i q1 rfl rfl true (decide_eq_true (by omega))) ?_
              go_frame
              refine wpList_nil ?_
              go_upto_region 16 with (fail)
              refine wp_region_y (zs := [21]) (S := fun w' => Below w.heap.size w w' ∧ At w' Wz30.heap.size (.cells #[.int .i64 p, .int .i64 q1, .int .i64 q2, .int .i64 q3, .slice (some ⟨b9, o9, none⟩) N c9] 29 (0, 0)) ∧ At w' w.heap.size (.cells #[.int .i64 p, .int .i64 a, .int .i64 b, .int .i64 d, .slice (some ⟨bB, oB, none⟩) N c0] 29 (0, 0))) (S2 := fun w' => At w' we.heap.size (.cells (iar (ctP p ls q4 q1 q2 q3 j k i)) 2 (0, 0))) (by kernel_rfl) ?_
              change wpAnyY _ _ _ _ _ _ _ _ _ _ (World.drew _)
              generalize hwdz50 : World.drew _ = wdz50
              replace hB : Below w.heap.size w wdz50 := by rw [← hwdz50]; exact hB.drew
              replace hB5 : Below Wz23.heap.size Wz23 wdz50 := by rw [← hwdz50]; exact hB5.drew
              replace h3 : At wdz50 w.heap.size (.cells #[.int .i64 p, .int .i64 a, .int .i64 b, .int .i64 d, .slice (some ⟨bB, oB, none⟩) N c0] 29 (0, 0)) := by rw [← hwdz50]; exact h3
              replace h8 : At wdz50 Wz30.heap.size (.cells #[.int .i64 p, .int .i64 q1, .int .i64 q2, .int .i64 q3, .slice (some ⟨b9, o9, none⟩) N c9] 29 (0, 0)) := by rw [← hwdz50]; exact h8
              replace hu : OutV wdz50 Wz23.heap.size we.heap.size v j RW := by rw [← hwdz50]; exact hu.drew
              replace hR : At wdz50 we.heap.size (.cells (iar (ctP p ls q4 q1 q2 q3 j k i)) 2 (0, 0)) := by rw [← hwdz50]; exact hR
              clear hwdz50
              refine y_yield 0 (some 57) (.slice (some ⟨we.heap.size, 0, none⟩) q3 q3) rfl (by kernel_rfl) (by kernel_rfl) (by kernel_rfl) (fun _ _ _ h => h) rfl rfl ⟨hB, h8, h3⟩ (fun w' h' => exec_move _ rfl (.slice (some ⟨we.heap.size, 0, none⟩) q3 q3) rfl) ?_
              go_frame
              refine y_yield 1 (some 58) (.int .i64 k) rfl (by kernel_rfl) (by kernel_rfl) (by kernel_rfl) (fun _ _ _ h => h) rfl rfl ⟨hB, h8, h3⟩ (fun w' h' => exec_move _ rfl (.int .i64 k) rfl) ?_
              go_frame
              refine y_yield 2 (some 59) (.slice (some ⟨we.heap.size, 0, none⟩) q3 q3) rfl (by kernel_rfl) (by kernel_rfl) (by kernel_rfl) (fun _ _ _ h => h) rfl rfl ⟨hB, h8, h3⟩ (fun w' h' => exec_move _ rfl (.slice (some ⟨we.heap.size, 0, none⟩) q3 q3) rfl) ?_
              go_frame
              refine y_yield 3 (some 60) (.int .i64 k) rfl (by kernel_rfl) (by kernel_rfl) (by kernel_rfl) (fun _ _ _ h => h) rfl rfl ⟨hB, h8, h3⟩ (fun w' h' => exec_move _ rfl (.int .i64 k) rfl) ?_
              go_frame
              refine y_yield 4 (some 61) (.pointer (some ⟨we.heap.size, k * 1, none⟩)) rfl (by kernel_rfl) (by kernel_rfl) (by kernel_rfl) (fun _ _ _ h => h) rfl rfl ⟨hB, h8, h3⟩ (fun w' h' => exec_ix0 _ 2 _ _ rfl we.heap.size q3 q3 k 1 rfl rfl Try.underlying22 (by kernel_rfl) (by omega)) ?_
              go_frame
              refine y_yield3 5 (some 62) (.int .i64 Y) rfl 22 (by kernel_rfl) (by kernel_rfl) (by kernel_rfl) (by kernel_rfl) (by kernel_rfl) (fun _ _ _ h => h) rfl rfl ⟨hB, h8, h3⟩ hR (fun w' h' h2' => exec_load_one 2 _ rfl we.heap.size (k * 1) rfl (.int .i64 Y) _ Try.underlying2 rfl (cell_iar h2' HYg.out)) ?_
              go_frame
              refine y_yield 6 (some 63) (.slice (some ⟨bN, oN, none⟩) d cN) rfl (by kernel_rfl) (by kernel_rfl) (by kernel_rfl) (fun _ _ _ h => h) rfl rfl ⟨hB, h8, h3⟩ (fun w' h' => exec_move _ rfl (.slice (some ⟨bN, oN, none⟩) d cN) rfl) ?_
              go_frame
              refine y_yield 7 (some 64) (.int .i64 i) rfl (by kernel_rfl) (by kernel_rfl) (by kernel_rfl) (fun _ _ _ h => h) rfl rfl ⟨hB, h8, h3⟩ (fun w' h' => exec_move _ rfl (.int .i64 i) rfl) ?_
              go_frame
              refine y_yield 8 (some 65) (.pointer (some ⟨bN, oN + i * 1, none⟩)) rfl (by kernel_rfl) (by kernel_rfl) (by kernel_rfl) (fun _ _ _ h => h) rfl rfl ⟨hB, h8, h3⟩ (fun w' h' => exec_index_slice _ 2 _ _ rfl bN oN d cN i 1 rfl rfl Try.underlying22 (by kernel_rfl) hlt9) ?_
              go_frame
              refine y_yield 9 (some 66) (.int .i64 U) rfl (by kernel_rfl) (by kernel_rfl) (by kernel_rfl) (fun _ _ _ h => h) rfl rfl ⟨hB, h8, h3⟩ (fun w' h' => exec_load_one 2 _ rfl bN (oN + i * 1) rfl (.int .i64 U) _ Try.underlying2 rfl (RdI.c1S (hN.keep h'.1) HUg.out)) ?_
              go_frame
              refine y_yield 10 (some 67) (.agg #[.int .i64 p, .int .i64 q1, .int .i64 q2, .int .i64 q3, .slice (some ⟨b9, o9, none⟩) N c9]) rfl (by kernel_rfl) (by kernel_rfl) (by kernel_rfl) (fun _ _ _ h => h) rfl rfl ⟨hB, h8, h3⟩ (fun w' h' => exec_load_all 29 _ rfl Wz30.heap.size rfl _ _ _ h'.2.1 Try.underlying29 rfl 5 (by kernel_rfl) rfl) ?_
              go_frame
              refine y_yield 11 (some 68) (.int .i64 i) rfl (by kernel_rfl) (by kernel_rfl) (by kernel_rfl) (fun _ _ _ h => h) rfl rfl ⟨hB, h8, h3⟩ (fun w' h' => exec_move _ rfl (.int .i64 i) rfl) ?_
              go_frame
              refine y_yield 12 (some 69) (.int .i64 j) rfl (by kernel_rfl) (by kernel_rfl) (by kernel_rfl) (fun _ _ _ h => h) rfl rfl ⟨hB, h8, h3⟩ (fun w' h' => exec_move _ rfl (.int .i64 j) rfl) ?_
              go_frame
              refine y_yield 13 (some 70) (.int .i64 k) rfl (by kernel_rfl) (by kernel_rfl) (by kernel_rfl) (fun _ _ _ h => h) rfl rfl ⟨hB, h8, h3⟩ (fun w' h' => exec_move _ rfl (.int .i64 k) rfl) ?_
              go_frame
              refine y_yield 17 (some 74) (.pointer (some ⟨w.heap.size, 0, none⟩)) rfl (by kernel_rfl) (by kernel_rfl) (by kernel_rfl) (fun _ _ _ h => h) rfl rfl ⟨hB, h8, h3⟩ (fun w' h' => exec_fieldAddr 29 _ 0 rfl _ (by kernel_rfl)) ?_
              go_frame
              refine y_yield 18 (some 75) (.int .i64 p) rfl (by kernel_rfl) (by kernel_rfl) (by kernel_rfl) (fun _ _ _ h => h) rfl rfl ⟨hB, h8, h3⟩ (fun w' h' => exec_load_one 2 _ rfl w.heap.size 0 rfl (.int .i64 p) _ Try.underlying2 rfl (h'.2.2.at_ 0)) ?_
              go_frame
              refine y_oper 14 (by kernel_rfl) rfl rfl (fun K' hK' => ?_)
              have lz53 := hB.size
              have lz54 := hB5.size
              have lz55 := h3.lt
              have lz56 := h8.lt
              have lz57 := hR.lt
              refine wp_call4 (some 71) rfl 37 _ _ _ _ _ rfl (fun args w => by kernel_rfl) _ _ _ _ rfl rfl rfl rfl _ (l05AtN_c p q1 q2 q3 (some ⟨b9, o9, none⟩) c9 N q4 i j k _ (hq4.keep hB5) HQl.out HN9.out ha9.2 hb9.2 hd9.2 hlt hj hlt2) (fun e Wz51 h => ?_)
              obtain ⟨rfl, bz52⟩ := h
              replace hB := below_after hB bz52
              replace hB5 := below_after hB5 bz52
              replace h3 := h3.after bz52
              replace h8 := h8.after bz52
              replace hu := hu.below bz52
              replace hR := hR.after bz52
              rw [HXg.out]
              clear bz52
              refine ⟨_, rfl, ?_⟩
              refine hK' _ _ ⟨hB, h8, h3⟩ (fun _ => hR) ?_
              clear hK' K'
              go_frame
              refine y_yield 15 (some 72) (.int .i64 M) rfl (by kernel_rfl) (by kernel_rfl) (by kernel_rfl) (fun _ _ _ h => h) rfl rfl ⟨hB, h8, h3⟩ (fun w' h' => exec_mul _ _ _ _ rfl U X M rfl rfl HM.out) ?_
              go_frame
              refine y_yield 16 (some 73) (.int .i64 Z) rfl (by kernel_rfl) (by kernel_rfl) (by kernel_rfl) (fun _ _ _ h => h) rfl rfl ⟨hB, h8, h3⟩ (fun w' h' => exec_add _ _ _ _ rfl Y M Z rfl rfl HSum.out) ?_
              go_frame
              refine y_yield 19 (some 76) (.int .i64 R) rfl (by kernel_rfl) (by kernel_rfl) (by kernel_rfl) (fun _ _ _ h => h) rfl rfl ⟨hB, h8, h3⟩ (fun w' h' => exec_rem _ _ _ _ rfl Z p R rfl rfl (by omega) HRem.out) ?_
              go_frame
              refine y_yield 20 (some 77) (.pointer (some ⟨we.heap.size, k * 1, none⟩)) rfl (by kernel_rfl) (by kernel_rfl) (by kernel_rfl) (fun _ _ _ h => h) rfl rfl ⟨hB, h8, h3⟩ (fun w' h' => exec_ix0 _ 2 _ _ rfl we.heap.size q3 q3 k 1 rfl rfl Try.underlying22 (by kernel_rfl) (by omega)) ?_
              go_frame
              refine y_oper 21 (by kernel_rfl) rfl rfl (fun K' hK' => ?_)
              have lz60 := hB.size
              have lz61 := hB5.size
              have lz62 := h3.lt
              have lz63 := h8.lt
              have lz64 := hR.lt
              refine wp_store_one 2 _ _ rfl rfl we.heap.size (k * 1) rfl (.int .i64 R) rfl rfl rfl _ _ hR (by kernel_rfl) (by rw [iar_size, HLen.out]; omega) (fun Wz58 pz59 => ?_)
              replace hB := pz59.below hB (by omega)
              replace hB5 := pz59.below hB5 (by omega)
              replace h3 := pz59.other h3 (by omega)
              replace h8 := pz59.other h8 (by omega)
              replace hu := hu.put pz59 (Nat.le_refl _)
              replace hR : At Wz58 we.heap.size (.cells (iar (ctP p ls q4 q1 q2 q3 j k (i + 1))) 2 (0, 0)) := by have h9 := pz59.at_; rwa [Nat.mul_one, iar_set, HSet.out] at h9
              refine hK' _ _ ⟨hB, h8, h3⟩ (fun h => absurd (by decide) h) ?_
              clear hK' K' pz59
              refine y_done (by kernel_rfl) ?_ _
              go_upto_region 15 with (fail)
              refine wp_region_lit ?_
              refine ls_ex (some 55) (.int .i64 i) rfl rfl (exec_move _ rfl (.int .i64 i) rfl) ?_
              go_frame
              refine ls_ex (some 56) (.int .i64 (i + 1)) rfl rfl (exec_add _ _ _ _ rfl i 1 (i + 1) rfl rfl (IntWalk.i64_in _ (by omega))) ?_
              go_frame
              refine ls_ex (some 13) (.int .i64 (i + 1)) rfl rfl (exec_assign _ rfl (.int .i64 (i + 1)) rfl) ?_
              go_frame
              refine wpList_nil ?_
              go_wp2_with fail
              go_roundw
              case rel => exact ⟨i + 1, by omega, by go_num, hB, hB5, h3, h8, hu, hR⟩
              case measure => simp [intOf] <;> omega
            · have hia : i = q1 := by omega
              go_upto_region 14 with (fail)
              refine wp_region_lit ?_
              refine ls_ex (some 51) (.int .i64 i) rfl rfl (exec_move _ rfl (.int .i64 i) rfl) ?_
              go_frame
              refine ls_ex (some 52) (.pointer (some ⟨Wz30.heap.size, 1, none⟩)) rfl rfl (exec_fieldAddr 29 _ 1 rfl _ (by kernel_rfl)) ?_
              go_frame
              refine ls_ex (some 53) (.int .i64 q1) rfl rfl (exec_load_one 2 _ rfl Wz30.heap.size 1 rfl (.int .i64 q1) _ Try.underlying2 rfl (h8.at_ 1)) ?_
              go_frame
              refine ls_ex (some 54) (.bool false) rfl rfl (exec_lss _ _ _ _ rfl i q1 rfl rfl false (decide_eq_false (by omega))) ?_
              go_frame
              refine wpList_nil ?_
              go_upto_region 12 with (fail)
              refine wp_region_lit ?_
              refine ls_ex (some 49) (.int .i64 k) rfl rfl (exec_move _ rfl (.int .i64 k) rfl) ?_
              go_frame
              refine ls_ex (some 50) (.int .i64 (k + 1)) rfl rfl (exec_add _ _ _ _ rfl k 1 (k + 1) rfl rfl (IntWalk.i64_in _ (by omega))) ?_
              go_frame
              refine ls_ex (some 12) (.int .i64 (k + 1)) rfl rfl (exec_assign _ rfl (.int .i64 (k + 1)) rfl) ?_
              go_frame
              refine wpList_nil ?_
              go_wp2_with fail
              go_roundw
              case rel => exact ⟨k + 1, by omega, by go_num, hB, hB5, h3, h8, hu, by have h9 := hR; rw [hia, ctP_next] at h9; exact h9⟩
              case measure => simp [intOf] <;> omega
        · obtain ⟨wk, rfl⟩ : ∃ x : World, x = wr := ⟨_, rfl⟩
          rw [show k = q3 by omega, ctP_all] at hR
          rw [show ctR p ls q4 q1 q2 q3 j = RW j by rw [HRW.out]] at hR
          go_upto_region 11 with (fail)
          refine wp_region_lit ?_
          refine ls_ex (some 45) (.int .i64 k) rfl rfl (exec_move _ rfl (.int .i64 k) rfl) ?_
          go_frame
          refine ls_ex (some 46) (.pointer (some ⟨Wz30.heap.size, 3, none⟩)) rfl rfl (exec_fieldAddr 29 _ 3 rfl _ (by kernel_rfl)) ?_
          go_frame
          refine ls_ex (some 47) (.int .i64 q3) rfl rfl (exec_load_one 2 _ rfl Wz30.heap.size 3 rfl (.int .i64 q3) _ Try.underlying2 rfl (h8.at_ 3)) ?_
          go_frame
          refine ls_ex (some 48) (.bool false) rfl rfl (exec_lss _ _ _ _ rfl k q3 rfl rfl false (decide_eq_false (by omega))) ?_
          go_frame
          refine wpList_nil ?_
          go_upto_region 17 with (fail)
          refine wp_region_lit ?_
          refine ls_ex (some 78) (v) rfl rfl (exec_move _ rfl (v) rfl) ?_
          go_frame
          refine ls_ex (some 79) (.slice (some ⟨we.heap.size, 0, none⟩) q3 q3) rfl rfl (exec_move _ rfl (.slice (some ⟨we.heap.size, 0, none⟩) q3 q3) rfl) ?_
          go_frame
          refine ls_op rfl (fun K' hK' => ?_)
          have lz65 := hB.size
          have lz66 := hB5.size
          have lz67 := h3.lt
          have lz68 := h8.lt
          have lz69 := hR.lt
          have naz74 := hu.away_new
          refine wp_new (some 80) rfl (exec_bsM1 _ rfl ((some ⟨we.heap.size, 0, none⟩)) q3 q3 rfl) (fun Wz70 nnz71 => ?_)
          have bz72 := nnz71.below (Below.refl _ _) (Nat.le_refl _)
          replace hB := below_after hB bz72
          replace hB5 := below_after hB5 bz72
          replace h3 := h3.after bz72
          replace h8 := h8.after bz72
          replace hu := hu.below bz72
          replace hR := hR.after bz72
          have hz73 : At Wz70 wk.heap.size (.cells #[.slice (some ⟨we.heap.size, 0, none⟩) q3 q3] 22 (0, 0)) := nnz71.at_
          refine hK' _ _ ?_
          clear hK' K' nnz71 bz72
          go_frame
          refine ls_op rfl (fun K' hK' => ?_)
          have lz78 := hB.size
          have lz79 := hB5.size
          have lz80 := h3.lt
          have lz81 := h8.lt
          have lz82 := hR.lt
          have lz83 := hz73.lt
          have hz9 := hu.hiLe
          refine wp_appV (some 81) rfl _ _ rfl v j RW rfl hu we.heap.size q3 q3 (iar (RW j)) hR (by have := hB5.size; omega) (by rw [← HRW.out]; exact ctR_len _ _ _ _ _ _ _) (fun t9 X9 hX9 => iar_at hX9) wk.heap.size rfl hz73 (by omega) (by have := hB5.size; omega) (fun v8 Wz75 noz77 grz76 => ?_)
          replace hB := hu.belowG hB grz76 (by omega)
          replace hB5 := hu.belowG hB5 grz76 (Nat.le_refl _)
          replace h3 := h3.grown grz76 (hu.off h3 (by decide))
          replace h8 := h8.grown grz76 (hu.off h8 (by decide))
          replace hu := noz77
          refine hK' _ _ ?_
          clear hK' K' grz76 hz73 hR hz9
          go_frame
          refine ls_ex (some 9) (v8) rfl rfl (exec_assign _ rfl (v8) rfl) ?_
          go_frame
          refine wpList_nil ?_
          go_upto_region 8 with (fail)
          refine wp_region_lit ?_
          refine ls_ex (some 40) (.int .i64 j) rfl rfl (exec_move _ rfl (.int .i64 j) rfl) ?_
          go_frame
          refine ls_ex (some 41) (.int .i64 (j + 1)) rfl rfl (exec_add _ _ _ _ rfl j 1 (j + 1) rfl rfl (IntWalk.i64_in _ (by omega))) ?_
          go_frame
          refine ls_ex (some 10) (.int .i64 (j + 1)) rfl rfl (exec_assign _ rfl (.int .i64 (j + 1)) rfl) ?_
          go_frame
          refine wpList_nil ?_
          go_wp2_with fail
          go_roundw
          case rel => exact ⟨j + 1, v8, _, by omega, rfl, by go_num, hB, hB5, h3, h8, hu⟩
          case measure => simp [intOf] <;> omega
    · have hjb : j = q2 := by omega
      go_upto_region 7 with (fail)
      refine wp_region_lit ?_
      refine ls_ex (some 36) (.int .i64 j) rfl rfl (exec_move _ rfl (.int .i64 j) rfl) ?_
      go_frame
      refine ls_ex (some 37) (.pointer (some ⟨Wz30.heap.size, 2, none⟩)) rfl rfl (exec_fieldAddr 29 _ 2 rfl _ (by kernel_rfl)) ?_
      go_frame
      refine ls_ex (some 38) (.int .i64 q2) rfl rfl (exec_load_one 2 _ rfl Wz30.heap.size 2 rfl (.int .i64 q2) _ Try.underlying2 rfl (h8.at_ 2)) ?_
      go_frame
      refine ls_ex (some 39) (.bool false) rfl rfl (exec_lss _ _ _ _ rfl j q2 rfl rfl false (decide_eq_false (by omega))) ?_
      go_frame
      refine wpList_nil ?_
      go_upto_region 18 with (fail)
      refine wp_region_lit ?_
      refine ls_ex (some 82) (v) rfl rfl (exec_move _ rfl (v) rfl) ?_
      go_frame
      refine ls_ex (some 6) (v) rfl rfl (exec_assign _ rfl (v) rfl) ?_
      go_frame
      refine ls_ex (some 7) (.int .i64 0) rfl rfl (exec_assign _ rfl (.int .i64 0) rfl) ?_
      go_frame
      refine wpList_nil ?_
      go_wp2_with fail
      go_ret2
      rw [HN.out, HF.out]
      exact ⟨v, by rw [HC.out]; rfl, by rw [← hjb]; exact hu.ownV.mono (by omega) (Nat.le_refl _), hB⟩
theorem specContractTensor_c (p a b d : Int) (A : Option Addr) (c : Nat) (xs : List Int) (S : Int) (AL : Option Addr) (cL : Nat) (ls : List Int) (w : World) (hX : RdI w A xs) (hlen : xs.length ≤ 1048576) (hc : xs.length ≤ c) (hN : RdI w AL ls) (hln : ls.length ≤ 1048576) : Calls Try.prog 15 #[.agg #[.int .i64 p, .int .i64 a, .int .i64 b, .int .i64 d, .slice A xs.length c], .int .i64 S, .slice AL ls.length cL] w (ResV w (cnN p a b d S ls xs) (cnF p a b d S ls xs) (cnCode p a b d S ls xs)) := by
  rcases Bool.eq_false_or_eq_true (tenB p a b d xs) with hs | hs
  · rcases Bool.eq_false_or_eq_true (inB S 3) with hS | hS
    · have hpos := ct_nats hs
      obtain ⟨a, b, d, rfl, rfl, rfl⟩ := ten_natsT hs
      have h0 := (ten_parts hs).2
      obtain ⟨bB, oB, rfl, _⟩ := hX.at_ (i := 0) hpos
      have h3 : S = 0 ∨ S = 1 ∨ S = 2 := by simp [inB] at hS; omega
      rcases h3 with rfl | rfl | rfl
      · rcases Bool.eq_false_or_eq_true (listB p a ls) with hT | hT
        · have hl := (listB_parts hT).1
          obtain ⟨bN, oN, rfl, _⟩ := hN.at_ (i := 0) (by have h9 := h0; omega)
          rw [hl]
          exact specCt_y0 p a b d bB oB c xs.length xs bN oN cL a ls w hX rfl hs hN hl hc hT rfl
        · exact specCt_n0 p a b d bB oB c xs.length xs AL cL ls w hX rfl hs hN hln hT
      · rcases Bool.eq_false_or_eq_true (listB p b ls) with hT | hT
        · have hl := (listB_parts hT).1
          obtain ⟨bN, oN, rfl, _⟩ := hN.at_ (i := 0) (by have h9 := h0; omega)
          rw [hl]
          exact specCt_y1 p a b d bB oB c xs.length xs bN oN cL b ls w hX rfl hs hN hl hc hT rfl
        · exact specCt_n1 p a b d bB oB c xs.length xs AL cL ls w hX rfl hs hN hln hT
      · rcases Bool.eq_false_or_eq_true (listB p d ls) with hT | hT
        · have hl := (listB_parts hT).1
          obtain ⟨bN, oN, rfl, _⟩ := hN.at_ (i := 0) (by have h9 := h0; omega)
          rw [hl]
          exact specCt_y2 p a b d bB oB c xs.length xs bN oN cL d ls w hX rfl hs hN hl hc hT rfl
        · exact specCt_n2 p a b d bB oB c xs.length xs AL cL ls w hX rfl hs hN hln hT
    · exact specCt_b p a b d S A c xs AL cL ls w hX hlen hs hS
  · exact specCt_a p a b d S A c xs AL cL ls w hX hlen hs
theorem implContractTensor_c (p a b d : Int) (A : Option Addr) (c : Nat) (xs : List Int) (S : Int) (AL : Option Addr) (cL : Nat) (ls : List Int) (w : World) (hX : RdI w A xs) (hlen : xs.length ≤ 1048576) (hc : xs.length ≤ c) (hN : RdI w AL ls) (hln : ls.length ≤ 1048576) : Calls Try.prog 17 #[.agg #[.int .i64 p, .int .i64 a, .int .i64 b, .int .i64 d, .slice A xs.length c], .int .i64 S, .slice AL ls.length cL] w (ResR w (cnN p a b d S ls xs) (cnF p a b d S ls xs) (cnCode p a b d S ls xs)) := by
  rcases Bool.eq_false_or_eq_true (tenB p a b d xs) with hs | hs
  · rcases Bool.eq_false_or_eq_true (inB S 3) with hS | hS
    · have hpos := ct_nats hs
      obtain ⟨a, b, d, rfl, rfl, rfl⟩ := ten_natsT hs
      have h0 := (ten_parts hs).2
      obtain ⟨bB, oB, rfl, _⟩ := hX.at_ (i := 0) hpos
      have h3 : S = 0 ∨ S = 1 ∨ S = 2 := by simp [inB] at hS; omega
      rcases h3 with rfl | rfl | rfl
      · rcases Bool.eq_false_or_eq_true (listB p a ls) with hT | hT
        · have hl := (listB_parts hT).1
          obtain ⟨bN, oN, rfl, _⟩ := hN.at_ (i := 0) (by have h9 := h0; omega)
          rw [hl]
          exact implCt_y0 p a b d bB oB c xs.length xs bN oN cL a ls w hX rfl hs hN hl hc hT rfl
        · exact implCt_n0 p a b d bB oB c xs.length xs AL cL ls w hX rfl hs hN hln hT
      · rcases Bool.eq_false_or_eq_true (listB p b ls) with hT | hT
        · have hl := (listB_parts hT).1
          obtain ⟨bN, oN, rfl, _⟩ := hN.at_ (i := 0) (by have h9 := h0; omega)
          rw [hl]
          exact implCt_y1 p a b d bB oB c xs.length xs bN oN cL b ls w hX rfl hs hN hl hc hT rfl
        · exact implCt_n1 p a b d bB oB c xs.length xs AL cL ls w hX rfl hs hN hln hT
      · rcases Bool.eq_false_or_eq_true (listB p d ls) with hT | hT
        · have hl := (listB_parts hT).1
          obtain ⟨bN, oN, rfl, _⟩ := hN.at_ (i := 0) (by have h9 := h0; omega)
          rw [hl]
          exact implCt_y2 p a b d bB oB c xs.length xs bN oN cL d ls w hX rfl hs hN hl hc hT rfl
        · exact implCt_n2 p a b d bB oB c xs.length xs AL cL ls w hX rfl hs hN hln hT
    · exact implCt_b p a b d S A c xs AL cL ls w hX hlen hs hS
  · exact implCt_a p a b d S A c xs AL cL ls w hX hlen hs
theorem cn_ok {p a b d S : Int} {ls xs : List Int} : cnN p a b d S ls xs + tot (cnF p a b d S ls xs) (cnN p a b d S ls xs) ≤ 1048576 := by
  unfold cnN
  split
  · next h =>
    unfold ctOK at h
    rw [Bool.and_eq_true] at h
    obtain ⟨a, b, d, rfl, rfl, rfl⟩ := ten_natsT h.1
    have hS : inB S 3 = true := by
      have := h.2
      rw [Bool.and_eq_true] at this
      exact this.1
    have h3 : S = 0 ∨ S = 1 ∨ S = 2 := by simp [inB] at hS; omega
    have hq : (slQ p a b d S xs).2.1 ≤ 9 ∧ (slQ p a b d S xs).2.2.1 ≤ 9 := by
      have hd := (ten_parts h.1).2
      rcases h3 with rfl | rfl | rfl
      · exact ⟨hd.2.1.2, hd.2.2.1.2⟩
      · exact ⟨hd.2.2.1.2, hd.1.2⟩
      · exact ⟨hd.1.2, hd.2.1.2⟩
    have h5 := tot_le (row := cnF p a b d S ls xs) (n := (slQ p a b d S xs).2.1) (K := 9) (fun i _ => by simp only [cnF, cnG, ctR_len]; omega)
    omega
  · simp [tot]
end Go.Proofs.Ytolgfpcadfjliaa
