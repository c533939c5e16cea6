/-
  ValueOfTensor of both sides. (Made by mkvt.py.)
-/
import Derived.Test.YtbahcbmmkbokgaaL9t
import Derived.Test.YtbahcbmmkbokgaaTen4
import Derived.Test.YtbahcbmmkbokgaaTen5
import Derived.Handy
namespace Go.Proofs.Ytbahcbmmkbokgaa
open Go.RowKit
set_option maxRecDepth 100000
attribute [local irreducible] wpList
theorem inB_sp (x p : Int) : inB x p = (decide (0 ≤ x) && decide (x ≤ p - 1)) := by
  rw [Bool.eq_iff_iff]
  simp only [inB, Bool.and_eq_true, decide_eq_true_eq]
  omega
set_option maxHeartbeats 4000000 in
theorem l05Numbers_c (p n : Int) (Ax : Option Addr) (cx : Nat) (xs : List Int) (w : World) (hp : -1000 ≤ p ∧ p ≤ 1000) (hx : RdI w Ax xs) (hnx : xs.length ≤ 1048576) :
    Calls Try.prog 33 #[.int .i64 p, .slice Ax xs.length cx, .int .i64 n] w (fun e w' => e = .returned (.bool (numsB p xs && ((xs.length : Int) == n))) ∧ Below w.heap.size w w') := by
  have hB := Below.refl w.heap.size w
  skip
  go_enter Try.func33, Try.ntmps33
  go_upto_region 0 with (fail)
  refine wp_region_lit ?_
  refine ls_ex (some 6) (.bool false) rfl rfl (exec_assign _ rfl (.bool false) rfl) ?_
  go_frame
  refine wpList_nil ?_
  go_upto_region 1 with (fail)
  refine wp_region_lit ?_
  refine ls_ex (some 7) (.int .i64 0) rfl rfl (exec_assign _ rfl (.int .i64 0) rfl) ?_
  go_frame
  refine wpList_nil ?_
  go_wp2_with fail
  go_loopw [7] (fun s7 wr => ∃ i : Nat, i ≤ xs.length ∧ s7 = .int .i64 i ∧ Below w.heap.size w wr ∧ Hid (∀ (y : Nat) (hy : y < xs.length), y < i → inB xs[y] p = true)) (fun s7 _ => xs.length - (intOf s7).toNat)
  case atStart => exact ⟨0, by omega, rfl, hB, Lib.hid (by omega)⟩
  case round =>
    clear hB
    obtain ⟨i, hi, rfl, hB, HA⟩ := hrel
    by_cases hlt : i < xs.length
    · obtain ⟨b, off, rfl, hc⟩ := (hx.keep hB).at_ hlt
      have Hc := Lib.hid hc
      clear hc
      cases hb : inB xs[i] p with
      | false =>
        have HNo : Hid (numsB p xs = false) := Lib.hid (numsB_no hlt hb)
        have HIn : Hid ((decide (0 ≤ xs[i]) && decide (xs[i] ≤ p - 1)) = false) := Lib.hid (by rw [← inB_sp]; exact hb)
        clear hb
        go_upto_region 2 with (fail)
        refine wp_region_lit ?_
        refine ls_ex (some 8) (.int .i64 i) rfl rfl (exec_move _ rfl (.int .i64 i) rfl) ?_
        go_frame
        refine ls_ex (some 9) (.slice (some ⟨b, off, none⟩) xs.length cx) rfl rfl (exec_move _ rfl (.slice (some ⟨b, off, none⟩) xs.length cx) rfl) ?_
        go_frame
        refine ls_ex (some 10) (.int .i64 xs.length) rfl rfl (exec_len _ 26 2 rfl ((some ⟨b, off, none⟩)) xs.length cx rfl Try.underlying26) ?_
        go_frame
        refine ls_ex (some 11) (.bool true) rfl rfl (exec_lss _ _ _ _ rfl i xs.length rfl rfl true (decide_eq_true (by omega))) ?_
        go_frame
        refine wpList_nil ?_
        go_upto_region 4 with (fail)
        refine wp_region_lit ?_
        refine ls_ex (some 14) (.slice (some ⟨b, off, none⟩) xs.length cx) rfl rfl (exec_move _ rfl (.slice (some ⟨b, off, none⟩) xs.length cx) rfl) ?_
        go_frame
        refine ls_ex (some 15) (.int .i64 i) rfl rfl (exec_move _ rfl (.int .i64 i) rfl) ?_
        go_frame
        refine ls_ex (some 16) (.pointer (some ⟨b, off + i * 1, none⟩)) rfl rfl (exec_index_slice _ 2 _ _ rfl b off xs.length cx i 1 rfl rfl Try.underlying26 (by kernel_rfl) (by omega)) ?_
        go_frame
        refine ls_ex (some 17) (.int .i64 xs[i]) rfl rfl (exec_load_one 2 _ rfl b (off + i * 1) rfl (.int .i64 xs[i]) _ Try.underlying2 rfl (by rw [Nat.mul_one]; exact Hc.out)) ?_
        go_frame
        refine ls_ex (some 18) (.int .i64 p) rfl rfl (exec_move _ rfl (.int .i64 p) rfl) ?_
        go_frame
        refine ls_ex (some 19) (.int .i64 (p - 1)) rfl rfl (exec_sub _ _ _ _ rfl p 1 (p - 1) rfl rfl (IntWalk.i64_in _ (by omega))) ?_
        go_frame
        refine ls_op rfl (fun K' hK' => ?_)
        have lz3 := hB.size
        refine wp_call3 (some 20) rfl 40 _ _ _ _ rfl (fun args w => by kernel_rfl) _ _ _ rfl rfl rfl _ (l01In_c xs[i] 0 (p - 1) _) (fun e Wz1 h => ?_)
        obtain ⟨rfl, rfl⟩ := h
        rw [HIn.out]
        refine ⟨_, rfl, ?_⟩
        refine hK' _ _ ?_
        clear hK' K'
        go_frame
        refine ls_ex (some 21) (.bool true) rfl rfl (exec_not _ _ rfl false rfl) ?_
        go_frame
        refine wpList_nil ?_
        go_upto_region 5 with (fail)
        refine wp_region_lit ?_
        refine ls_ex (some 6) (.bool false) rfl rfl (exec_assign _ rfl (.bool false) rfl) ?_
        go_frame
        refine wpList_nil ?_
        go_wp2_with fail
        go_ret
        exact ⟨by rw [HNo.out]; rfl, hB⟩
      | true =>
        have HS : Hid (∀ (y : Nat) (hy : y < xs.length), y < i + 1 → inB xs[y] p = true) := Lib.hid (fun y hy hyk => by by_cases e : y = i; subst e; exact hb; exact HA.out y hy (by omega))
        have HIn : Hid ((decide (0 ≤ xs[i]) && decide (xs[i] ≤ p - 1)) = true) := Lib.hid (by rw [← inB_sp]; exact hb)
        clear hb
        go_upto_region 2 with (fail)
        refine wp_region_lit ?_
        refine ls_ex (some 8) (.int .i64 i) rfl rfl (exec_move _ rfl (.int .i64 i) rfl) ?_
        go_frame
        refine ls_ex (some 9) (.slice (some ⟨b, off, none⟩) xs.length cx) rfl rfl (exec_move _ rfl (.slice (some ⟨b, off, none⟩) xs.length cx) rfl) ?_
        go_frame
        refine ls_ex (some 10) (.int .i64 xs.length) rfl rfl (exec_len _ 26 2 rfl ((some ⟨b, off, none⟩)) xs.length cx rfl Try.underlying26) ?_
        go_frame
        refine ls_ex (some 11) (.bool true) rfl rfl (exec_lss _ _ _ _ rfl i xs.length rfl rfl true (decide_eq_true (by omega))) ?_
        go_frame
        refine wpList_nil ?_
        go_upto_region 4 with (fail)
        refine wp_region_lit ?_
        refine ls_ex (some 14) (.slice (some ⟨b, off, none⟩) xs.length cx) rfl rfl (exec_move _ rfl (.slice (some ⟨b, off, none⟩) xs.length cx) rfl) ?_
        go_frame
        refine ls_ex (some 15) (.int .i64 i) rfl rfl (exec_move _ rfl (.int .i64 i) rfl) ?_
        go_frame
        refine ls_ex (some 16) (.pointer (some ⟨b, off + i * 1, none⟩)) rfl rfl (exec_index_slice _ 2 _ _ rfl b off xs.length cx i 1 rfl rfl Try.underlying26 (by kernel_rfl) (by omega)) ?_
        go_frame
        refine ls_ex (some 17) (.int .i64 xs[i]) rfl rfl (exec_load_one 2 _ rfl b (off + i * 1) rfl (.int .i64 xs[i]) _ Try.underlying2 rfl (by rw [Nat.mul_one]; exact Hc.out)) ?_
        go_frame
        refine ls_ex (some 18) (.int .i64 p) rfl rfl (exec_move _ rfl (.int .i64 p) rfl) ?_
        go_frame
        refine ls_ex (some 19) (.int .i64 (p - 1)) rfl rfl (exec_sub _ _ _ _ rfl p 1 (p - 1) rfl rfl (IntWalk.i64_in _ (by omega))) ?_
        go_frame
        refine ls_op rfl (fun K' hK' => ?_)
        have lz6 := hB.size
        refine wp_call3 (some 20) rfl 40 _ _ _ _ rfl (fun args w => by kernel_rfl) _ _ _ rfl rfl rfl _ (l01In_c xs[i] 0 (p - 1) _) (fun e Wz4 h => ?_)
        obtain ⟨rfl, rfl⟩ := h
        rw [HIn.out]
        refine ⟨_, rfl, ?_⟩
        refine hK' _ _ ?_
        clear hK' K'
        go_frame
        refine ls_ex (some 21) (.bool false) rfl rfl (exec_not _ _ rfl true rfl) ?_
        go_frame
        refine wpList_nil ?_
        go_upto_region 3 with (fail)
        refine wp_region_lit ?_
        refine ls_ex (some 12) (.int .i64 i) rfl rfl (exec_move _ rfl (.int .i64 i) rfl) ?_
        go_frame
        refine ls_ex (some 13) (.int .i64 (i + 1)) rfl rfl (exec_add _ _ _ _ rfl i 1 (i + 1) rfl rfl (IntWalk.i64_in _ (by omega))) ?_
        go_frame
        refine ls_ex (some 7) (.int .i64 (i + 1)) rfl rfl (exec_assign _ rfl (.int .i64 (i + 1)) rfl) ?_
        go_frame
        refine wpList_nil ?_
        go_wp2_with fail
        go_roundw
        case rel => exact ⟨i + 1, by omega, by go_num, hB, HS⟩
        case measure => simp [intOf]; omega
    · have HY : Hid (numsB p xs = true) := Lib.hid (numsB_yes fun y hy => HA.out y hy (by omega))
      clear HA
      go_upto_region 2 with (fail)
      refine wp_region_lit ?_
      refine ls_ex (some 8) (.int .i64 i) rfl rfl (exec_move _ rfl (.int .i64 i) rfl) ?_
      go_frame
      refine ls_ex (some 9) (.slice Ax xs.length cx) rfl rfl (exec_move _ rfl (.slice Ax xs.length cx) rfl) ?_
      go_frame
      refine ls_ex (some 10) (.int .i64 xs.length) rfl rfl (exec_len _ 26 2 rfl Ax xs.length cx rfl Try.underlying26) ?_
      go_frame
      refine ls_ex (some 11) (.bool false) rfl rfl (exec_lss _ _ _ _ rfl i xs.length rfl rfl false (decide_eq_false (by omega))) ?_
      go_frame
      refine wpList_nil ?_
      go_upto_region 6 with (fail)
      refine wp_region_lit ?_
      refine ls_ex (some 22) (.slice Ax xs.length cx) rfl rfl (exec_move _ rfl (.slice Ax xs.length cx) rfl) ?_
      go_frame
      refine ls_ex (some 23) (.int .i64 xs.length) rfl rfl (exec_len _ 26 2 rfl Ax xs.length cx rfl Try.underlying26) ?_
      go_frame
      refine ls_ex (some 24) (.int .i64 n) rfl rfl (exec_move _ rfl (.int .i64 n) rfl) ?_
      go_frame
      refine ls_ex (some 25) (.bool ((xs.length : Int) == n)) rfl rfl (exec_eql _ _ _ _ rfl (xs.length : Int) n rfl rfl _ rfl) ?_
      go_frame
      refine ls_ex (some 6) (.bool ((xs.length : Int) == n)) rfl rfl (exec_assign _ rfl (.bool ((xs.length : Int) == n)) rfl) ?_
      go_frame
      refine wpList_nil ?_
      go_wp2_with fail
      go_ret
      exact ⟨by rw [HY.out]; rfl, hB⟩
theorem wp_make_I {o : Oper} {a : Act} {w : World} {K : Act → World → Prop} {Q : Exit → Act → World → Prop} (d : Option Tmp) (hd : o.dst = d) (l c : Operand) (hop : o.op = Op.makeSlice 26 l c)
    (n : Nat) (hl : a.eval l = .int .i64 n) (hc : a.eval c = .int .i64 n) (hb : n ≤ 1000000)
    (h : ∀ w', New w w' (.cells (iar (List.replicate n 0)) 2 (0, 0)) → K (a.put d (.slice (some ⟨w.heap.size, 0, none⟩) n n)) w') : Oper.wp Try.prog o a w K Q := by
  subst hd
  obtain ⟨i, hi0, hz, h1, h2⟩ := info_parts infoI64
  have hr := run_make (P := Try.prog) w 26 2 i _ Try.underlying26 hi0 hz .i64 .i64 n n (by omega) (Int.le_refl _) (by rw [h2]; omega) (by omega)
  have hzc : (Value.int .i64 0).cells = #[Value.int .i64 0] := rfl
  simp only [Int.toNat_natCast, h1, hzc, made_one, iar_zero] at hr
  unfold Oper.wp
  simp [execOp, hop, hl, hc, hr, Result.andThen]
  exact h _ (New.alloc _ _)

theorem RdI.c1v {w : World} {b off : Nat} {xs : List Int} {X : Int} {i : Nat} (h : RdI w (some ⟨b, off, none⟩) xs) (hi : xs[i]? = some X) : w.cell? ⟨b, off + i * 1, none⟩ = some (.int .i64 X) := by
  have hlt : i < xs.length := by
    rcases Nat.lt_or_ge i xs.length with h9 | h9
    · exact h9
    · rw [List.getElem?_eq_none h9] at hi; cases hi
  obtain ⟨b', off', hA0, hc⟩ := h.at_ hlt
  cases hA0
  rw [List.getElem?_eq_getElem hlt] at hi
  cases hi
  rw [Nat.mul_one]
  exact hc
theorem numsB_at {p : Int} {xs : List Int} {i : Nat} (h : numsB p xs = true) (hi : i < xs.length) : 0 ≤ xs[i] ∧ xs[i] < p := by
  simp only [numsB, List.all_eq_true] at h
  have := h xs[i] (List.getElem_mem hi)
  simpa [inB] using this
theorem m44 {a b : Int} (ha : 0 ≤ a ∧ a ≤ 16) (hb : 0 ≤ b ∧ b ≤ 4) : 0 ≤ a * b ∧ a * b ≤ 64 := by
  have h : b = 0 ∨ b = 1 ∨ b = 2 ∨ b = 3 ∨ b = 4 := by omega
  rcases h with rfl | rfl | rfl | rfl | rfl <;> omega
theorem m4 {a b : Int} (ha : 0 ≤ a ∧ a ≤ 4) (hb : 0 ≤ b ∧ b ≤ 4) : 0 ≤ a * b ∧ a * b ≤ 16 := by
  have h : b = 0 ∨ b = 1 ∨ b = 2 ∨ b = 3 ∨ b = 4 := by omega
  rcases h with rfl | rfl | rfl | rfl | rfl <;> omega
/-- What a tensor makes, place by place, behind so many pairs of numbers. -/
def vtN (p : Int) (n1 n2 : Nat) (xs us vs : List Int) : Nat → Nat → Int
  | 0, _ => 0
  | c + 1, k => (vtN p n1 n2 xs us vs c k + at3 n1 n2 xs (c / n1) (c % n1) k * us[c / n1]?.getD 0 * vs[c % n1]?.getD 0) % p
def vtL (p : Int) (n1 n2 : Nat) (xs us vs : List Int) (c : Nat) : List Int := (List.range n2).map (vtN p n1 n2 xs us vs c)
theorem vtL_len (p : Int) (n1 n2 : Nat) (xs us vs : List Int) (c : Nat) : (vtL p n1 n2 xs us vs c).length = n2 := by simp [vtL]
theorem vtL_get (p : Int) (n1 n2 : Nat) (xs us vs : List Int) (c : Nat) {k : Nat} (h : k < n2) : (vtL p n1 n2 xs us vs c)[k]? = some (vtN p n1 n2 xs us vs c k) := by simp [vtL, h]
theorem vtL_zero (p : Int) (n1 n2 : Nat) (xs us vs : List Int) : vtL p n1 n2 xs us vs 0 = List.replicate n2 0 := by
  apply List.ext_getElem
  · simp [vtL]
  · intro t h1 h2
    simp [vtL, vtN]
theorem vtN_b {p : Int} (hp : 2 ≤ p ∧ p ≤ 5) (n1 n2 : Nat) (xs us vs : List Int) (c k : Nat) : 0 ≤ vtN p n1 n2 xs us vs c k ∧ vtN p n1 n2 xs us vs c k ≤ 4 := by
  cases c with
  | zero => simp [vtN]
  | succ c =>
    simp only [vtN]
    have h1 := Int.emod_nonneg (vtN p n1 n2 xs us vs c k + at3 n1 n2 xs (c / n1) (c % n1) k * us[c / n1]?.getD 0 * vs[c % n1]?.getD 0) (show p ≠ 0 by omega)
    have h2 := Int.emod_lt_of_pos (vtN p n1 n2 xs us vs c k + at3 n1 n2 xs (c / n1) (c % n1) k * us[c / n1]?.getD 0 * vs[c % n1]?.getD 0) (show 0 < p by omega)
    omega
theorem vtN_step {p : Int} {n1 n2 : Nat} {xs us vs : List Int} {a b k : Nat} {X U Y : Int} (hb : b < n1) (hX : at3 n1 n2 xs a b k = X) (hU : us[a]? = some U) (hY : vs[b]? = some Y) : vtN p n1 n2 xs us vs (a * n1 + b + 1) k = (vtN p n1 n2 xs us vs (a * n1 + b) k + X * U * Y) % p := by
  have d1 : (a * n1 + b) / n1 = a := by rw [Nat.mul_comm, Nat.mul_add_div (by omega), Nat.div_eq_of_lt hb]; omega
  have d2 : (a * n1 + b) % n1 = b := by rw [Nat.mul_comm, Nat.mul_add_mod]; exact Nat.mod_eq_of_lt hb
  simp only [vtN]
  rw [d1, d2, hX, hU, hY]
  rfl
def votCode (p i j k : Int) (xs us vs : List Int) : Int := if tenB p i j k xs = true then (if (listB p i us && listB p j vs) = true then 0 else 2) else 1
def votL (p i j k : Int) (xs us vs : List Int) : List Int := if votCode p i j k xs us vs = 0 then vtL p j.toNat k.toNat xs us vs (i.toNat * j.toNat) else []
theorem vot_len {p i j k : Int} {xs us vs : List Int} : (votL p i j k xs us vs).length ≤ 1048576 := by
  unfold votL
  split
  · next h =>
    unfold votCode at h
    split at h
    · next h2 =>
      have h3 := (tenB_parts h2).2.2.2.1
      have := sideB_in h3
      rw [vtL_len]; omega
    · omega
  · simp
theorem listB_sw (p n : Int) (xs : List Int) : (numsB p xs && ((xs.length : Int) == n)) = listB p n xs := by
  unfold listB
  rw [Bool.and_comm]
  rfl
theorem numberAt_m (p : Int) (n0 n1 n2 : Nat) (A : Option Addr) (cap : Nat) (xs : List Int) (i j k : Nat) (w : World) (hr : RdI w A xs) (hl : xs.length = n0 * n1 * n2) (h0 : n0 ≤ 9) (h1 : n1 ≤ 9) (h2 : n2 ≤ 9) (hi : i < n0) (hj : j < n1) (hk : k < n2) :
    Calls Try.prog 92 #[.agg #[.int .i64 p, .int .i64 n0, .int .i64 n1, .int .i64 n2, .slice A xs.length cap], .int .i64 i, .int .i64 j, .int .i64 k] w fun e w' => e = .returned (.int .i64 (at3 n1 n2 xs i j k)) ∧ Below w.heap.size w w' := by
  have h := numberAt_c p n0 n1 n2 A cap xs i j k w hr (by rw [hl]; simp) (by omega) (by omega) (by omega) (by omega) (by omega) (by omega) (by omega) (by omega) (by omega)
  have e : at3 n1 n2 xs i j k = nthI xs ((i * n1 + j) * n2 + k) := by unfold at3; congr 1
  rw [e]
  exact h
set_option maxHeartbeats 4000000 in
theorem specVot_a (p i j k : Int) (A : Option Addr) (c : Nat) (xs : List Int) (Bu : Option Addr) (cu : Nat) (us : List Int) (Bv : Option Addr) (cv : Nat) (vs : List Int) (w : World) (hX : RdI w A xs) (hxl : xs.length ≤ 1048576) (hU : RdI w Bu us) (hul : us.length ≤ 1048576) (hV : RdI w Bv vs) (hvl : vs.length ≤ 1048576) (ht : tenB p i j k xs = false) :
    Calls Try.prog 22 #[.agg #[.int .i64 p, .int .i64 i, .int .i64 j, .int .i64 k, .slice A xs.length c], .slice Bu us.length cu, .slice Bv vs.length cv] w (ResI w (votL p i j k xs us vs) (votCode p i j k xs us vs)) := by
  have hB := Below.refl w.heap.size w
  have _u0 := hU
  have _u1 := hul
  have _u2 := hV
  have _u3 := hvl
  clear _u0 _u1 _u2 _u3
  have HC : Hid (votCode p i j k xs us vs = 1) := Lib.hid (by unfold votCode; simp [ht])
  have HR : Hid (votL p i j k xs us vs = []) := Lib.hid (by unfold votL; rw [HC.out]; rfl)
  have Ht := Lib.hid ht
  clear ht
  go_enter Try.func22, Try.ntmps22
  go_upto_region 0 with (fail)
  refine wp_region_lit ?_
  refine ls_op rfl (fun K' hK' => ?_)
  have lz1 := hB.size
  refine wp_new (some 3) rfl (exec_box 28 _ rfl (#[.int .i64 p, .int .i64 i, .int .i64 j, .int .i64 k, .slice A xs.length c]) rfl) (fun Wz2 nnz3 => ?_)
  have bz4 := nnz3.below (Below.refl _ _) (Nat.le_refl _)
  replace hB := below_after hB bz4
  have hz5 : At Wz2 w.heap.size (.cells #[.int .i64 p, .int .i64 i, .int .i64 j, .int .i64 k, .slice A xs.length c] 28 (0, 0)) := nnz3.at_
  refine hK' _ _ ?_
  clear hK' K' nnz3 bz4
  go_frame
  refine ls_ex (some 6) (.slice none 0 0) rfl rfl (exec_assign _ rfl (.slice none 0 0) rfl) ?_
  go_frame
  refine ls_ex (some 7) (.int .i64 0) rfl rfl (exec_assign _ rfl (.int .i64 0) rfl) ?_
  go_frame
  refine wpList_nil ?_
  go_upto_region 1 with (fail)
  refine wp_region_lit ?_
  refine ls_ex (some 13) (.agg #[.int .i64 p, .int .i64 i, .int .i64 j, .int .i64 k, .slice A xs.length c]) rfl rfl (exec_load_all 28 _ rfl w.heap.size rfl _ _ _ hz5 Try.underlying28 rfl 5 (by kernel_rfl) rfl) ?_
  go_frame
  refine ls_op rfl (fun K' hK' => ?_)
  have lz8 := hB.size
  have lz9 := hz5.lt
  refine wp_call1 (some 14) rfl 37 _ _ rfl (fun args w => by kernel_rfl) _ rfl _ (l05Is_c p i j k A c xs _ (hX.keep hB) hxl) (fun e Wz6 h => ?_)
  obtain ⟨rfl, bz7⟩ := h
  replace hB := below_after hB bz7
  replace hz5 := hz5.after bz7
  rw [Ht.out]
  clear bz7
  refine ⟨_, rfl, ?_⟩
  refine hK' _ _ ?_
  clear hK' K'
  go_frame
  refine ls_ex (some 15) (.bool true) rfl rfl (exec_not _ _ rfl false rfl) ?_
  go_frame
  refine ls_ex (some 12) (.bool true) rfl rfl (exec_assign _ rfl (.bool true) rfl) ?_
  go_frame
  refine wpList_nil ?_
  go_upto_region 2 with (fail)
  refine wp_region_lit ?_
  refine ls_ex (some 6) (.slice none 0 0) rfl rfl (exec_assign _ rfl (.slice none 0 0) rfl) ?_
  go_frame
  refine ls_ex (some 7) (.int .i64 1) rfl rfl (exec_assign _ rfl (.int .i64 1) rfl) ?_
  go_frame
  refine wpList_nil ?_
  go_wp2_with fail
  go_ret2
  exact ⟨_, by rw [HC.out]; rfl, by rw [HR.out]; exact OwnI.nil _ _, hB⟩
set_option maxHeartbeats 4000000 in
theorem specVot_b (p i j k : Int) (A : Option Addr) (c : Nat) (xs : List Int) (Bu : Option Addr) (cu : Nat) (us : List Int) (Bv : Option Addr) (cv : Nat) (vs : List Int) (w : World) (hX : RdI w A xs) (hxl : xs.length ≤ 1048576) (hU : RdI w Bu us) (hul : us.length ≤ 1048576) (hV : RdI w Bv vs) (hvl : vs.length ≤ 1048576) (ht : tenB p i j k xs = true) (hu : listB p i us = false) :
    Calls Try.prog 22 #[.agg #[.int .i64 p, .int .i64 i, .int .i64 j, .int .i64 k, .slice A xs.length c], .slice Bu us.length cu, .slice Bv vs.length cv] w (ResI w (votL p i j k xs us vs) (votCode p i j k xs us vs)) := by
  have hB := Below.refl w.heap.size w
  have _u0 := hV
  have _u1 := hvl
  clear _u0 _u1
  have HC : Hid (votCode p i j k xs us vs = 2) := Lib.hid (by unfold votCode; simp [ht, hu])
  have HR : Hid (votL p i j k xs us vs = []) := Lib.hid (by unfold votL; rw [HC.out]; rfl)
  have hp5 := prime_le5 (tenB_parts ht).1
  have Ht := Lib.hid ht
  have HLU := Lib.hid hu
  clear ht hu
  go_enter Try.func22, Try.ntmps22
  go_upto_region 0 with (fail)
  refine wp_region_lit ?_
  refine ls_op rfl (fun K' hK' => ?_)
  have lz1 := hB.size
  refine wp_new (some 3) rfl (exec_box 28 _ rfl (#[.int .i64 p, .int .i64 i, .int .i64 j, .int .i64 k, .slice A xs.length c]) rfl) (fun Wz2 nnz3 => ?_)
  have bz4 := nnz3.below (Below.refl _ _) (Nat.le_refl _)
  replace hB := below_after hB bz4
  have hz5 : At Wz2 w.heap.size (.cells #[.int .i64 p, .int .i64 i, .int .i64 j, .int .i64 k, .slice A xs.length c] 28 (0, 0)) := nnz3.at_
  refine hK' _ _ ?_
  clear hK' K' nnz3 bz4
  go_frame
  refine ls_ex (some 6) (.slice none 0 0) rfl rfl (exec_assign _ rfl (.slice none 0 0) rfl) ?_
  go_frame
  refine ls_ex (some 7) (.int .i64 0) rfl rfl (exec_assign _ rfl (.int .i64 0) rfl) ?_
  go_frame
  refine wpList_nil ?_
  go_upto_region 1 with (fail)
  refine wp_region_lit ?_
  refine ls_ex (some 13) (.agg #[.int .i64 p, .int .i64 i, .int .i64 j, .int .i64 k, .slice A xs.length c]) rfl rfl (exec_load_all 28 _ rfl w.heap.size rfl _ _ _ hz5 Try.underlying28 rfl 5 (by kernel_rfl) rfl) ?_
  go_frame
  refine ls_op rfl (fun K' hK' => ?_)
  have lz8 := hB.size
  have lz9 := hz5.lt
  refine wp_call1 (some 14) rfl 37 _ _ rfl (fun args w => by kernel_rfl) _ rfl _ (l05Is_c p i j k A c xs _ (hX.keep hB) hxl) (fun e Wz6 h => ?_)
  obtain ⟨rfl, bz7⟩ := h
  replace hB := below_after hB bz7
  replace hz5 := hz5.after bz7
  rw [Ht.out]
  clear bz7
  refine ⟨_, rfl, ?_⟩
  refine hK' _ _ ?_
  clear hK' K'
  go_frame
  refine ls_ex (some 15) (.bool false) rfl rfl (exec_not _ _ rfl true rfl) ?_
  go_frame
  refine ls_ex (some 12) (.bool false) rfl rfl (exec_assign _ rfl (.bool false) rfl) ?_
  go_frame
  refine wpList_nil ?_
  go_upto_region 3 with (fail)
  refine wp_region_lit ?_
  refine ls_ex (some 17) (.pointer (some ⟨w.heap.size, 0, none⟩)) rfl rfl (exec_fieldAddr 28 _ 0 rfl _ (by kernel_rfl)) ?_
  go_frame
  refine ls_ex (some 18) (.int .i64 p) rfl rfl (exec_load_one 2 _ rfl w.heap.size 0 rfl (.int .i64 p) _ Try.underlying2 rfl (hz5.at_ 0)) ?_
  go_frame
  refine ls_ex (some 19) (.slice Bu us.length cu) rfl rfl (exec_move _ rfl (.slice Bu us.length cu) rfl) ?_
  go_frame
  refine ls_ex (some 20) (.pointer (some ⟨w.heap.size, 1, none⟩)) rfl rfl (exec_fieldAddr 28 _ 1 rfl _ (by kernel_rfl)) ?_
  go_frame
  refine ls_ex (some 21) (.int .i64 i) rfl rfl (exec_load_one 2 _ rfl w.heap.size 1 rfl (.int .i64 i) _ Try.underlying2 rfl (hz5.at_ 1)) ?_
  go_frame
  refine ls_op rfl (fun K' hK' => ?_)
  have lz12 := hB.size
  have lz13 := hz5.lt
  refine wp_call3 (some 22) rfl 33 _ _ _ _ rfl (fun args w => by kernel_rfl) _ _ _ rfl rfl rfl _ (l05Numbers_c p i Bu cu us _ (by omega) (hU.keep hB) hul) (fun e Wz10 h => ?_)
  obtain ⟨rfl, bz11⟩ := h
  replace hB := below_after hB bz11
  replace hz5 := hz5.after bz11
  rw [listB_sw, HLU.out]
  clear bz11
  refine ⟨_, rfl, ?_⟩
  refine hK' _ _ ?_
  clear hK' K'
  go_frame
  refine ls_ex (some 23) (.bool true) rfl rfl (exec_not _ _ rfl false rfl) ?_
  go_frame
  refine ls_ex (some 24) (.bool true) rfl rfl (exec_move _ rfl (.bool true) rfl) ?_
  go_frame
  refine ls_skip_g (some 25) rfl rfl ?_
  go_frame
  refine ls_skip_g (some 26) rfl rfl ?_
  go_frame
  refine ls_skip_g (some 27) rfl rfl ?_
  go_frame
  refine ls_skip_g (some 28) rfl rfl ?_
  go_frame
  refine ls_skip_g (some 29) rfl rfl ?_
  go_frame
  refine ls_skip_g (some 30) rfl rfl ?_
  go_frame
  refine ls_skip_g (some 31) rfl rfl ?_
  go_frame
  refine ls_ex (some 32) (.bool true) rfl rfl (exec_pick _ _ _ rfl true rfl (.bool true) rfl) ?_
  go_frame
  refine ls_ex (some 16) (.bool true) rfl rfl (exec_assign _ rfl (.bool true) rfl) ?_
  go_frame
  refine wpList_nil ?_
  go_upto_region 4 with (fail)
  refine wp_region_lit ?_
  refine ls_ex (some 6) (.slice none 0 0) rfl rfl (exec_assign _ rfl (.slice none 0 0) rfl) ?_
  go_frame
  refine ls_ex (some 7) (.int .i64 2) rfl rfl (exec_assign _ rfl (.int .i64 2) rfl) ?_
  go_frame
  refine wpList_nil ?_
  go_wp2_with fail
  go_ret2
  exact ⟨_, by rw [HC.out]; rfl, by rw [HR.out]; exact OwnI.nil _ _, hB⟩
set_option maxHeartbeats 4000000 in
theorem specVot_c (p i j k : Int) (A : Option Addr) (c : Nat) (xs : List Int) (Bu : Option Addr) (cu : Nat) (us : List Int) (Bv : Option Addr) (cv : Nat) (vs : List Int) (w : World) (hX : RdI w A xs) (hxl : xs.length ≤ 1048576) (hU : RdI w Bu us) (hul : us.length ≤ 1048576) (hV : RdI w Bv vs) (hvl : vs.length ≤ 1048576) (ht : tenB p i j k xs = true) (hu : listB p i us = true) (hv : listB p j vs = false) :
    Calls Try.prog 22 #[.agg #[.int .i64 p, .int .i64 i, .int .i64 j, .int .i64 k, .slice A xs.length c], .slice Bu us.length cu, .slice Bv vs.length cv] w (ResI w (votL p i j k xs us vs) (votCode p i j k xs us vs)) := by
  have hB := Below.refl w.heap.size w
  have HC : Hid (votCode p i j k xs us vs = 2) := Lib.hid (by unfold votCode; simp [ht, hu, hv])
  have HR : Hid (votL p i j k xs us vs = []) := Lib.hid (by unfold votL; rw [HC.out]; rfl)
  have hp5 := prime_le5 (tenB_parts ht).1
  have Ht := Lib.hid ht
  have HLU := Lib.hid hu
  have HLV := Lib.hid hv
  clear ht hu hv
  go_enter Try.func22, Try.ntmps22
  go_upto_region 0 with (fail)
  refine wp_region_lit ?_
  refine ls_op rfl (fun K' hK' => ?_)
  have lz1 := hB.size
  refine wp_new (some 3) rfl (exec_box 28 _ rfl (#[.int .i64 p, .int .i64 i, .int .i64 j, .int .i64 k, .slice A xs.length c]) rfl) (fun Wz2 nnz3 => ?_)
  have bz4 := nnz3.below (Below.refl _ _) (Nat.le_refl _)
  replace hB := below_after hB bz4
  have hz5 : At Wz2 w.heap.size (.cells #[.int .i64 p, .int .i64 i, .int .i64 j, .int .i64 k, .slice A xs.length c] 28 (0, 0)) := nnz3.at_
  refine hK' _ _ ?_
  clear hK' K' nnz3 bz4
  go_frame
  refine ls_ex (some 6) (.slice none 0 0) rfl rfl (exec_assign _ rfl (.slice none 0 0) rfl) ?_
  go_frame
  refine ls_ex (some 7) (.int .i64 0) rfl rfl (exec_assign _ rfl (.int .i64 0) rfl) ?_
  go_frame
  refine wpList_nil ?_
  go_upto_region 1 with (fail)
  refine wp_region_lit ?_
  refine ls_ex (some 13) (.agg #[.int .i64 p, .int .i64 i, .int .i64 j, .int .i64 k, .slice A xs.length c]) rfl rfl (exec_load_all 28 _ rfl w.heap.size rfl _ _ _ hz5 Try.underlying28 rfl 5 (by kernel_rfl) rfl) ?_
  go_frame
  refine ls_op rfl (fun K' hK' => ?_)
  have lz8 := hB.size
  have lz9 := hz5.lt
  refine wp_call1 (some 14) rfl 37 _ _ rfl (fun args w => by kernel_rfl) _ rfl _ (l05Is_c p i j k A c xs _ (hX.keep hB) hxl) (fun e Wz6 h => ?_)
  obtain ⟨rfl, bz7⟩ := h
  replace hB := below_after hB bz7
  replace hz5 := hz5.after bz7
  rw [Ht.out]
  clear bz7
  refine ⟨_, rfl, ?_⟩
  refine hK' _ _ ?_
  clear hK' K'
  go_frame
  refine ls_ex (some 15) (.bool false) rfl rfl (exec_not _ _ rfl true rfl) ?_
  go_frame
  refine ls_ex (some 12) (.bool false) rfl rfl (exec_assign _ rfl (.bool false) rfl) ?_
  go_frame
  refine wpList_nil ?_
  go_upto_region 3 with (fail)
  refine wp_region_lit ?_
  refine ls_ex (some 17) (.pointer (some ⟨w.heap.size, 0, none⟩)) rfl rfl (exec_fieldAddr 28 _ 0 rfl _ (by kernel_rfl)) ?_
  go_frame
  refine ls_ex (some 18) (.int .i64 p) rfl rfl (exec_load_one 2 _ rfl w.heap.size 0 rfl (.int .i64 p) _ Try.underlying2 rfl (hz5.at_ 0)) ?_
  go_frame
  refine ls_ex (some 19) (.slice Bu us.length cu) rfl rfl (exec_move _ rfl (.slice Bu us.length cu) rfl) ?_
  go_frame
  refine ls_ex (some 20) (.pointer (some ⟨w.heap.size, 1, none⟩)) rfl rfl (exec_fieldAddr 28 _ 1 rfl _ (by kernel_rfl)) ?_
  go_frame
  refine ls_ex (some 21) (.int .i64 i) rfl rfl (exec_load_one 2 _ rfl w.heap.size 1 rfl (.int .i64 i) _ Try.underlying2 rfl (hz5.at_ 1)) ?_
  go_frame
  refine ls_op rfl (fun K' hK' => ?_)
  have lz12 := hB.size
  have lz13 := hz5.lt
  refine wp_call3 (some 22) rfl 33 _ _ _ _ rfl (fun args w => by kernel_rfl) _ _ _ rfl rfl rfl _ (l05Numbers_c p i Bu cu us _ (by omega) (hU.keep hB) hul) (fun e Wz10 h => ?_)
  obtain ⟨rfl, bz11⟩ := h
  replace hB := below_after hB bz11
  replace hz5 := hz5.after bz11
  rw [listB_sw, HLU.out]
  clear bz11
  refine ⟨_, rfl, ?_⟩
  refine hK' _ _ ?_
  clear hK' K'
  go_frame
  refine ls_ex (some 23) (.bool false) rfl rfl (exec_not _ _ rfl true rfl) ?_
  go_frame
  refine ls_ex (some 24) (.bool false) rfl rfl (exec_move _ rfl (.bool false) rfl) ?_
  go_frame
  refine ls_ex_g (some 25) (.pointer (some ⟨w.heap.size, 0, none⟩)) rfl rfl (exec_fieldAddr 28 _ 0 rfl _ (by kernel_rfl)) ?_
  go_frame
  refine ls_ex_g (some 26) (.int .i64 p) rfl rfl (exec_load_one 2 _ rfl w.heap.size 0 rfl (.int .i64 p) _ Try.underlying2 rfl (hz5.at_ 0)) ?_
  go_frame
  refine ls_ex_g (some 27) (.slice Bv vs.length cv) rfl rfl (exec_move _ rfl (.slice Bv vs.length cv) rfl) ?_
  go_frame
  refine ls_ex_g (some 28) (.pointer (some ⟨w.heap.size, 2, none⟩)) rfl rfl (exec_fieldAddr 28 _ 2 rfl _ (by kernel_rfl)) ?_
  go_frame
  refine ls_ex_g (some 29) (.int .i64 j) rfl rfl (exec_load_one 2 _ rfl w.heap.size 2 rfl (.int .i64 j) _ Try.underlying2 rfl (hz5.at_ 2)) ?_
  go_frame
  refine ls_op_g rfl (fun K' hK' => ?_)
  have lz16 := hB.size
  have lz17 := hz5.lt
  refine wp_call3 (some 30) rfl 33 _ _ _ _ rfl (fun args w => by kernel_rfl) _ _ _ rfl rfl rfl _ (l05Numbers_c p j Bv cv vs _ (by omega) (hV.keep hB) hvl) (fun e Wz14 h => ?_)
  obtain ⟨rfl, bz15⟩ := h
  replace hB := below_after hB bz15
  replace hz5 := hz5.after bz15
  rw [listB_sw, HLV.out]
  clear bz15
  refine ⟨_, rfl, ?_⟩
  refine hK' _ _ ?_
  clear hK' K'
  go_frame
  refine ls_ex_g (some 31) (.bool true) rfl rfl (exec_not _ _ rfl false rfl) ?_
  go_frame
  refine ls_ex (some 32) (.bool true) rfl rfl (exec_pick _ _ _ rfl false rfl (.bool true) rfl) ?_
  go_frame
  refine ls_ex (some 16) (.bool true) rfl rfl (exec_assign _ rfl (.bool true) rfl) ?_
  go_frame
  refine wpList_nil ?_
  go_upto_region 4 with (fail)
  refine wp_region_lit ?_
  refine ls_ex (some 6) (.slice none 0 0) rfl rfl (exec_assign _ rfl (.slice none 0 0) rfl) ?_
  go_frame
  refine ls_ex (some 7) (.int .i64 2) rfl rfl (exec_assign _ rfl (.int .i64 2) rfl) ?_
  go_frame
  refine wpList_nil ?_
  go_wp2_with fail
  go_ret2
  exact ⟨_, by rw [HC.out]; rfl, by rw [HR.out]; exact OwnI.nil _ _, hB⟩
set_option maxHeartbeats 25600000 in
theorem specVot_y (p : Int) (n0 n1 n2 : Nat) (A : Option Addr) (c : Nat) (xs : List Int) (Bu : Option Addr) (cu : Nat) (us : List Int) (Bv : Option Addr) (cv : Nat) (vs : List Int) (w : World) (hX : RdI w A xs) (hxl : xs.length ≤ 1048576) (hU : RdI w Bu us) (hul : us.length ≤ 1048576) (hV : RdI w Bv vs) (hvl : vs.length ≤ 1048576) (ht : tenB p n0 n1 n2 xs = true) (hu : listB p n0 us = true) (hv : listB p n1 vs = true) :
    Calls Try.prog 22 #[.agg #[.int .i64 p, .int .i64 n0, .int .i64 n1, .int .i64 n2, .slice A xs.length c], .slice Bu us.length cu, .slice Bv vs.length cv] w (ResI w (votL p n0 n1 n2 xs us vs) (votCode p n0 n1 n2 xs us vs)) := by
  have hB := Below.refl w.heap.size w
  have HC : Hid (votCode p n0 n1 n2 xs us vs = 0) := Lib.hid (by unfold votCode; simp [ht, hu, hv])
  have HR : Hid (votL p n0 n1 n2 xs us vs = vtL p n1 n2 xs us vs (n0 * n1)) := Lib.hid (by unfold votL; rw [HC.out]; rfl)
  obtain ⟨p1, p2, l0, l1, l2, hx3, hns⟩ := tenB_n3 ht
  have hp5 : 2 ≤ p ∧ p ≤ 5 := ⟨p1, p2⟩
  have hlu : us.length = n0 ∧ numsB p us = true := by simp only [listB, Bool.and_eq_true, decide_eq_true_eq] at hu; exact ⟨by omega, hu.2⟩
  have hlv : vs.length = n1 ∧ numsB p vs = true := by simp only [listB, Bool.and_eq_true, decide_eq_true_eq] at hv; exact ⟨by omega, hv.2⟩
  obtain ⟨hul0, hnu⟩ := hlu
  obtain ⟨hvl1, hnv⟩ := hlv
  have hula : us.length ≤ n0 ∧ n0 ≤ us.length := by omega
  have hvla : vs.length ≤ n1 ∧ n1 ≤ vs.length := by omega
  have HX3 := Lib.hid hx3
  have HNs := Lib.hid hns
  have HNu := Lib.hid hnu
  have HNv := Lib.hid hnv
  have HOw : Hid (∀ (g : Nat) (W : World), At W g (.cells (iar (vtL p n1 n2 xs us vs (n0 * n1))) 2 (0, 0)) → OwnI W g (.slice (some ⟨g, 0, none⟩) n2 n2) (vtL p n1 n2 xs us vs (n0 * n1))) := Lib.hid (fun g W h => by have h9 := OwnI.of_at h (Nat.le_refl g) (by rw [vtL_len]; omega); rwa [vtL_len] at h9)
  have Ht := Lib.hid ht
  have HLU := Lib.hid hu
  have HLV := Lib.hid hv
  clear ht hu hv hx3 hul0 hvl1 hns hnu hnv
  go_enter Try.func22, Try.ntmps22
  go_upto_region 0 with (fail)
  refine wp_region_lit ?_
  refine ls_op rfl (fun K' hK' => ?_)
  have lz1 := hB.size
  refine wp_new (some 3) rfl (exec_box 28 _ rfl (#[.int .i64 p, .int .i64 n0, .int .i64 n1, .int .i64 n2, .slice A xs.length c]) rfl) (fun Wz2 nnz3 => ?_)
  have bz4 := nnz3.below (Below.refl _ _) (Nat.le_refl _)
  replace hB := below_after hB bz4
  have hz5 : At Wz2 w.heap.size (.cells #[.int .i64 p, .int .i64 n0, .int .i64 n1, .int .i64 n2, .slice A xs.length c] 28 (0, 0)) := nnz3.at_
  refine hK' _ _ ?_
  clear hK' K' nnz3 bz4
  go_frame
  refine ls_ex (some 6) (.slice none 0 0) rfl rfl (exec_assign _ rfl (.slice none 0 0) rfl) ?_
  go_frame
  refine ls_ex (some 7) (.int .i64 0) rfl rfl (exec_assign _ rfl (.int .i64 0) rfl) ?_
  go_frame
  refine wpList_nil ?_
  go_upto_region 1 with (fail)
  refine wp_region_lit ?_
  refine ls_ex (some 13) (.agg #[.int .i64 p, .int .i64 n0, .int .i64 n1, .int .i64 n2, .slice A xs.length c]) rfl rfl (exec_load_all 28 _ rfl w.heap.size rfl _ _ _ hz5 Try.underlying28 rfl 5 (by kernel_rfl) rfl) ?_
  go_frame
  refine ls_op rfl (fun K' hK' => ?_)
  have lz8 := hB.size
  have lz9 := hz5.lt
  refine wp_call1 (some 14) rfl 37 _ _ rfl (fun args w => by kernel_rfl) _ rfl _ (l05Is_c p n0 n1 n2 A c xs _ (hX.keep hB) hxl) (fun e Wz6 h => ?_)
  obtain ⟨rfl, bz7⟩ := h
  replace hB := below_after hB bz7
  replace hz5 := hz5.after bz7
  rw [Ht.out]
  clear bz7
  refine ⟨_, rfl, ?_⟩
  refine hK' _ _ ?_
  clear hK' K'
  go_frame
  refine ls_ex (some 15) (.bool false) rfl rfl (exec_not _ _ rfl true rfl) ?_
  go_frame
  refine ls_ex (some 12) (.bool false) rfl rfl (exec_assign _ rfl (.bool false) rfl) ?_
  go_frame
  refine wpList_nil ?_
  go_upto_region 3 with (fail)
  refine wp_region_lit ?_
  refine ls_ex (some 17) (.pointer (some ⟨w.heap.size, 0, none⟩)) rfl rfl (exec_fieldAddr 28 _ 0 rfl _ (by kernel_rfl)) ?_
  go_frame
  refine ls_ex (some 18) (.int .i64 p) rfl rfl (exec_load_one 2 _ rfl w.heap.size 0 rfl (.int .i64 p) _ Try.underlying2 rfl (hz5.at_ 0)) ?_
  go_frame
  refine ls_ex (some 19) (.slice Bu us.length cu) rfl rfl (exec_move _ rfl (.slice Bu us.length cu) rfl) ?_
  go_frame
  refine ls_ex (some 20) (.pointer (some ⟨w.heap.size, 1, none⟩)) rfl rfl (exec_fieldAddr 28 _ 1 rfl _ (by kernel_rfl)) ?_
  go_frame
  refine ls_ex (some 21) (.int .i64 n0) rfl rfl (exec_load_one 2 _ rfl w.heap.size 1 rfl (.int .i64 n0) _ Try.underlying2 rfl (hz5.at_ 1)) ?_
  go_frame
  refine ls_op rfl (fun K' hK' => ?_)
  have lz12 := hB.size
  have lz13 := hz5.lt
  refine wp_call3 (some 22) rfl 33 _ _ _ _ rfl (fun args w => by kernel_rfl) _ _ _ rfl rfl rfl _ (l05Numbers_c p n0 Bu cu us _ (by omega) (hU.keep hB) hul) (fun e Wz10 h => ?_)
  obtain ⟨rfl, bz11⟩ := h
  replace hB := below_after hB bz11
  replace hz5 := hz5.after bz11
  rw [listB_sw, HLU.out]
  clear bz11
  refine ⟨_, rfl, ?_⟩
  refine hK' _ _ ?_
  clear hK' K'
  go_frame
  refine ls_ex (some 23) (.bool false) rfl rfl (exec_not _ _ rfl true rfl) ?_
  go_frame
  refine ls_ex (some 24) (.bool false) rfl rfl (exec_move _ rfl (.bool false) rfl) ?_
  go_frame
  refine ls_ex_g (some 25) (.pointer (some ⟨w.heap.size, 0, none⟩)) rfl rfl (exec_fieldAddr 28 _ 0 rfl _ (by kernel_rfl)) ?_
  go_frame
  refine ls_ex_g (some 26) (.int .i64 p) rfl rfl (exec_load_one 2 _ rfl w.heap.size 0 rfl (.int .i64 p) _ Try.underlying2 rfl (hz5.at_ 0)) ?_
  go_frame
  refine ls_ex_g (some 27) (.slice Bv vs.length cv) rfl rfl (exec_move _ rfl (.slice Bv vs.length cv) rfl) ?_
  go_frame
  refine ls_ex_g (some 28) (.pointer (some ⟨w.heap.size, 2, none⟩)) rfl rfl (exec_fieldAddr 28 _ 2 rfl _ (by kernel_rfl)) ?_
  go_frame
  refine ls_ex_g (some 29) (.int .i64 n1) rfl rfl (exec_load_one 2 _ rfl w.heap.size 2 rfl (.int .i64 n1) _ Try.underlying2 rfl (hz5.at_ 2)) ?_
  go_frame
  refine ls_op_g rfl (fun K' hK' => ?_)
  have lz16 := hB.size
  have lz17 := hz5.lt
  refine wp_call3 (some 30) rfl 33 _ _ _ _ rfl (fun args w => by kernel_rfl) _ _ _ rfl rfl rfl _ (l05Numbers_c p n1 Bv cv vs _ (by omega) (hV.keep hB) hvl) (fun e Wz14 h => ?_)
  obtain ⟨rfl, bz15⟩ := h
  replace hB := below_after hB bz15
  replace hz5 := hz5.after bz15
  rw [listB_sw, HLV.out]
  clear bz15
  refine ⟨_, rfl, ?_⟩
  refine hK' _ _ ?_
  clear hK' K'
  go_frame
  refine ls_ex_g (some 31) (.bool false) rfl rfl (exec_not _ _ rfl true rfl) ?_
  go_frame
  refine ls_ex (some 32) (.bool false) rfl rfl (exec_pick _ _ _ rfl false rfl (.bool false) rfl) ?_
  go_frame
  refine ls_ex (some 16) (.bool false) rfl rfl (exec_assign _ rfl (.bool false) rfl) ?_
  go_frame
  refine wpList_nil ?_
  go_upto_region 5 with (fail)
  refine wp_region_lit ?_
  refine ls_ex (some 33) (.pointer (some ⟨w.heap.size, 3, none⟩)) rfl rfl (exec_fieldAddr 28 _ 3 rfl _ (by kernel_rfl)) ?_
  go_frame
  refine ls_ex (some 34) (.int .i64 n2) rfl rfl (exec_load_one 2 _ rfl w.heap.size 3 rfl (.int .i64 n2) _ Try.underlying2 rfl (hz5.at_ 3)) ?_
  go_frame
  refine ls_op rfl (fun K' hK' => ?_)
  have lz21 := hB.size
  have lz22 := hz5.lt
  refine wp_make_I (some 35) rfl _ _ rfl n2 rfl rfl (by omega) (fun Wz18 nnz19 => ?_)
  have bz20 := nnz19.below (Below.refl _ _) (Nat.le_refl _)
  replace hB := below_after hB bz20
  replace hz5 := hz5.after bz20
  have hL : At Wz18 Wz14.heap.size (.cells (iar (List.replicate n2 0)) 2 (0, 0)) := nnz19.at_
  refine hK' _ _ ?_
  clear hK' K' nnz19 bz20
  go_frame
  refine ls_ex (some 8) (.slice (some ⟨Wz14.heap.size, 0, none⟩) n2 n2) rfl rfl (exec_assign _ rfl (.slice (some ⟨Wz14.heap.size, 0, none⟩) n2 n2) rfl) ?_
  go_frame
  refine wpList_nil ?_
  go_upto_region 6 with (fail)
  refine wp_region_lit ?_
  refine ls_ex (some 9) (.int .i64 0) rfl rfl (exec_assign _ rfl (.int .i64 0) rfl) ?_
  go_frame
  refine wpList_nil ?_
  go_wp2_with fail
  go_loopw [9] (fun s9 wr => ∃ a : Nat, a ≤ n0 ∧ s9 = .int .i64 a ∧ Below w.heap.size w wr ∧ At wr w.heap.size (.cells #[.int .i64 p, .int .i64 n0, .int .i64 n1, .int .i64 n2, .slice A xs.length c] 28 (0, 0)) ∧ At wr Wz14.heap.size (.cells (iar (vtL p n1 n2 xs us vs (a * n1))) 2 (0, 0))) (fun s9 _ => n0 - (intOf s9).toNat)
  case atStart => exact ⟨0, by omega, rfl, hB, hz5, by rw [Nat.zero_mul, vtL_zero]; exact hL⟩
  case round =>
    clear hB hz5 hL
    obtain ⟨a, ha, rfl, hB, h0, hL⟩ := hrel
    by_cases hlt : a < n0
    · obtain ⟨bu, ou, rfl, hc1⟩ := (hU.keep hB).at_ (i := a) (by omega)
      clear hc1
      obtain ⟨U, hU9⟩ : ∃ U, us[a]? = some U := ⟨us[a], List.getElem?_eq_getElem (by omega)⟩
      have hUb : 0 ≤ U ∧ U < p := by rw [List.getElem?_eq_getElem (by omega)] at hU9; cases hU9; exact numsB_at HNu.out (by omega)
      have HUg := Lib.hid hU9
      clear hU9
      go_upto_region 7 with (fail)
      refine wp_region_lit ?_
      refine ls_ex (some 36) (.int .i64 a) rfl rfl (exec_move _ rfl (.int .i64 a) rfl) ?_
      go_frame
      refine ls_ex (some 37) (.pointer (some ⟨w.heap.size, 1, none⟩)) rfl rfl (exec_fieldAddr 28 _ 1 rfl _ (by kernel_rfl)) ?_
      go_frame
      refine ls_ex (some 38) (.int .i64 n0) rfl rfl (exec_load_one 2 _ rfl w.heap.size 1 rfl (.int .i64 n0) _ Try.underlying2 rfl (h0.at_ 1)) ?_
      go_frame
      refine ls_ex (some 39) (.bool true) rfl rfl (exec_lss _ _ _ _ rfl a n0 rfl rfl true (decide_eq_true (by omega))) ?_
      go_frame
      refine wpList_nil ?_
      go_upto_region 9 with (fail)
      refine wp_region_lit ?_
      refine ls_ex (some 10) (.int .i64 0) rfl rfl (exec_assign _ rfl (.int .i64 0) rfl) ?_
      go_frame
      refine wpList_nil ?_
      go_wp2_with fail
      obtain ⟨we, rfl⟩ : ∃ x : World, x = wr := ⟨_, rfl⟩
      go_loopw [10] (fun s10 wr => ∃ b : Nat, b ≤ n1 ∧ s10 = .int .i64 b ∧ Below w.heap.size w wr ∧ At wr w.heap.size (.cells #[.int .i64 p, .int .i64 n0, .int .i64 n1, .int .i64 n2, .slice A xs.length c] 28 (0, 0)) ∧ At wr Wz14.heap.size (.cells (iar (vtL p n1 n2 xs us vs (a * n1 + b))) 2 (0, 0))) (fun s10 _ => n1 - (intOf s10).toNat)
      case atStart => exact ⟨0, by omega, rfl, hB, h0, by rw [Nat.add_zero]; exact hL⟩
      case round =>
        clear hB h0 hL
        obtain ⟨b, hb, rfl, hB, h0, hL⟩ := hrel
        by_cases hlt2 : b < n1
        · obtain ⟨bv, ov, rfl, hc1⟩ := (hV.keep hB).at_ (i := b) (by omega)
          clear hc1
          obtain ⟨Y, hY⟩ : ∃ Y, vs[b]? = some Y := ⟨vs[b], List.getElem?_eq_getElem (by omega)⟩
          have hYb : 0 ≤ Y ∧ Y < p := by rw [List.getElem?_eq_getElem (by omega)] at hY; cases hY; exact numsB_at HNv.out (by omega)
          have HYg := Lib.hid hY
          obtain ⟨OLD, hOLD⟩ : ∃ l, vtL p n1 n2 xs us vs (a * n1 + b) = l := ⟨_, rfl⟩
          obtain ⟨NEW, hNEW⟩ : ∃ l, vtL p n1 n2 xs us vs (a * n1 + b + 1) = l := ⟨_, rfl⟩
          have HN1 : Hid (NEW.length = n2) := Lib.hid (by rw [← hNEW, vtL_len])
          have HN2 : Hid (OLD.length = n2) := Lib.hid (by rw [← hOLD, vtL_len])
          have HOLD := Lib.hid hOLD
          have HNEW := Lib.hid hNEW
          clear hOLD hNEW hY
          go_upto_region 10 with (fail)
          refine wp_region_lit ?_
          refine ls_ex (some 42) (.int .i64 b) rfl rfl (exec_move _ rfl (.int .i64 b) rfl) ?_
          go_frame
          refine ls_ex (some 43) (.pointer (some ⟨w.heap.size, 2, none⟩)) rfl rfl (exec_fieldAddr 28 _ 2 rfl _ (by kernel_rfl)) ?_
          go_frame
          refine ls_ex (some 44) (.int .i64 n1) rfl rfl (exec_load_one 2 _ rfl w.heap.size 2 rfl (.int .i64 n1) _ Try.underlying2 rfl (h0.at_ 2)) ?_
          go_frame
          refine ls_ex (some 45) (.bool true) rfl rfl (exec_lss _ _ _ _ rfl b n1 rfl rfl true (decide_eq_true (by omega))) ?_
          go_frame
          refine wpList_nil ?_
          go_upto_region 12 with (fail)
          refine wp_region_lit ?_
          refine ls_ex (some 11) (.int .i64 0) rfl rfl (exec_assign _ rfl (.int .i64 0) rfl) ?_
          go_frame
          refine wpList_nil ?_
          go_wp2_with fail
          obtain ⟨wv, rfl⟩ : ∃ x : World, x = wr := ⟨_, rfl⟩
          go_loopw [11] (fun s11 wr => ∃ k : Nat, k ≤ n2 ∧ s11 = .int .i64 k ∧ Below w.heap.size w wr ∧ At wr w.heap.size (.cells #[.int .i64 p, .int .i64 n0, .int .i64 n1, .int .i64 n2, .slice A xs.length c] 28 (0, 0)) ∧ At wr Wz14.heap.size (.cells (iar (mixI NEW OLD k)) 2 (0, 0))) (fun s11 _ => n2 - (intOf s11).toNat)
          case atStart => exact ⟨0, by omega, rfl, hB, h0, by rw [mixI_zero, ← HOLD.out]; exact hL⟩
          case round =>
            clear hB h0 hL
            obtain ⟨k, hk, rfl, hB, h0, hL⟩ := hrel
            by_cases hlt3 : k < n2
            · obtain ⟨X, hX⟩ : ∃ n : Int, at3 n1 n2 xs a b k = n := ⟨_, rfl⟩
              obtain ⟨V, hV⟩ : ∃ n : Int, vtN p n1 n2 xs us vs (a * n1 + b) k = n := ⟨_, rfl⟩
              obtain ⟨XU, hXU⟩ : ∃ n : Int, X * U = n := ⟨_, rfl⟩
              obtain ⟨XUY, hXUY⟩ : ∃ n : Int, XU * Y = n := ⟨_, rfl⟩
              obtain ⟨V2, hV2⟩ : ∃ n : Int, V + XUY = n := ⟨_, rfl⟩
              obtain ⟨NV, hNV⟩ : ∃ n : Int, V2 % p = n := ⟨_, rfl⟩
              have hXb := numsB_nth HNs.out (show 0 < p by omega) (((a * n1 + b) * n2 + k : Nat) : Int)
              have hXc : 0 ≤ X ∧ X < p := by rw [← hX]; exact numsB_nth HNs.out (show 0 < p by omega) _
              have hVb : 0 ≤ V ∧ V ≤ 4 := by rw [← hV]; exact vtN_b hp5 _ _ _ _ _ _ _
              have hXUb : 0 ≤ XU ∧ XU ≤ 16 := by rw [← hXU]; exact m4 ⟨hXc.1, by omega⟩ ⟨hUb.1, by omega⟩
              have hXYb : 0 ≤ XUY ∧ XUY ≤ 64 := by rw [← hXUY]; exact m44 hXUb ⟨hYb.1, by omega⟩
              have HXv := Lib.hid hX
              have HXU : Hid (IntKind.i64.wrap (X * U) = XU) := Lib.hid (by rw [hXU]; exact IntWalk.i64_in _ (by omega))
              have HXUY : Hid (IntKind.i64.wrap (XU * Y) = XUY) := Lib.hid (by rw [hXUY]; exact IntWalk.i64_in _ (by omega))
              have HV2 : Hid (IntKind.i64.wrap (V + XUY) = V2) := Lib.hid (by rw [hV2]; exact IntWalk.i64_in _ (by omega))
              have HNV : Hid (V2.tmod p = NV) := Lib.hid (by rw [← hNV]; exact Int.tmod_eq_emod_of_nonneg (by omega))
              have hP0 : p ≠ 0 := by omega
              have HVo : Hid ((mixI NEW OLD k)[k]? = some V) := Lib.hid (by rw [mixI_get HN1.out hlt3, ← HOLD.out, vtL_get _ _ _ _ _ _ _ hlt3, hV])
              have HSet : Hid ((mixI NEW OLD k).set k NV = mixI NEW OLD (k + 1)) := Lib.hid (mixI_set HN1.out HN2.out hlt3 (by rw [← HNEW.out, vtL_get _ _ _ _ _ _ _ hlt3, vtN_step hlt2 hX HUg.out HYg.out, hV, hXU, hXUY, hV2, hNV]))
              have HLen : Hid ((mixI NEW OLD k).length = n2) := Lib.hid (mixI_len HN1.out HN2.out (by omega))
              clear hX hV hXU hXUY hV2 hNV hXb
              go_upto_region 13 with (fail)
              refine wp_region_lit ?_
              refine ls_ex (some 48) (.int .i64 k) rfl rfl (exec_move _ rfl (.int .i64 k) rfl) ?_
              go_frame
              refine ls_ex (some 49) (.pointer (some ⟨w.heap.size, 3, none⟩)) rfl rfl (exec_fieldAddr 28 _ 3 rfl _ (by kernel_rfl)) ?_
              go_frame
              refine ls_ex (some 50) (.int .i64 n2) rfl rfl (exec_load_one 2 _ rfl w.heap.size 3 rfl (.int .i64 n2) _ Try.underlying2 rfl (h0.at_ 3)) ?_
              go_frame
              refine ls_ex (some 51) (.bool true) rfl rfl (exec_lss _ _ _ _ rfl k n2 rfl rfl true (decide_eq_true (by omega))) ?_
              go_frame
              refine wpList_nil ?_
              go_upto_region 15 with (fail)
              refine wp_region_y (zs := [26]) (S := fun w' => Below w.heap.size w w' ∧ At w' w.heap.size (.cells #[.int .i64 p, .int .i64 n0, .int .i64 n1, .int .i64 n2, .slice A xs.length c] 28 (0, 0))) (S2 := fun w' => At w' Wz14.heap.size (.cells (iar (mixI NEW OLD k)) 2 (0, 0))) (by kernel_rfl) ?_
              change wpAnyY _ _ _ _ _ _ _ _ _ _ (World.drew _)
              generalize hwdz23 : World.drew _ = wdz23
              replace hB : Below w.heap.size w wdz23 := by rw [← hwdz23]; exact hB.drew
              replace h0 : At wdz23 w.heap.size (.cells #[.int .i64 p, .int .i64 n0, .int .i64 n1, .int .i64 n2, .slice A xs.length c] 28 (0, 0)) := by rw [← hwdz23]; exact h0
              replace hL : At wdz23 Wz14.heap.size (.cells (iar (mixI NEW OLD k)) 2 (0, 0)) := by rw [← hwdz23]; exact hL
              clear hwdz23
              refine y_yield 0 (some 54) (.slice (some ⟨Wz14.heap.size, 0, none⟩) n2 n2) rfl (by kernel_rfl) (by kernel_rfl) (by kernel_rfl) (fun _ _ _ h => h) rfl rfl ⟨hB, h0⟩ (fun w' h' => exec_move _ rfl (.slice (some ⟨Wz14.heap.size, 0, none⟩) n2 n2) rfl) ?_
              go_frame
              refine y_yield 1 (some 55) (.int .i64 k) rfl (by kernel_rfl) (by kernel_rfl) (by kernel_rfl) (fun _ _ _ h => h) rfl rfl ⟨hB, h0⟩ (fun w' h' => exec_move _ rfl (.int .i64 k) rfl) ?_
              go_frame
              refine y_yield 2 (some 56) (.slice (some ⟨Wz14.heap.size, 0, none⟩) n2 n2) rfl (by kernel_rfl) (by kernel_rfl) (by kernel_rfl) (fun _ _ _ h => h) rfl rfl ⟨hB, h0⟩ (fun w' h' => exec_move _ rfl (.slice (some ⟨Wz14.heap.size, 0, none⟩) n2 n2) rfl) ?_
              go_frame
              refine y_yield 3 (some 57) (.int .i64 k) rfl (by kernel_rfl) (by kernel_rfl) (by kernel_rfl) (fun _ _ _ h => h) rfl rfl ⟨hB, h0⟩ (fun w' h' => exec_move _ rfl (.int .i64 k) rfl) ?_
              go_frame
              refine y_yield 4 (some 58) (.pointer (some ⟨Wz14.heap.size, k * 1, none⟩)) rfl (by kernel_rfl) (by kernel_rfl) (by kernel_rfl) (fun _ _ _ h => h) rfl rfl ⟨hB, h0⟩ (fun w' h' => exec_ix0 _ 2 _ _ rfl Wz14.heap.size n2 n2 k 1 rfl rfl Try.underlying26 (by kernel_rfl) (by omega)) ?_
              go_frame
              refine y_yield2 5 (some 59) (.int .i64 V) rfl (by kernel_rfl) (by kernel_rfl) (by kernel_rfl) (by kernel_rfl) (fun _ _ _ h => h) rfl rfl ⟨hB, h0⟩ hL (fun w' h' h2' => exec_load_one 2 _ rfl Wz14.heap.size (k * 1) rfl (.int .i64 V) _ Try.underlying2 rfl (cell_iar h2' HVo.out)) ?_
              go_frame
              refine y_yield 6 (some 60) (.agg #[.int .i64 p, .int .i64 n0, .int .i64 n1, .int .i64 n2, .slice A xs.length c]) rfl (by kernel_rfl) (by kernel_rfl) (by kernel_rfl) (fun _ _ _ h => h) rfl rfl ⟨hB, h0⟩ (fun w' h' => exec_load_all 28 _ rfl w.heap.size rfl _ _ _ h'.2 Try.underlying28 rfl 5 (by kernel_rfl) rfl) ?_
              go_frame
              refine y_yield 7 (some 61) (.int .i64 a) rfl (by kernel_rfl) (by kernel_rfl) (by kernel_rfl) (fun _ _ _ h => h) rfl rfl ⟨hB, h0⟩ (fun w' h' => exec_move _ rfl (.int .i64 a) rfl) ?_
              go_frame
              refine y_yield 8 (some 62) (.int .i64 b) rfl (by kernel_rfl) (by kernel_rfl) (by kernel_rfl) (fun _ _ _ h => h) rfl rfl ⟨hB, h0⟩ (fun w' h' => exec_move _ rfl (.int .i64 b) rfl) ?_
              go_frame
              refine y_yield 9 (some 63) (.int .i64 k) rfl (by kernel_rfl) (by kernel_rfl) (by kernel_rfl) (fun _ _ _ h => h) rfl rfl ⟨hB, h0⟩ (fun w' h' => exec_move _ rfl (.int .i64 k) rfl) ?_
              go_frame
              refine y_yield 11 (some 65) (.slice (some ⟨bu, ou, none⟩) us.length cu) rfl (by kernel_rfl) (by kernel_rfl) (by kernel_rfl) (fun _ _ _ h => h) rfl rfl ⟨hB, h0⟩ (fun w' h' => exec_move _ rfl (.slice (some ⟨bu, ou, none⟩) us.length cu) rfl) ?_
              go_frame
              refine y_yield 12 (some 66) (.int .i64 a) rfl (by kernel_rfl) (by kernel_rfl) (by kernel_rfl) (fun _ _ _ h => h) rfl rfl ⟨hB, h0⟩ (fun w' h' => exec_move _ rfl (.int .i64 a) rfl) ?_
              go_frame
              refine y_yield 13 (some 67) (.pointer (some ⟨bu, ou + a * 1, none⟩)) rfl (by kernel_rfl) (by kernel_rfl) (by kernel_rfl) (fun _ _ _ h => h) rfl rfl ⟨hB, h0⟩ (fun w' h' => exec_index_slice _ 2 _ _ rfl bu ou us.length cu a 1 rfl rfl Try.underlying26 (by kernel_rfl) (by omega)) ?_
              go_frame
              refine y_yield 14 (some 68) (.int .i64 U) rfl (by kernel_rfl) (by kernel_rfl) (by kernel_rfl) (fun _ _ _ h => h) rfl rfl ⟨hB, h0⟩ (fun w' h' => exec_load_one 2 _ rfl bu (ou + a * 1) rfl (.int .i64 U) _ Try.underlying2 rfl (RdI.c1v (hU.keep h'.1) HUg.out)) ?_
              go_frame
              refine y_yield 16 (some 70) (.slice (some ⟨bv, ov, none⟩) vs.length cv) rfl (by kernel_rfl) (by kernel_rfl) (by kernel_rfl) (fun _ _ _ h => h) rfl rfl ⟨hB, h0⟩ (fun w' h' => exec_move _ rfl (.slice (some ⟨bv, ov, none⟩) vs.length cv) rfl) ?_
              go_frame
              refine y_yield 17 (some 71) (.int .i64 b) rfl (by kernel_rfl) (by kernel_rfl) (by kernel_rfl) (fun _ _ _ h => h) rfl rfl ⟨hB, h0⟩ (fun w' h' => exec_move _ rfl (.int .i64 b) rfl) ?_
              go_frame
              refine y_yield 18 (some 72) (.pointer (some ⟨bv, ov + b * 1, none⟩)) rfl (by kernel_rfl) (by kernel_rfl) (by kernel_rfl) (fun _ _ _ h => h) rfl rfl ⟨hB, h0⟩ (fun w' h' => exec_index_slice _ 2 _ _ rfl bv ov vs.length cv b 1 rfl rfl Try.underlying26 (by kernel_rfl) (by omega)) ?_
              go_frame
              refine y_yield 19 (some 73) (.int .i64 Y) rfl (by kernel_rfl) (by kernel_rfl) (by kernel_rfl) (fun _ _ _ h => h) rfl rfl ⟨hB, h0⟩ (fun w' h' => exec_load_one 2 _ rfl bv (ov + b * 1) rfl (.int .i64 Y) _ Try.underlying2 rfl (RdI.c1v (hV.keep h'.1) HYg.out)) ?_
              go_frame
              refine y_yield 22 (some 76) (.pointer (some ⟨w.heap.size, 0, none⟩)) rfl (by kernel_rfl) (by kernel_rfl) (by kernel_rfl) (fun _ _ _ h => h) rfl rfl ⟨hB, h0⟩ (fun w' h' => exec_fieldAddr 28 _ 0 rfl _ (by kernel_rfl)) ?_
              go_frame
              refine y_yield 23 (some 77) (.int .i64 p) rfl (by kernel_rfl) (by kernel_rfl) (by kernel_rfl) (fun _ _ _ h => h) rfl rfl ⟨hB, h0⟩ (fun w' h' => exec_load_one 2 _ rfl w.heap.size 0 rfl (.int .i64 p) _ Try.underlying2 rfl (h'.2.at_ 0)) ?_
              go_frame
              refine y_oper 10 (by kernel_rfl) rfl rfl (fun K' hK' => ?_)
              have lz26 := hB.size
              have lz27 := h0.lt
              have lz28 := hL.lt
              refine wp_call4 (some 64) rfl 38 _ _ _ _ _ rfl (fun args w => by kernel_rfl) _ _ _ _ rfl rfl rfl rfl _ (l05At_n p n0 n1 n2 A c xs a b k _ (hX.keep hB) HX3.out l0.2 l1.2 l2.2 hlt hlt2 hlt3) (fun e Wz24 h => ?_)
              obtain ⟨rfl, bz25⟩ := h
              replace hB := below_after hB bz25
              replace h0 := h0.after bz25
              replace hL := hL.after bz25
              rw [HXv.out]
              clear bz25
              refine ⟨_, rfl, ?_⟩
              refine hK' _ _ ⟨hB, h0⟩ (fun _ => hL) ?_
              clear hK' K'
              go_frame
              refine y_yield 15 (some 69) (.int .i64 XU) rfl (by kernel_rfl) (by kernel_rfl) (by kernel_rfl) (fun _ _ _ h => h) rfl rfl ⟨hB, h0⟩ (fun w' h' => exec_mul _ _ _ _ rfl X U XU rfl rfl HXU.out) ?_
              go_frame
              refine y_yield 20 (some 74) (.int .i64 XUY) rfl (by kernel_rfl) (by kernel_rfl) (by kernel_rfl) (fun _ _ _ h => h) rfl rfl ⟨hB, h0⟩ (fun w' h' => exec_mul _ _ _ _ rfl XU Y XUY rfl rfl HXUY.out) ?_
              go_frame
              refine y_yield 21 (some 75) (.int .i64 V2) rfl (by kernel_rfl) (by kernel_rfl) (by kernel_rfl) (fun _ _ _ h => h) rfl rfl ⟨hB, h0⟩ (fun w' h' => exec_add _ _ _ _ rfl V XUY V2 rfl rfl HV2.out) ?_
              go_frame
              refine y_yield 24 (some 78) (.int .i64 NV) rfl (by kernel_rfl) (by kernel_rfl) (by kernel_rfl) (fun _ _ _ h => h) rfl rfl ⟨hB, h0⟩ (fun w' h' => exec_rem _ _ _ _ rfl V2 p NV rfl rfl hP0 HNV.out) ?_
              go_frame
              refine y_yield 25 (some 79) (.pointer (some ⟨Wz14.heap.size, k * 1, none⟩)) rfl (by kernel_rfl) (by kernel_rfl) (by kernel_rfl) (fun _ _ _ h => h) rfl rfl ⟨hB, h0⟩ (fun w' h' => exec_ix0 _ 2 _ _ rfl Wz14.heap.size n2 n2 k 1 rfl rfl Try.underlying26 (by kernel_rfl) (by omega)) ?_
              go_frame
              refine y_oper 26 (by kernel_rfl) rfl rfl (fun K' hK' => ?_)
              refine wp_store_one 2 _ _ rfl rfl Wz14.heap.size (k * 1) rfl (.int .i64 NV) rfl rfl rfl _ _ hL (by kernel_rfl) (by rw [iar_size, HLen.out]; omega) (fun Wz29 pz30 => ?_)
              replace hB := pz30.below hB (by omega)
              replace h0 := pz30.other h0 (by omega)
              replace hL : At Wz29 Wz14.heap.size (.cells (iar (mixI NEW OLD (k + 1))) 2 (0, 0)) := by have h9 := pz30.at_; rwa [Nat.mul_one, iar_set, HSet.out] at h9
              refine hK' _ _ ⟨hB, h0⟩ (fun h => absurd (by decide) h) ?_
              clear hK' K' pz30
              refine y_done (by kernel_rfl) ?_ _
              go_upto_region 14 with (fail)
              refine wp_region_lit ?_
              refine ls_ex (some 52) (.int .i64 k) rfl rfl (exec_move _ rfl (.int .i64 k) rfl) ?_
              go_frame
              refine ls_ex (some 53) (.int .i64 (k + 1)) rfl rfl (exec_add _ _ _ _ rfl k 1 (k + 1) rfl rfl (IntWalk.i64_in _ (by omega))) ?_
              go_frame
              refine ls_ex (some 11) (.int .i64 (k + 1)) rfl rfl (exec_assign _ rfl (.int .i64 (k + 1)) rfl) ?_
              go_frame
              refine wpList_nil ?_
              go_wp2_with fail
              go_roundw
              case rel => exact ⟨k + 1, by omega, by go_num, hB, h0, hL⟩
              case measure => simp [intOf]; omega
            · have HE9 : Hid (mixI NEW OLD k = vtL p n1 n2 xs us vs (a * n1 + b + 1)) := Lib.hid (by rw [show k = n2 by omega, mixI_all HN1.out HN2.out, HNEW.out])
              rw [HE9.out] at hL
              go_upto_region 13 with (fail)
              refine wp_region_lit ?_
              refine ls_ex (some 48) (.int .i64 k) rfl rfl (exec_move _ rfl (.int .i64 k) rfl) ?_
              go_frame
              refine ls_ex (some 49) (.pointer (some ⟨w.heap.size, 3, none⟩)) rfl rfl (exec_fieldAddr 28 _ 3 rfl _ (by kernel_rfl)) ?_
              go_frame
              refine ls_ex (some 50) (.int .i64 n2) rfl rfl (exec_load_one 2 _ rfl w.heap.size 3 rfl (.int .i64 n2) _ Try.underlying2 rfl (h0.at_ 3)) ?_
              go_frame
              refine ls_ex (some 51) (.bool false) rfl rfl (exec_lss _ _ _ _ rfl k n2 rfl rfl false (decide_eq_false (by omega))) ?_
              go_frame
              refine wpList_nil ?_
              go_upto_region 11 with (fail)
              refine wp_region_lit ?_
              refine ls_ex (some 46) (.int .i64 b) rfl rfl (exec_move _ rfl (.int .i64 b) rfl) ?_
              go_frame
              refine ls_ex (some 47) (.int .i64 (b + 1)) rfl rfl (exec_add _ _ _ _ rfl b 1 (b + 1) rfl rfl (IntWalk.i64_in _ (by omega))) ?_
              go_frame
              refine ls_ex (some 10) (.int .i64 (b + 1)) rfl rfl (exec_assign _ rfl (.int .i64 (b + 1)) rfl) ?_
              go_frame
              refine wpList_nil ?_
              go_wp2_with fail
              go_roundw
              case rel => exact ⟨b + 1, by omega, by go_num, hB, h0, by rw [← Nat.add_assoc]; exact hL⟩
              case measure => simp [intOf]; omega
        · have HE : Hid (vtL p n1 n2 xs us vs (a * n1 + b) = vtL p n1 n2 xs us vs ((a + 1) * n1)) := Lib.hid (by rw [Nat.add_mul, Nat.one_mul, show b = n1 by omega])
          rw [HE.out] at hL
          go_upto_region 10 with (fail)
          refine wp_region_lit ?_
          refine ls_ex (some 42) (.int .i64 b) rfl rfl (exec_move _ rfl (.int .i64 b) rfl) ?_
          go_frame
          refine ls_ex (some 43) (.pointer (some ⟨w.heap.size, 2, none⟩)) rfl rfl (exec_fieldAddr 28 _ 2 rfl _ (by kernel_rfl)) ?_
          go_frame
          refine ls_ex (some 44) (.int .i64 n1) rfl rfl (exec_load_one 2 _ rfl w.heap.size 2 rfl (.int .i64 n1) _ Try.underlying2 rfl (h0.at_ 2)) ?_
          go_frame
          refine ls_ex (some 45) (.bool false) rfl rfl (exec_lss _ _ _ _ rfl b n1 rfl rfl false (decide_eq_false (by omega))) ?_
          go_frame
          refine wpList_nil ?_
          go_upto_region 8 with (fail)
          refine wp_region_lit ?_
          refine ls_ex (some 40) (.int .i64 a) rfl rfl (exec_move _ rfl (.int .i64 a) rfl) ?_
          go_frame
          refine ls_ex (some 41) (.int .i64 (a + 1)) rfl rfl (exec_add _ _ _ _ rfl a 1 (a + 1) rfl rfl (IntWalk.i64_in _ (by omega))) ?_
          go_frame
          refine ls_ex (some 9) (.int .i64 (a + 1)) rfl rfl (exec_assign _ rfl (.int .i64 (a + 1)) rfl) ?_
          go_frame
          refine wpList_nil ?_
          go_wp2_with fail
          go_roundw
          case rel => exact ⟨a + 1, by omega, by go_num, hB, h0, hL⟩
          case measure => simp [intOf]; omega
    · have HE : Hid (vtL p n1 n2 xs us vs (a * n1) = vtL p n1 n2 xs us vs (n0 * n1)) := Lib.hid (by rw [show a = n0 by omega])
      rw [HE.out] at hL
      go_upto_region 7 with (fail)
      refine wp_region_lit ?_
      refine ls_ex (some 36) (.int .i64 a) rfl rfl (exec_move _ rfl (.int .i64 a) rfl) ?_
      go_frame
      refine ls_ex (some 37) (.pointer (some ⟨w.heap.size, 1, none⟩)) rfl rfl (exec_fieldAddr 28 _ 1 rfl _ (by kernel_rfl)) ?_
      go_frame
      refine ls_ex (some 38) (.int .i64 n0) rfl rfl (exec_load_one 2 _ rfl w.heap.size 1 rfl (.int .i64 n0) _ Try.underlying2 rfl (h0.at_ 1)) ?_
      go_frame
      refine ls_ex (some 39) (.bool false) rfl rfl (exec_lss _ _ _ _ rfl a n0 rfl rfl false (decide_eq_false (by omega))) ?_
      go_frame
      refine wpList_nil ?_
      go_upto_region 16 with (fail)
      refine wp_region_lit ?_
      refine ls_ex (some 80) (.slice (some ⟨Wz14.heap.size, 0, none⟩) n2 n2) rfl rfl (exec_move _ rfl (.slice (some ⟨Wz14.heap.size, 0, none⟩) n2 n2) rfl) ?_
      go_frame
      refine ls_ex (some 6) (.slice (some ⟨Wz14.heap.size, 0, none⟩) n2 n2) rfl rfl (exec_assign _ rfl (.slice (some ⟨Wz14.heap.size, 0, none⟩) n2 n2) rfl) ?_
      go_frame
      refine ls_ex (some 7) (.int .i64 0) rfl rfl (exec_assign _ rfl (.int .i64 0) rfl) ?_
      go_frame
      refine wpList_nil ?_
      go_wp2_with fail
      go_ret2
      exact ⟨_, by rw [HC.out]; rfl, by rw [HR.out]; exact (HOw.out _ _ hL).mono (by omega), hB⟩
set_option maxHeartbeats 25600000 in
theorem tensorMakes_c (p : Int) (n0 n1 n2 : Nat) (A : Option Addr) (c : Nat) (xs : List Int) (Bu : Option Addr) (cu : Nat) (us : List Int) (Bv : Option Addr) (cv : Nat) (vs : List Int) (w : World) (hX : RdI w A xs) (hxl : xs.length ≤ 1048576) (hU : RdI w Bu us) (hul : us.length ≤ 1048576) (hV : RdI w Bv vs) (hvl : vs.length ≤ 1048576) (ht : tenB p n0 n1 n2 xs = true) (hu : listB p n0 us = true) (hv : listB p n1 vs = true) :
    Calls Try.prog 88 #[.agg #[.int .i64 p, .int .i64 n0, .int .i64 n1, .int .i64 n2, .slice A xs.length c], .slice Bu us.length cu, .slice Bv vs.length cv] w (fun e w' => ∃ v, e = .returned v ∧ OwnI w' w.heap.size v (vtL p n1 n2 xs us vs (n0 * n1)) ∧ Below w.heap.size w w') := by
  have hB := Below.refl w.heap.size w
  have _u0 := hxl
  have _u1 := hul
  have _u2 := hvl
  clear _u0 _u1 _u2
  obtain ⟨p1, p2, l0, l1, l2, hx3, hns⟩ := tenB_n3 ht
  have hp5 : 2 ≤ p ∧ p ≤ 5 := ⟨p1, p2⟩
  have hlu : us.length = n0 ∧ numsB p us = true := by simp only [listB, Bool.and_eq_true, decide_eq_true_eq] at hu; exact ⟨by omega, hu.2⟩
  have hlv : vs.length = n1 ∧ numsB p vs = true := by simp only [listB, Bool.and_eq_true, decide_eq_true_eq] at hv; exact ⟨by omega, hv.2⟩
  obtain ⟨hul0, hnu⟩ := hlu
  obtain ⟨hvl1, hnv⟩ := hlv
  have hula : us.length ≤ n0 ∧ n0 ≤ us.length := by omega
  have hvla : vs.length ≤ n1 ∧ n1 ≤ vs.length := by omega
  have HX3 := Lib.hid hx3
  have HNs := Lib.hid hns
  have HNu := Lib.hid hnu
  have HNv := Lib.hid hnv
  have HOw : Hid (∀ (g : Nat) (W : World), At W g (.cells (iar (vtL p n1 n2 xs us vs (n0 * n1))) 2 (0, 0)) → OwnI W g (.slice (some ⟨g, 0, none⟩) n2 n2) (vtL p n1 n2 xs us vs (n0 * n1))) := Lib.hid (fun g W h => by have h9 := OwnI.of_at h (Nat.le_refl g) (by rw [vtL_len]; omega); rwa [vtL_len] at h9)
  clear ht hu hv hx3 hul0 hvl1 hns hnu hnv
  go_enter Try.func88, Try.ntmps88
  go_upto_region 0 with (fail)
  refine wp_region_lit ?_
  refine ls_op rfl (fun K' hK' => ?_)
  have lz1 := hB.size
  refine wp_new (some 3) rfl (exec_box 28 _ rfl (#[.int .i64 p, .int .i64 n0, .int .i64 n1, .int .i64 n2, .slice A xs.length c]) rfl) (fun Wz2 nnz3 => ?_)
  have bz4 := nnz3.below (Below.refl _ _) (Nat.le_refl _)
  replace hB := below_after hB bz4
  have hz5 : At Wz2 w.heap.size (.cells #[.int .i64 p, .int .i64 n0, .int .i64 n1, .int .i64 n2, .slice A xs.length c] 28 (0, 0)) := nnz3.at_
  refine hK' _ _ ?_
  clear hK' K' nnz3 bz4
  go_frame
  refine ls_ex (some 6) (.slice none 0 0) rfl rfl (exec_assign _ rfl (.slice none 0 0) rfl) ?_
  go_frame
  refine wpList_nil ?_
  go_upto_region 1 with (fail)
  refine wp_region_lit ?_
  refine ls_ex (some 14) (.pointer (some ⟨w.heap.size, 3, none⟩)) rfl rfl (exec_fieldAddr 28 _ 3 rfl _ (by kernel_rfl)) ?_
  go_frame
  refine ls_ex (some 15) (.int .i64 n2) rfl rfl (exec_load_one 2 _ rfl w.heap.size 3 rfl (.int .i64 n2) _ Try.underlying2 rfl (hz5.at_ 3)) ?_
  go_frame
  refine ls_op rfl (fun K' hK' => ?_)
  have lz9 := hB.size
  have lz10 := hz5.lt
  refine wp_make_I (some 16) rfl _ _ rfl n2 rfl rfl (by omega) (fun Wz6 nnz7 => ?_)
  have bz8 := nnz7.below (Below.refl _ _) (Nat.le_refl _)
  replace hB := below_after hB bz8
  replace hz5 := hz5.after bz8
  have hL : At Wz6 Wz2.heap.size (.cells (iar (List.replicate n2 0)) 2 (0, 0)) := nnz7.at_
  refine hK' _ _ ?_
  clear hK' K' nnz7 bz8
  go_frame
  refine ls_ex (some 7) (.slice (some ⟨Wz2.heap.size, 0, none⟩) n2 n2) rfl rfl (exec_assign _ rfl (.slice (some ⟨Wz2.heap.size, 0, none⟩) n2 n2) rfl) ?_
  go_frame
  refine wpList_nil ?_
  go_upto_region 2 with (fail)
  refine wp_region_lit ?_
  refine ls_ex (some 17) (.slice Bu us.length cu) rfl rfl (exec_move _ rfl (.slice Bu us.length cu) rfl) ?_
  go_frame
  refine ls_ex (some 18) (.int .i64 us.length) rfl rfl (exec_len _ 26 2 rfl Bu us.length cu rfl Try.underlying26) ?_
  go_frame
  refine ls_ex (some 19) (.int .i64 0) rfl rfl (exec_move _ rfl (.int .i64 0) rfl) ?_
  go_frame
  refine wpList_nil ?_
  go_wp2_with fail
  go_loopw [19] (fun s19 wr => ∃ a : Nat, a ≤ n0 ∧ s19 = .int .i64 a ∧ Below w.heap.size w wr ∧ At wr w.heap.size (.cells #[.int .i64 p, .int .i64 n0, .int .i64 n1, .int .i64 n2, .slice A xs.length c] 28 (0, 0)) ∧ At wr Wz2.heap.size (.cells (iar (vtL p n1 n2 xs us vs (a * n1))) 2 (0, 0))) (fun s19 _ => n0 - (intOf s19).toNat)
  case atStart => exact ⟨0, by omega, rfl, hB, hz5, by rw [Nat.zero_mul, vtL_zero]; exact hL⟩
  case round =>
    clear hB hz5 hL
    obtain ⟨a, ha, rfl, hB, h0, hL⟩ := hrel
    by_cases hlt : a < n0
    · obtain ⟨bu, ou, rfl, hc1⟩ := (hU.keep hB).at_ (i := a) (by omega)
      clear hc1
      obtain ⟨U, hU9⟩ : ∃ U, us[a]? = some U := ⟨us[a], List.getElem?_eq_getElem (by omega)⟩
      have hUb : 0 ≤ U ∧ U < p := by rw [List.getElem?_eq_getElem (by omega)] at hU9; cases hU9; exact numsB_at HNu.out (by omega)
      have HUg := Lib.hid hU9
      clear hU9
      go_upto_region 3 with (fail)
      refine wp_region_lit ?_
      refine ls_ex (some 20) (.bool true) rfl rfl (exec_lss _ _ _ _ rfl a us.length rfl rfl true (decide_eq_true (by omega))) ?_
      go_frame
      refine wpList_nil ?_
      go_upto_region 4 with (fail)
      refine wp_region_lit ?_
      refine ls_ex (some 21) (.int .i64 a) rfl rfl (exec_move _ rfl (.int .i64 a) rfl) ?_
      go_frame
      refine ls_ex (some 22) (.pointer (some ⟨bu, ou + a * 1, none⟩)) rfl rfl (exec_index_slice _ 2 _ _ rfl bu ou us.length cu a 1 rfl rfl Try.underlying26 (by kernel_rfl) (by omega)) ?_
      go_frame
      refine ls_ex (some 23) (.int .i64 U) rfl rfl (exec_load_one 2 _ rfl bu (ou + a * 1) rfl (.int .i64 U) _ Try.underlying2 rfl (RdI.c1v (hU.keep hB) HUg.out)) ?_
      go_frame
      refine ls_ex (some 8) (.int .i64 a) rfl rfl (exec_assign _ rfl (.int .i64 a) rfl) ?_
      go_frame
      refine ls_ex (some 9) (.int .i64 U) rfl rfl (exec_assign _ rfl (.int .i64 U) rfl) ?_
      go_frame
      refine wpList_nil ?_
      go_upto_region 5 with (fail)
      refine wp_region_lit ?_
      refine ls_ex (some 24) (.slice Bv vs.length cv) rfl rfl (exec_move _ rfl (.slice Bv vs.length cv) rfl) ?_
      go_frame
      refine ls_ex (some 25) (.int .i64 vs.length) rfl rfl (exec_len _ 26 2 rfl Bv vs.length cv rfl Try.underlying26) ?_
      go_frame
      refine ls_ex (some 26) (.int .i64 0) rfl rfl (exec_move _ rfl (.int .i64 0) rfl) ?_
      go_frame
      refine wpList_nil ?_
      go_wp2_with fail
      obtain ⟨we, rfl⟩ : ∃ x : World, x = wr := ⟨_, rfl⟩
      go_loopw [26] (fun s26 wr => ∃ b : Nat, b ≤ n1 ∧ s26 = .int .i64 b ∧ Below w.heap.size w wr ∧ At wr w.heap.size (.cells #[.int .i64 p, .int .i64 n0, .int .i64 n1, .int .i64 n2, .slice A xs.length c] 28 (0, 0)) ∧ At wr Wz2.heap.size (.cells (iar (vtL p n1 n2 xs us vs (a * n1 + b))) 2 (0, 0))) (fun s26 _ => n1 - (intOf s26).toNat)
      case atStart => exact ⟨0, by omega, rfl, hB, h0, by rw [Nat.add_zero]; exact hL⟩
      case round =>
        clear hB h0 hL
        obtain ⟨b, hb, rfl, hB, h0, hL⟩ := hrel
        by_cases hlt2 : b < n1
        · obtain ⟨bv, ov, rfl, hc1⟩ := (hV.keep hB).at_ (i := b) (by omega)
          clear hc1
          obtain ⟨Y, hY⟩ : ∃ Y, vs[b]? = some Y := ⟨vs[b], List.getElem?_eq_getElem (by omega)⟩
          have hYb : 0 ≤ Y ∧ Y < p := by rw [List.getElem?_eq_getElem (by omega)] at hY; cases hY; exact numsB_at HNv.out (by omega)
          have HYg := Lib.hid hY
          obtain ⟨OLD, hOLD⟩ : ∃ l, vtL p n1 n2 xs us vs (a * n1 + b) = l := ⟨_, rfl⟩
          obtain ⟨NEW, hNEW⟩ : ∃ l, vtL p n1 n2 xs us vs (a * n1 + b + 1) = l := ⟨_, rfl⟩
          have HN1 : Hid (NEW.length = n2) := Lib.hid (by rw [← hNEW, vtL_len])
          have HN2 : Hid (OLD.length = n2) := Lib.hid (by rw [← hOLD, vtL_len])
          have HOLD := Lib.hid hOLD
          have HNEW := Lib.hid hNEW
          clear hOLD hNEW hY
          go_upto_region 6 with (fail)
          refine wp_region_lit ?_
          refine ls_ex (some 27) (.bool true) rfl rfl (exec_lss _ _ _ _ rfl b vs.length rfl rfl true (decide_eq_true (by omega))) ?_
          go_frame
          refine wpList_nil ?_
          go_upto_region 7 with (fail)
          refine wp_region_lit ?_
          refine ls_ex (some 28) (.int .i64 b) rfl rfl (exec_move _ rfl (.int .i64 b) rfl) ?_
          go_frame
          refine ls_ex (some 29) (.pointer (some ⟨bv, ov + b * 1, none⟩)) rfl rfl (exec_index_slice _ 2 _ _ rfl bv ov vs.length cv b 1 rfl rfl Try.underlying26 (by kernel_rfl) (by omega)) ?_
          go_frame
          refine ls_ex (some 30) (.int .i64 Y) rfl rfl (exec_load_one 2 _ rfl bv (ov + b * 1) rfl (.int .i64 Y) _ Try.underlying2 rfl (RdI.c1v (hV.keep hB) HYg.out)) ?_
          go_frame
          refine ls_ex (some 10) (.int .i64 b) rfl rfl (exec_assign _ rfl (.int .i64 b) rfl) ?_
          go_frame
          refine ls_ex (some 11) (.int .i64 Y) rfl rfl (exec_assign _ rfl (.int .i64 Y) rfl) ?_
          go_frame
          refine wpList_nil ?_
          go_upto_region 8 with (fail)
          refine wp_region_lit ?_
          refine ls_ex (some 31) (.slice (some ⟨Wz2.heap.size, 0, none⟩) n2 n2) rfl rfl (exec_move _ rfl (.slice (some ⟨Wz2.heap.size, 0, none⟩) n2 n2) rfl) ?_
          go_frame
          refine ls_ex (some 32) (.int .i64 n2) rfl rfl (exec_len _ 26 2 rfl ((some ⟨Wz2.heap.size, 0, none⟩)) n2 n2 rfl Try.underlying26) ?_
          go_frame
          refine ls_ex (some 33) (.int .i64 0) rfl rfl (exec_move _ rfl (.int .i64 0) rfl) ?_
          go_frame
          refine wpList_nil ?_
          go_wp2_with fail
          obtain ⟨wv, rfl⟩ : ∃ x : World, x = wr := ⟨_, rfl⟩
          go_loopw [33] (fun s33 wr => ∃ k : Nat, k ≤ n2 ∧ s33 = .int .i64 k ∧ Below w.heap.size w wr ∧ At wr w.heap.size (.cells #[.int .i64 p, .int .i64 n0, .int .i64 n1, .int .i64 n2, .slice A xs.length c] 28 (0, 0)) ∧ At wr Wz2.heap.size (.cells (iar (mixI NEW OLD k)) 2 (0, 0))) (fun s33 _ => n2 - (intOf s33).toNat)
          case atStart => exact ⟨0, by omega, rfl, hB, h0, by rw [mixI_zero, ← HOLD.out]; exact hL⟩
          case round =>
            clear hB h0 hL
            obtain ⟨k, hk, rfl, hB, h0, hL⟩ := hrel
            by_cases hlt3 : k < n2
            · obtain ⟨X, hX⟩ : ∃ n : Int, at3 n1 n2 xs a b k = n := ⟨_, rfl⟩
              obtain ⟨V, hV⟩ : ∃ n : Int, vtN p n1 n2 xs us vs (a * n1 + b) k = n := ⟨_, rfl⟩
              obtain ⟨XU, hXU⟩ : ∃ n : Int, X * U = n := ⟨_, rfl⟩
              obtain ⟨XUY, hXUY⟩ : ∃ n : Int, XU * Y = n := ⟨_, rfl⟩
              obtain ⟨V2, hV2⟩ : ∃ n : Int, V + XUY = n := ⟨_, rfl⟩
              obtain ⟨NV, hNV⟩ : ∃ n : Int, V2 % p = n := ⟨_, rfl⟩
              have hXb := numsB_nth HNs.out (show 0 < p by omega) (((a * n1 + b) * n2 + k : Nat) : Int)
              have hXc : 0 ≤ X ∧ X < p := by rw [← hX]; exact numsB_nth HNs.out (show 0 < p by omega) _
              have hVb : 0 ≤ V ∧ V ≤ 4 := by rw [← hV]; exact vtN_b hp5 _ _ _ _ _ _ _
              have hXUb : 0 ≤ XU ∧ XU ≤ 16 := by rw [← hXU]; exact m4 ⟨hXc.1, by omega⟩ ⟨hUb.1, by omega⟩
              have hXYb : 0 ≤ XUY ∧ XUY ≤ 64 := by rw [← hXUY]; exact m44 hXUb ⟨hYb.1, by omega⟩
              have HXv := Lib.hid hX
              have HXU : Hid (IntKind.i64.wrap (X * U) = XU) := Lib.hid (by rw [hXU]; exact IntWalk.i64_in _ (by omega))
              have HXUY : Hid (IntKind.i64.wrap (XU * Y) = XUY) := Lib.hid (by rw [hXUY]; exact IntWalk.i64_in _ (by omega))
              have HV2 : Hid (IntKind.i64.wrap (V + XUY) = V2) := Lib.hid (by rw [hV2]; exact IntWalk.i64_in _ (by omega))
              have HNV : Hid (V2.tmod p = NV) := Lib.hid (by rw [← hNV]; exact Int.tmod_eq_emod_of_nonneg (by omega))
              have hP0 : p ≠ 0 := by omega
              have HVo : Hid ((mixI NEW OLD k)[k]? = some V) := Lib.hid (by rw [mixI_get HN1.out hlt3, ← HOLD.out, vtL_get _ _ _ _ _ _ _ hlt3, hV])
              have HSet : Hid ((mixI NEW OLD k).set k NV = mixI NEW OLD (k + 1)) := Lib.hid (mixI_set HN1.out HN2.out hlt3 (by rw [← HNEW.out, vtL_get _ _ _ _ _ _ _ hlt3, vtN_step hlt2 hX HUg.out HYg.out, hV, hXU, hXUY, hV2, hNV]))
              have HLen : Hid ((mixI NEW OLD k).length = n2) := Lib.hid (mixI_len HN1.out HN2.out (by omega))
              clear hX hV hXU hXUY hV2 hNV hXb
              go_upto_region 9 with (fail)
              refine wp_region_lit ?_
              refine ls_ex (some 34) (.bool true) rfl rfl (exec_lss _ _ _ _ rfl k n2 rfl rfl true (decide_eq_true (by omega))) ?_
              go_frame
              refine wpList_nil ?_
              go_upto_region 10 with (fail)
              refine wp_region_lit ?_
              refine ls_ex (some 35) (.int .i64 k) rfl rfl (exec_move _ rfl (.int .i64 k) rfl) ?_
              go_frame
              refine ls_ex (some 12) (.int .i64 k) rfl rfl (exec_assign _ rfl (.int .i64 k) rfl) ?_
              go_frame
              refine wpList_nil ?_
              go_upto_region 11 with (fail)
              refine wp_region_lit ?_
              refine ls_ex (some 36) (.agg #[.int .i64 p, .int .i64 n0, .int .i64 n1, .int .i64 n2, .slice A xs.length c]) rfl rfl (exec_load_all 28 _ rfl w.heap.size rfl _ _ _ h0 Try.underlying28 rfl 5 (by kernel_rfl) rfl) ?_
              go_frame
              refine ls_ex (some 37) (.int .i64 a) rfl rfl (exec_move _ rfl (.int .i64 a) rfl) ?_
              go_frame
              refine ls_ex (some 38) (.int .i64 b) rfl rfl (exec_move _ rfl (.int .i64 b) rfl) ?_
              go_frame
              refine ls_ex (some 39) (.int .i64 k) rfl rfl (exec_move _ rfl (.int .i64 k) rfl) ?_
              go_frame
              refine ls_op rfl (fun K' hK' => ?_)
              have lz13 := hB.size
              have lz14 := h0.lt
              have lz15 := hL.lt
              refine wp_call4 (some 40) rfl 92 _ _ _ _ _ rfl (fun args w => by kernel_rfl) _ _ _ _ rfl rfl rfl rfl _ (numberAt_m p n0 n1 n2 A c xs a b k _ (hX.keep hB) HX3.out l0.2 l1.2 l2.2 hlt hlt2 hlt3) (fun e Wz11 h => ?_)
              obtain ⟨rfl, bz12⟩ := h
              replace hB := below_after hB bz12
              replace h0 := h0.after bz12
              replace hL := hL.after bz12
              rw [HXv.out]
              clear bz12
              refine ⟨_, rfl, ?_⟩
              refine hK' _ _ ?_
              clear hK' K'
              go_frame
              refine ls_ex (some 13) (.int .i64 X) rfl rfl (exec_assign _ rfl (.int .i64 X) rfl) ?_
              go_frame
              refine wpList_nil ?_
              go_upto_region 12 with (fail)
              refine wp_region_y (zs := [16]) (S := fun w' => Below w.heap.size w w' ∧ At w' w.heap.size (.cells #[.int .i64 p, .int .i64 n0, .int .i64 n1, .int .i64 n2, .slice A xs.length c] 28 (0, 0))) (S2 := fun w' => At w' Wz2.heap.size (.cells (iar (mixI NEW OLD k)) 2 (0, 0))) (by kernel_rfl) ?_
              change wpAnyY _ _ _ _ _ _ _ _ _ _ (World.drew _)
              generalize hwdz16 : World.drew _ = wdz16
              replace hB : Below w.heap.size w wdz16 := by rw [← hwdz16]; exact hB.drew
              replace h0 : At wdz16 w.heap.size (.cells #[.int .i64 p, .int .i64 n0, .int .i64 n1, .int .i64 n2, .slice A xs.length c] 28 (0, 0)) := by rw [← hwdz16]; exact h0
              replace hL : At wdz16 Wz2.heap.size (.cells (iar (mixI NEW OLD k)) 2 (0, 0)) := by rw [← hwdz16]; exact hL
              clear hwdz16
              refine y_yield 0 (some 41) (.slice (some ⟨Wz2.heap.size, 0, none⟩) n2 n2) rfl (by kernel_rfl) (by kernel_rfl) (by kernel_rfl) (fun _ _ _ h => h) rfl rfl ⟨hB, h0⟩ (fun w' h' => exec_move _ rfl (.slice (some ⟨Wz2.heap.size, 0, none⟩) n2 n2) rfl) ?_
              go_frame
              refine y_yield 1 (some 42) (.int .i64 k) rfl (by kernel_rfl) (by kernel_rfl) (by kernel_rfl) (fun _ _ _ h => h) rfl rfl ⟨hB, h0⟩ (fun w' h' => exec_move _ rfl (.int .i64 k) rfl) ?_
              go_frame
              refine y_yield 2 (some 43) (.slice (some ⟨Wz2.heap.size, 0, none⟩) n2 n2) rfl (by kernel_rfl) (by kernel_rfl) (by kernel_rfl) (fun _ _ _ h => h) rfl rfl ⟨hB, h0⟩ (fun w' h' => exec_move _ rfl (.slice (some ⟨Wz2.heap.size, 0, none⟩) n2 n2) rfl) ?_
              go_frame
              refine y_yield 3 (some 44) (.int .i64 k) rfl (by kernel_rfl) (by kernel_rfl) (by kernel_rfl) (fun _ _ _ h => h) rfl rfl ⟨hB, h0⟩ (fun w' h' => exec_move _ rfl (.int .i64 k) rfl) ?_
              go_frame
              refine y_yield 4 (some 45) (.pointer (some ⟨Wz2.heap.size, k * 1, none⟩)) rfl (by kernel_rfl) (by kernel_rfl) (by kernel_rfl) (fun _ _ _ h => h) rfl rfl ⟨hB, h0⟩ (fun w' h' => exec_ix0 _ 2 _ _ rfl Wz2.heap.size n2 n2 k 1 rfl rfl Try.underlying26 (by kernel_rfl) (by omega)) ?_
              go_frame
              refine y_yield2 5 (some 46) (.int .i64 V) rfl (by kernel_rfl) (by kernel_rfl) (by kernel_rfl) (by kernel_rfl) (fun _ _ _ h => h) rfl rfl ⟨hB, h0⟩ hL (fun w' h' h2' => exec_load_one 2 _ rfl Wz2.heap.size (k * 1) rfl (.int .i64 V) _ Try.underlying2 rfl (cell_iar h2' HVo.out)) ?_
              go_frame
              refine y_yield 6 (some 47) (.int .i64 X) rfl (by kernel_rfl) (by kernel_rfl) (by kernel_rfl) (fun _ _ _ h => h) rfl rfl ⟨hB, h0⟩ (fun w' h' => exec_move _ rfl (.int .i64 X) rfl) ?_
              go_frame
              refine y_yield 7 (some 48) (.int .i64 U) rfl (by kernel_rfl) (by kernel_rfl) (by kernel_rfl) (fun _ _ _ h => h) rfl rfl ⟨hB, h0⟩ (fun w' h' => exec_move _ rfl (.int .i64 U) rfl) ?_
              go_frame
              refine y_yield 8 (some 49) (.int .i64 XU) rfl (by kernel_rfl) (by kernel_rfl) (by kernel_rfl) (fun _ _ _ h => h) rfl rfl ⟨hB, h0⟩ (fun w' h' => exec_mul _ _ _ _ rfl X U XU rfl rfl HXU.out) ?_
              go_frame
              refine y_yield 9 (some 50) (.int .i64 Y) rfl (by kernel_rfl) (by kernel_rfl) (by kernel_rfl) (fun _ _ _ h => h) rfl rfl ⟨hB, h0⟩ (fun w' h' => exec_move _ rfl (.int .i64 Y) rfl) ?_
              go_frame
              refine y_yield 10 (some 51) (.int .i64 XUY) rfl (by kernel_rfl) (by kernel_rfl) (by kernel_rfl) (fun _ _ _ h => h) rfl rfl ⟨hB, h0⟩ (fun w' h' => exec_mul _ _ _ _ rfl XU Y XUY rfl rfl HXUY.out) ?_
              go_frame
              refine y_yield 11 (some 52) (.int .i64 V2) rfl (by kernel_rfl) (by kernel_rfl) (by kernel_rfl) (fun _ _ _ h => h) rfl rfl ⟨hB, h0⟩ (fun w' h' => exec_add _ _ _ _ rfl V XUY V2 rfl rfl HV2.out) ?_
              go_frame
              refine y_yield 12 (some 53) (.pointer (some ⟨w.heap.size, 0, none⟩)) rfl (by kernel_rfl) (by kernel_rfl) (by kernel_rfl) (fun _ _ _ h => h) rfl rfl ⟨hB, h0⟩ (fun w' h' => exec_fieldAddr 28 _ 0 rfl _ (by kernel_rfl)) ?_
              go_frame
              refine y_yield 13 (some 54) (.int .i64 p) rfl (by kernel_rfl) (by kernel_rfl) (by kernel_rfl) (fun _ _ _ h => h) rfl rfl ⟨hB, h0⟩ (fun w' h' => exec_load_one 2 _ rfl w.heap.size 0 rfl (.int .i64 p) _ Try.underlying2 rfl (h'.2.at_ 0)) ?_
              go_frame
              refine y_yield 14 (some 55) (.int .i64 NV) rfl (by kernel_rfl) (by kernel_rfl) (by kernel_rfl) (fun _ _ _ h => h) rfl rfl ⟨hB, h0⟩ (fun w' h' => exec_rem _ _ _ _ rfl V2 p NV rfl rfl hP0 HNV.out) ?_
              go_frame
              refine y_yield 15 (some 56) (.pointer (some ⟨Wz2.heap.size, k * 1, none⟩)) rfl (by kernel_rfl) (by kernel_rfl) (by kernel_rfl) (fun _ _ _ h => h) rfl rfl ⟨hB, h0⟩ (fun w' h' => exec_ix0 _ 2 _ _ rfl Wz2.heap.size n2 n2 k 1 rfl rfl Try.underlying26 (by kernel_rfl) (by omega)) ?_
              go_frame
              refine y_oper 16 (by kernel_rfl) rfl rfl (fun K' hK' => ?_)
              refine wp_store_one 2 _ _ rfl rfl Wz2.heap.size (k * 1) rfl (.int .i64 NV) rfl rfl rfl _ _ hL (by kernel_rfl) (by rw [iar_size, HLen.out]; omega) (fun Wz17 pz18 => ?_)
              replace hB := pz18.below hB (by omega)
              replace h0 := pz18.other h0 (by omega)
              replace hL : At Wz17 Wz2.heap.size (.cells (iar (mixI NEW OLD (k + 1))) 2 (0, 0)) := by have h9 := pz18.at_; rwa [Nat.mul_one, iar_set, HSet.out] at h9
              refine hK' _ _ ⟨hB, h0⟩ (fun h => absurd (by decide) h) ?_
              clear hK' K' pz18
              refine y_done (by kernel_rfl) ?_ _
              go_upto_region 13 with (fail)
              refine wp_region_lit ?_
              refine ls_ex (some 57) (.int .i64 (k + 1)) rfl rfl (exec_add _ _ _ _ rfl k 1 (k + 1) rfl rfl (IntWalk.i64_in _ (by omega))) ?_
              go_frame
              refine ls_ex (some 33) (.int .i64 (k + 1)) rfl rfl (exec_move _ rfl (.int .i64 (k + 1)) rfl) ?_
              go_frame
              refine wpList_nil ?_
              go_wp2_with fail
              go_roundw
              case rel => exact ⟨k + 1, by omega, by go_num, hB, h0, hL⟩
              case measure => simp [intOf]; omega
            · have HE9 : Hid (mixI NEW OLD k = vtL p n1 n2 xs us vs (a * n1 + b + 1)) := Lib.hid (by rw [show k = n2 by omega, mixI_all HN1.out HN2.out, HNEW.out])
              rw [HE9.out] at hL
              go_upto_region 9 with (fail)
              refine wp_region_lit ?_
              refine ls_ex (some 34) (.bool false) rfl rfl (exec_lss _ _ _ _ rfl k n2 rfl rfl false (decide_eq_false (by omega))) ?_
              go_frame
              refine wpList_nil ?_
              go_upto_region 14 with (fail)
              refine wp_region_lit ?_
              refine ls_ex (some 58) (.int .i64 (b + 1)) rfl rfl (exec_add _ _ _ _ rfl b 1 (b + 1) rfl rfl (IntWalk.i64_in _ (by omega))) ?_
              go_frame
              refine ls_ex (some 26) (.int .i64 (b + 1)) rfl rfl (exec_move _ rfl (.int .i64 (b + 1)) rfl) ?_
              go_frame
              refine wpList_nil ?_
              go_wp2_with fail
              go_roundw
              case rel => exact ⟨b + 1, by omega, by go_num, hB, h0, by rw [← Nat.add_assoc]; exact hL⟩
              case measure => simp [intOf]; omega
        · have HE : Hid (vtL p n1 n2 xs us vs (a * n1 + b) = vtL p n1 n2 xs us vs ((a + 1) * n1)) := Lib.hid (by rw [Nat.add_mul, Nat.one_mul, show b = n1 by omega])
          rw [HE.out] at hL
          go_upto_region 6 with (fail)
          refine wp_region_lit ?_
          refine ls_ex (some 27) (.bool false) rfl rfl (exec_lss _ _ _ _ rfl b vs.length rfl rfl false (decide_eq_false (by omega))) ?_
          go_frame
          refine wpList_nil ?_
          go_upto_region 15 with (fail)
          refine wp_region_lit ?_
          refine ls_ex (some 59) (.int .i64 (a + 1)) rfl rfl (exec_add _ _ _ _ rfl a 1 (a + 1) rfl rfl (IntWalk.i64_in _ (by omega))) ?_
          go_frame
          refine ls_ex (some 19) (.int .i64 (a + 1)) rfl rfl (exec_move _ rfl (.int .i64 (a + 1)) rfl) ?_
          go_frame
          refine wpList_nil ?_
          go_wp2_with fail
          go_roundw
          case rel => exact ⟨a + 1, by omega, by go_num, hB, h0, hL⟩
          case measure => simp [intOf]; omega
    · have HE : Hid (vtL p n1 n2 xs us vs (a * n1) = vtL p n1 n2 xs us vs (n0 * n1)) := Lib.hid (by rw [show a = n0 by omega])
      rw [HE.out] at hL
      go_upto_region 3 with (fail)
      refine wp_region_lit ?_
      refine ls_ex (some 20) (.bool false) rfl rfl (exec_lss _ _ _ _ rfl a us.length rfl rfl false (decide_eq_false (by omega))) ?_
      go_frame
      refine wpList_nil ?_
      go_upto_region 16 with (fail)
      refine wp_region_lit ?_
      refine ls_ex (some 60) (.slice (some ⟨Wz2.heap.size, 0, none⟩) n2 n2) rfl rfl (exec_move _ rfl (.slice (some ⟨Wz2.heap.size, 0, none⟩) n2 n2) rfl) ?_
      go_frame
      refine ls_ex (some 6) (.slice (some ⟨Wz2.heap.size, 0, none⟩) n2 n2) rfl rfl (exec_assign _ rfl (.slice (some ⟨Wz2.heap.size, 0, none⟩) n2 n2) rfl) ?_
      go_frame
      refine wpList_nil ?_
      go_wp2_with fail
      go_ret
      exact ⟨_, rfl, (HOw.out _ _ hL).mono (by omega), hB⟩
theorem specValueOfTensor_c (p i j k : Int) (A : Option Addr) (c : Nat) (xs : List Int) (Bu : Option Addr) (cu : Nat) (us : List Int) (Bv : Option Addr) (cv : Nat) (vs : List Int) (w : World) (hX : RdI w A xs) (hxl : xs.length ≤ 1048576) (hU : RdI w Bu us) (hul : us.length ≤ 1048576) (hV : RdI w Bv vs) (hvl : vs.length ≤ 1048576) : Calls Try.prog 22 #[.agg #[.int .i64 p, .int .i64 i, .int .i64 j, .int .i64 k, .slice A xs.length c], .slice Bu us.length cu, .slice Bv vs.length cv] w (ResI w (votL p i j k xs us vs) (votCode p i j k xs us vs)) := by
  cases ht : tenB p i j k xs with
  | false => exact specVot_a p i j k A c xs Bu cu us Bv cv vs w hX hxl hU hul hV hvl ht
  | true =>
    cases hu : listB p i us with
    | false => exact specVot_b p i j k A c xs Bu cu us Bv cv vs w hX hxl hU hul hV hvl ht hu
    | true =>
      cases hv : listB p j vs with
      | false => exact specVot_c p i j k A c xs Bu cu us Bv cv vs w hX hxl hU hul hV hvl ht hu hv
      | true =>
        obtain ⟨h1, h2, h3, h4, _⟩ := tenB_parts ht
        have s2 := sideB_in h2
        have s3 := sideB_in h3
        have s4 := sideB_in h4
        obtain ⟨n0, rfl⟩ := Int.eq_ofNat_of_zero_le (show 0 ≤ i by omega)
        obtain ⟨n1, rfl⟩ := Int.eq_ofNat_of_zero_le (show 0 ≤ j by omega)
        obtain ⟨n2, rfl⟩ := Int.eq_ofNat_of_zero_le (show 0 ≤ k by omega)
        exact specVot_y p n0 n1 n2 A c xs Bu cu us Bv cv vs w hX hxl hU hul hV hvl ht hu hv
theorem tValid_c (p i j k : Int) (A : Option Addr) (c : Nat) (xs : List Int) (w : World) (hX : RdI w A xs) (hxl : xs.length ≤ 1048576) (b : Bool) (hb : tenB p i j k xs = b) : Calls Try.prog 87 #[.agg #[.int .i64 p, .int .i64 i, .int .i64 j, .int .i64 k, .slice A xs.length c]] w fun e w' => e = .returned (.bool b) ∧ Below w.heap.size w w' := by
  have HI := Lib.hid (fun w' (hb9 : Below w.heap.size w w') => implIsTensor_c p i j k A c xs w' (hX.keep hb9) hxl)
  rw [hb] at HI
  clear hX hb
  go_enter Try.func87, Try.ntmps87
  go_wp2_with (first | (refine wpList_abs1 ?_; intro W hsz hB h0) | (refine wpList_load_all rfl 28 _ rfl w.heap.size rfl _ _ _ h0 Try.underlying28 rfl 5 (by kernel_rfl) rfl ?_))
  refine (HI.out _ hB).mono ?_
  rintro e w1 ⟨rfl, b1⟩
  replace hB := below_after hB b1
  go_wp2_with fail
  go_ret
  exact ⟨rfl, hB⟩
theorem tModulus_c (p i j k : Int) (v : Value) (w : World) : Calls Try.prog 89 #[.agg #[.int .i64 p, .int .i64 i, .int .i64 j, .int .i64 k, v]] w fun e w' => e = .returned (.int .i64 p) ∧ Below w.heap.size w w' := by
  go_enter Try.func89, Try.ntmps89
  go_wp2_with fail
  go_ret
  exact ⟨rfl, below1 _ _⟩
set_option maxHeartbeats 4000000 in
theorem listMadeT_a (p i j k : Int) (A : Option Addr) (c : Nat) (xs : List Int) (Bu : Option Addr) (cu : Nat) (us : List Int) (Bv : Option Addr) (cv : Nat) (vs : List Int) (w : World) (hX : RdI w A xs) (hxl : xs.length ≤ 1048576) (hU : RdI w Bu us) (hul : us.length ≤ 1048576) (hV : RdI w Bv vs) (hvl : vs.length ≤ 1048576) (ht : tenB p i j k xs = false) : Calls Try.prog 35 #[.iface 28 (.agg #[.int .i64 p, .int .i64 i, .int .i64 j, .int .i64 k, .slice A xs.length c]), .slice Bu us.length cu, .slice Bv vs.length cv] w (ResI w (votL p i j k xs us vs) (votCode p i j k xs us vs)) := by
  have HV := Lib.hid (tValid_c p i j k A c xs w hX hxl false ht)
  have HC : Hid (votCode p i j k xs us vs = 1) := Lib.hid (by unfold votCode; simp [ht])
  have HR : Hid (votL p i j k xs us vs = []) := Lib.hid (by unfold votL; rw [HC.out]; rfl)
  have _u := hul; have _u2 := hvl; have _u3 := hU; have _u4 := hV
  clear _u _u2 _u3 _u4 ht hX hU hV
  go_enter Try.func35, Try.ntmps35
  go_wp2_with fail
  refine HV.out.mono ?_
  rintro e w1 ⟨rfl, b1⟩
  go_wp2_with fail
  go_ret2
  exact ⟨_, by rw [HC.out]; rfl, by rw [HR.out]; exact OwnI.nil _ _, b1⟩
set_option maxHeartbeats 4000000 in
theorem listMadeT_b (p i j k : Int) (A : Option Addr) (c : Nat) (xs : List Int) (Bu : Option Addr) (cu : Nat) (us : List Int) (Bv : Option Addr) (cv : Nat) (vs : List Int) (w : World) (hX : RdI w A xs) (hxl : xs.length ≤ 1048576) (hU : RdI w Bu us) (hul : us.length ≤ 1048576) (hV : RdI w Bv vs) (hvl : vs.length ≤ 1048576) (ht : tenB p i j k xs = true) (hu : listB p i us = false) : Calls Try.prog 35 #[.iface 28 (.agg #[.int .i64 p, .int .i64 i, .int .i64 j, .int .i64 k, .slice A xs.length c]), .slice Bu us.length cu, .slice Bv vs.length cv] w (ResI w (votL p i j k xs us vs) (votCode p i j k xs us vs)) := by
  have HV := Lib.hid (tValid_c p i j k A c xs w hX hxl true ht)
  have HLU := Lib.hid (fun w' (hb9 : Below w.heap.size w w') => isList_c Bu cu p i us w' (hU.keep hb9) hul)
  rw [hu] at HLU
  have HC : Hid (votCode p i j k xs us vs = 2) := Lib.hid (by unfold votCode; simp [ht, hu])
  have HR : Hid (votL p i j k xs us vs = []) := Lib.hid (by unfold votL; rw [HC.out]; rfl)
  have _u2 := hvl; have _u4 := hV
  clear _u2 _u4 ht hu hX hU hV
  go_enter Try.func35, Try.ntmps35
  go_wp2_with fail
  refine HV.out.mono ?_
  rintro e w1 ⟨rfl, hB⟩
  go_wp2_with fail
  refine (tModulus_c p i j k _ _).mono ?_
  rintro e w2 ⟨rfl, b2⟩
  replace hB := below_after hB b2
  go_wp2_with fail
  refine (boxOf_c p i j k _ _).mono ?_
  rintro e w3 ⟨rfl, b3⟩
  replace hB := below_after hB b3
  have l3 := hB.size
  go_wp2_with (first | (refine wpList_abs1 ?_; intro W hsz hB2 h0; have z2 : W.heap.size = w3.heap.size + 1 := hsz; replace hB := below_after hB hB2) | (refine wpList_store_all rfl 75 _ _ rfl rfl w3.heap.size rfl _ rfl _ _ h0 3 (by kernel_rfl) rfl rfl (by simp [Value.oneCell']) ?_; intro W3 p3; replace hB := p3.below hB (by omega); have h3 := p3.at_; have x0 : W3.cell? ⟨w3.heap.size, 0, none⟩ = some (.int .i64 i) := h3.at_ 0))
  refine (HLU.out _ hB).mono ?_
  rintro e w4 ⟨rfl, b4⟩
  replace hB := below_after hB b4
  clear x0 h3 p3
  go_wp2_with fail
  go_ret2
  exact ⟨_, by rw [HC.out]; rfl, by rw [HR.out]; exact OwnI.nil _ _, hB⟩
set_option maxHeartbeats 4000000 in
theorem listMadeT_c (p i j k : Int) (A : Option Addr) (c : Nat) (xs : List Int) (Bu : Option Addr) (cu : Nat) (us : List Int) (Bv : Option Addr) (cv : Nat) (vs : List Int) (w : World) (hX : RdI w A xs) (hxl : xs.length ≤ 1048576) (hU : RdI w Bu us) (hul : us.length ≤ 1048576) (hV : RdI w Bv vs) (hvl : vs.length ≤ 1048576) (ht : tenB p i j k xs = true) (hu : listB p i us = true) (hv : listB p j vs = false) : Calls Try.prog 35 #[.iface 28 (.agg #[.int .i64 p, .int .i64 i, .int .i64 j, .int .i64 k, .slice A xs.length c]), .slice Bu us.length cu, .slice Bv vs.length cv] w (ResI w (votL p i j k xs us vs) (votCode p i j k xs us vs)) := by
  have HV := Lib.hid (tValid_c p i j k A c xs w hX hxl true ht)
  have HLU := Lib.hid (fun w' (hb9 : Below w.heap.size w w') => isList_c Bu cu p i us w' (hU.keep hb9) hul)
  have HLV := Lib.hid (fun w' (hb9 : Below w.heap.size w w') => isList_c Bv cv p j vs w' (hV.keep hb9) hvl)
  rw [hu] at HLU
  rw [hv] at HLV
  have HC : Hid (votCode p i j k xs us vs = 2) := Lib.hid (by unfold votCode; simp [ht, hu, hv])
  have HR : Hid (votL p i j k xs us vs = []) := Lib.hid (by unfold votL; rw [HC.out]; rfl)
  clear ht hu hv hX hU hV
  go_enter Try.func35, Try.ntmps35
  go_wp2_with fail
  refine HV.out.mono ?_
  rintro e w1 ⟨rfl, hB⟩
  go_wp2_with fail
  refine (tModulus_c p i j k _ _).mono ?_
  rintro e w2 ⟨rfl, b2⟩
  replace hB := below_after hB b2
  go_wp2_with fail
  refine (boxOf_c p i j k _ _).mono ?_
  rintro e w3 ⟨rfl, b3⟩
  replace hB := below_after hB b3
  have l3 := hB.size
  go_wp2_with (first | (refine wpList_abs1 ?_; intro W hsz hB2 h0; have z2 : W.heap.size = w3.heap.size + 1 := hsz; replace hB := below_after hB hB2) | (refine wpList_store_all rfl 75 _ _ rfl rfl w3.heap.size rfl _ rfl _ _ h0 3 (by kernel_rfl) rfl rfl (by simp [Value.oneCell']) ?_; intro W3 p3; replace hB := p3.below hB (by omega); have h3 := p3.at_; have x0 : W3.cell? ⟨w3.heap.size, 0, none⟩ = some (.int .i64 i) := h3.at_ 0))
  refine (HLU.out _ hB).mono ?_
  rintro e w4 ⟨rfl, b4⟩
  replace hB := below_after hB b4
  replace h3 := h3.after b4
  have x1 : w4.cell? ⟨w3.heap.size, 1, none⟩ = some (.int .i64 j) := h3.at_ 1
  clear x0 p3
  go_wp2_with fail
  refine (HLV.out _ hB).mono ?_
  rintro e w5 ⟨rfl, b5⟩
  replace hB := below_after hB b5
  clear x1 h3
  go_wp2_with fail
  go_ret2
  exact ⟨_, by rw [HC.out]; rfl, by rw [HR.out]; exact OwnI.nil _ _, hB⟩
set_option maxHeartbeats 4000000 in
theorem listMadeT_y (p : Int) (n0 n1 n2 : Nat) (A : Option Addr) (c : Nat) (xs : List Int) (Bu : Option Addr) (cu : Nat) (us : List Int) (Bv : Option Addr) (cv : Nat) (vs : List Int) (w : World) (hX : RdI w A xs) (hxl : xs.length ≤ 1048576) (hU : RdI w Bu us) (hul : us.length ≤ 1048576) (hV : RdI w Bv vs) (hvl : vs.length ≤ 1048576) (ht : tenB p n0 n1 n2 xs = true) (hu : listB p n0 us = true) (hv : listB p n1 vs = true) : Calls Try.prog 35 #[.iface 28 (.agg #[.int .i64 p, .int .i64 n0, .int .i64 n1, .int .i64 n2, .slice A xs.length c]), .slice Bu us.length cu, .slice Bv vs.length cv] w (ResI w (votL p n0 n1 n2 xs us vs) (votCode p n0 n1 n2 xs us vs)) := by
  have HV := Lib.hid (tValid_c p n0 n1 n2 A c xs w hX hxl true ht)
  have HLU := Lib.hid (fun w' (hb9 : Below w.heap.size w w') => isList_c Bu cu p n0 us w' (hU.keep hb9) hul)
  have HLV := Lib.hid (fun w' (hb9 : Below w.heap.size w w') => isList_c Bv cv p n1 vs w' (hV.keep hb9) hvl)
  have HMk := Lib.hid (fun w' (hb9 : Below w.heap.size w w') => tensorMakes_c p n0 n1 n2 A c xs Bu cu us Bv cv vs w' (hX.keep hb9) hxl (hU.keep hb9) hul (hV.keep hb9) hvl ht hu hv)
  rw [hu] at HLU
  rw [hv] at HLV
  have HC : Hid (votCode p n0 n1 n2 xs us vs = 0) := Lib.hid (by unfold votCode; simp [ht, hu, hv])
  have HR : Hid (votL p n0 n1 n2 xs us vs = vtL p n1 n2 xs us vs (n0 * n1)) := Lib.hid (by unfold votL; rw [HC.out]; rfl)
  clear ht hu hv hX hU hV
  go_enter Try.func35, Try.ntmps35
  go_wp2_with fail
  refine HV.out.mono ?_
  rintro e w1 ⟨rfl, hB⟩
  go_wp2_with fail
  refine (tModulus_c p n0 n1 n2 _ _).mono ?_
  rintro e w2 ⟨rfl, b2⟩
  replace hB := below_after hB b2
  go_wp2_with fail
  refine (boxOf_c p n0 n1 n2 _ _).mono ?_
  rintro e w3 ⟨rfl, b3⟩
  replace hB := below_after hB b3
  have l3 := hB.size
  go_wp2_with (first | (refine wpList_abs1 ?_; intro W hsz hB2 h0; have z2 : W.heap.size = w3.heap.size + 1 := hsz; replace hB := below_after hB hB2) | (refine wpList_store_all rfl 75 _ _ rfl rfl w3.heap.size rfl _ rfl _ _ h0 3 (by kernel_rfl) rfl rfl (by simp [Value.oneCell']) ?_; intro W3 p3; replace hB := p3.below hB (by omega); have h3 := p3.at_; have x0 : W3.cell? ⟨w3.heap.size, 0, none⟩ = some (.int .i64 n0) := h3.at_ 0))
  refine (HLU.out _ hB).mono ?_
  rintro e w4 ⟨rfl, b4⟩
  replace hB := below_after hB b4
  replace h3 := h3.after b4
  have x1 : w4.cell? ⟨w3.heap.size, 1, none⟩ = some (.int .i64 n1) := h3.at_ 1
  clear x0 p3
  go_wp2_with fail
  refine (HLV.out _ hB).mono ?_
  rintro e w5 ⟨rfl, b5⟩
  replace hB := below_after hB b5
  have l5 := hB.size
  clear x1 h3
  go_wp2_with fail
  refine (HMk.out _ hB).mono ?_
  rintro e w6 ⟨v6, rfl, ho, b6⟩
  replace hB := below_after hB b6
  go_wp2_with fail
  go_ret2
  exact ⟨_, by rw [HC.out]; rfl, by rw [HR.out]; exact ho.mono (by omega), hB⟩
theorem listMadeT_all (p i j k : Int) (A : Option Addr) (c : Nat) (xs : List Int) (Bu : Option Addr) (cu : Nat) (us : List Int) (Bv : Option Addr) (cv : Nat) (vs : List Int) (w : World) (hX : RdI w A xs) (hxl : xs.length ≤ 1048576) (hU : RdI w Bu us) (hul : us.length ≤ 1048576) (hV : RdI w Bv vs) (hvl : vs.length ≤ 1048576) : Calls Try.prog 35 #[.iface 28 (.agg #[.int .i64 p, .int .i64 i, .int .i64 j, .int .i64 k, .slice A xs.length c]), .slice Bu us.length cu, .slice Bv vs.length cv] w (ResI w (votL p i j k xs us vs) (votCode p i j k xs us vs)) := by
  cases ht : tenB p i j k xs with
  | false => exact listMadeT_a p i j k A c xs Bu cu us Bv cv vs w hX hxl hU hul hV hvl ht
  | true =>
    cases hu : listB p i us with
    | false => exact listMadeT_b p i j k A c xs Bu cu us Bv cv vs w hX hxl hU hul hV hvl ht hu
    | true =>
      cases hv : listB p j vs with
      | false => exact listMadeT_c p i j k A c xs Bu cu us Bv cv vs w hX hxl hU hul hV hvl ht hu hv
      | true =>
        obtain ⟨h1, h2, h3, h4, _⟩ := tenB_parts ht
        have s2 := sideB_in h2
        have s3 := sideB_in h3
        have s4 := sideB_in h4
        obtain ⟨n0, rfl⟩ := Int.eq_ofNat_of_zero_le (show 0 ≤ i by omega)
        obtain ⟨n1, rfl⟩ := Int.eq_ofNat_of_zero_le (show 0 ≤ j by omega)
        obtain ⟨n2, rfl⟩ := Int.eq_ofNat_of_zero_le (show 0 ≤ k by omega)
        exact listMadeT_y p n0 n1 n2 A c xs Bu cu us Bv cv vs w hX hxl hU hul hV hvl ht hu hv
set_option maxHeartbeats 4000000 in
theorem implValueOfTensor_c (p i j k : Int) (A : Option Addr) (c : Nat) (xs : List Int) (Bu : Option Addr) (cu : Nat) (us : List Int) (Bv : Option Addr) (cv : Nat) (vs : List Int) (w : World) (hX : RdI w A xs) (hxl : xs.length ≤ 1048576) (hU : RdI w Bu us) (hul : us.length ≤ 1048576) (hV : RdI w Bv vs) (hvl : vs.length ≤ 1048576) : Calls Try.prog 24 #[.agg #[.int .i64 p, .int .i64 i, .int .i64 j, .int .i64 k, .slice A xs.length c], .slice Bu us.length cu, .slice Bv vs.length cv] w (ResI w (votL p i j k xs us vs) (votCode p i j k xs us vs)) := by
  have HL := Lib.hid (fun w' (hb9 : Below w.heap.size w w') => listMadeT_all p i j k A c xs Bu cu us Bv cv vs w' (hX.keep hb9) hxl (hU.keep hb9) hul (hV.keep hb9) hvl)
  clear hX hU hV
  go_enter Try.func24, Try.ntmps24
  go_wp2_with (first | (refine wpList_abs1 ?_; intro W hsz hB h0) | (refine wpList_load_all rfl 28 _ rfl w.heap.size rfl _ _ _ h0 Try.underlying28 rfl 5 (by kernel_rfl) rfl ?_))
  refine (HL.out _ hB).mono ?_
  have l0 := hB.size
  rintro e w1 ⟨v, rfl, ho, b1⟩
  replace hB := below_after hB b1
  go_wp2_with fail
  go_ret2
  exact ⟨_, rfl, ho.mono l0, hB⟩
end Go.Proofs.Ytbahcbmmkbokgaa
