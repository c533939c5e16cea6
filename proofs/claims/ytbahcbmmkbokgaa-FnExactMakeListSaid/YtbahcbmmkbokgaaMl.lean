/-
  MakeList of both sides. (Made by mkml.py.)
-/
import Derived.Test.YtbahcbmmkbokgaaL9t
import Derived.Test.YtbahcbmmkbokgaaCiM
import Derived.Handy
namespace Go.Proofs.Ytbahcbmmkbokgaa
open Go.RowKit
set_option maxRecDepth 100000
attribute [local irreducible] wpList
theorem inB_sp (x p : Int) : inB x p = (decide (0 ≤ x) && decide (x ≤ p - 1)) := by
  rw [Bool.eq_iff_iff]
  simp only [inB, Bool.and_eq_true, decide_eq_true_eq]
  omega
set_option maxHeartbeats 4000000 in
theorem l05Numbers_c (p n : Int) (Ax : Option Addr) (cx : Nat) (xs : List Int) (w : World) (hp : -1000 ≤ p ∧ p ≤ 1000) (hx : RdI w Ax xs) (hnx : xs.length ≤ 1048576) :
    Calls Try.prog 33 #[.int .i64 p, .slice Ax xs.length cx, .int .i64 n] w (fun e w' => e = .returned (.bool (numsB p xs && ((xs.length : Int) == n))) ∧ Below w.heap.size w w') := by
  have hB := Below.refl w.heap.size w
  skip
  go_enter Try.func33, Try.ntmps33
  go_upto_region 0 with (fail)
  refine wp_region_lit ?_
  refine ls_ex (some 6) (.bool false) rfl rfl (exec_assign _ rfl (.bool false) rfl) ?_
  go_frame
  refine wpList_nil ?_
  go_upto_region 1 with (fail)
  refine wp_region_lit ?_
  refine ls_ex (some 7) (.int .i64 0) rfl rfl (exec_assign _ rfl (.int .i64 0) rfl) ?_
  go_frame
  refine wpList_nil ?_
  go_wp2_with fail
  go_loopw [7] (fun s7 wr => ∃ i : Nat, i ≤ xs.length ∧ s7 = .int .i64 i ∧ Below w.heap.size w wr ∧ Hid (∀ (y : Nat) (hy : y < xs.length), y < i → inB xs[y] p = true)) (fun s7 _ => xs.length - (intOf s7).toNat)
  case atStart => exact ⟨0, by omega, rfl, hB, Lib.hid (by omega)⟩
  case round =>
    clear hB
    obtain ⟨i, hi, rfl, hB, HA⟩ := hrel
    by_cases hlt : i < xs.length
    · obtain ⟨b, off, rfl, hc⟩ := (hx.keep hB).at_ hlt
      have Hc := Lib.hid hc
      clear hc
      cases hb : inB xs[i] p with
      | false =>
        have HNo : Hid (numsB p xs = false) := Lib.hid (numsB_no hlt hb)
        have HIn : Hid ((decide (0 ≤ xs[i]) && decide (xs[i] ≤ p - 1)) = false) := Lib.hid (by rw [← inB_sp]; exact hb)
        clear hb
        go_upto_region 2 with (fail)
        refine wp_region_lit ?_
        refine ls_ex (some 8) (.int .i64 i) rfl rfl (exec_move _ rfl (.int .i64 i) rfl) ?_
        go_frame
        refine ls_ex (some 9) (.slice (some ⟨b, off, none⟩) xs.length cx) rfl rfl (exec_move _ rfl (.slice (some ⟨b, off, none⟩) xs.length cx) rfl) ?_
        go_frame
        refine ls_ex (some 10) (.int .i64 xs.length) rfl rfl (exec_len _ 26 2 rfl ((some ⟨b, off, none⟩)) xs.length cx rfl Try.underlying26) ?_
        go_frame
        refine ls_ex (some 11) (.bool true) rfl rfl (exec_lss _ _ _ _ rfl i xs.length rfl rfl true (decide_eq_true (by omega))) ?_
        go_frame
        refine wpList_nil ?_
        go_upto_region 4 with (fail)
        refine wp_region_lit ?_
        refine ls_ex (some 14) (.slice (some ⟨b, off, none⟩) xs.length cx) rfl rfl (exec_move _ rfl (.slice (some ⟨b, off, none⟩) xs.length cx) rfl) ?_
        go_frame
        refine ls_ex (some 15) (.int .i64 i) rfl rfl (exec_move _ rfl (.int .i64 i) rfl) ?_
        go_frame
        refine ls_ex (some 16) (.pointer (some ⟨b, off + i * 1, none⟩)) rfl rfl (exec_index_slice _ 2 _ _ rfl b off xs.length cx i 1 rfl rfl Try.underlying26 (by kernel_rfl) (by omega)) ?_
        go_frame
        refine ls_ex (some 17) (.int .i64 xs[i]) rfl rfl (exec_load_one 2 _ rfl b (off + i * 1) rfl (.int .i64 xs[i]) _ Try.underlying2 rfl (by rw [Nat.mul_one]; exact Hc.out)) ?_
        go_frame
        refine ls_ex (some 18) (.int .i64 p) rfl rfl (exec_move _ rfl (.int .i64 p) rfl) ?_
        go_frame
        refine ls_ex (some 19) (.int .i64 (p - 1)) rfl rfl (exec_sub _ _ _ _ rfl p 1 (p - 1) rfl rfl (IntWalk.i64_in _ (by omega))) ?_
        go_frame
        refine ls_op rfl (fun K' hK' => ?_)
        have lz3 := hB.size
        refine wp_call3 (some 20) rfl 40 _ _ _ _ rfl (fun args w => by kernel_rfl) _ _ _ rfl rfl rfl _ (l01In_c xs[i] 0 (p - 1) _) (fun e Wz1 h => ?_)
        obtain ⟨rfl, rfl⟩ := h
        rw [HIn.out]
        refine ⟨_, rfl, ?_⟩
        refine hK' _ _ ?_
        clear hK' K'
        go_frame
        refine ls_ex (some 21) (.bool true) rfl rfl (exec_not _ _ rfl false rfl) ?_
        go_frame
        refine wpList_nil ?_
        go_upto_region 5 with (fail)
        refine wp_region_lit ?_
        refine ls_ex (some 6) (.bool false) rfl rfl (exec_assign _ rfl (.bool false) rfl) ?_
        go_frame
        refine wpList_nil ?_
        go_wp2_with fail
        go_ret
        exact ⟨by rw [HNo.out]; rfl, hB⟩
      | true =>
        have HS : Hid (∀ (y : Nat) (hy : y < xs.length), y < i + 1 → inB xs[y] p = true) := Lib.hid (fun y hy hyk => by by_cases e : y = i; subst e; exact hb; exact HA.out y hy (by omega))
        have HIn : Hid ((decide (0 ≤ xs[i]) && decide (xs[i] ≤ p - 1)) = true) := Lib.hid (by rw [← inB_sp]; exact hb)
        clear hb
        go_upto_region 2 with (fail)
        refine wp_region_lit ?_
        refine ls_ex (some 8) (.int .i64 i) rfl rfl (exec_move _ rfl (.int .i64 i) rfl) ?_
        go_frame
        refine ls_ex (some 9) (.slice (some ⟨b, off, none⟩) xs.length cx) rfl rfl (exec_move _ rfl (.slice (some ⟨b, off, none⟩) xs.length cx) rfl) ?_
        go_frame
        refine ls_ex (some 10) (.int .i64 xs.length) rfl rfl (exec_len _ 26 2 rfl ((some ⟨b, off, none⟩)) xs.length cx rfl Try.underlying26) ?_
        go_frame
        refine ls_ex (some 11) (.bool true) rfl rfl (exec_lss _ _ _ _ rfl i xs.length rfl rfl true (decide_eq_true (by omega))) ?_
        go_frame
        refine wpList_nil ?_
        go_upto_region 4 with (fail)
        refine wp_region_lit ?_
        refine ls_ex (some 14) (.slice (some ⟨b, off, none⟩) xs.length cx) rfl rfl (exec_move _ rfl (.slice (some ⟨b, off, none⟩) xs.length cx) rfl) ?_
        go_frame
        refine ls_ex (some 15) (.int .i64 i) rfl rfl (exec_move _ rfl (.int .i64 i) rfl) ?_
        go_frame
        refine ls_ex (some 16) (.pointer (some ⟨b, off + i * 1, none⟩)) rfl rfl (exec_index_slice _ 2 _ _ rfl b off xs.length cx i 1 rfl rfl Try.underlying26 (by kernel_rfl) (by omega)) ?_
        go_frame
        refine ls_ex (some 17) (.int .i64 xs[i]) rfl rfl (exec_load_one 2 _ rfl b (off + i * 1) rfl (.int .i64 xs[i]) _ Try.underlying2 rfl (by rw [Nat.mul_one]; exact Hc.out)) ?_
        go_frame
        refine ls_ex (some 18) (.int .i64 p) rfl rfl (exec_move _ rfl (.int .i64 p) rfl) ?_
        go_frame
        refine ls_ex (some 19) (.int .i64 (p - 1)) rfl rfl (exec_sub _ _ _ _ rfl p 1 (p - 1) rfl rfl (IntWalk.i64_in _ (by omega))) ?_
        go_frame
        refine ls_op rfl (fun K' hK' => ?_)
        have lz6 := hB.size
        refine wp_call3 (some 20) rfl 40 _ _ _ _ rfl (fun args w => by kernel_rfl) _ _ _ rfl rfl rfl _ (l01In_c xs[i] 0 (p - 1) _) (fun e Wz4 h => ?_)
        obtain ⟨rfl, rfl⟩ := h
        rw [HIn.out]
        refine ⟨_, rfl, ?_⟩
        refine hK' _ _ ?_
        clear hK' K'
        go_frame
        refine ls_ex (some 21) (.bool false) rfl rfl (exec_not _ _ rfl true rfl) ?_
        go_frame
        refine wpList_nil ?_
        go_upto_region 3 with (fail)
        refine wp_region_lit ?_
        refine ls_ex (some 12) (.int .i64 i) rfl rfl (exec_move _ rfl (.int .i64 i) rfl) ?_
        go_frame
        refine ls_ex (some 13) (.int .i64 (i + 1)) rfl rfl (exec_add _ _ _ _ rfl i 1 (i + 1) rfl rfl (IntWalk.i64_in _ (by omega))) ?_
        go_frame
        refine ls_ex (some 7) (.int .i64 (i + 1)) rfl rfl (exec_assign _ rfl (.int .i64 (i + 1)) rfl) ?_
        go_frame
        refine wpList_nil ?_
        go_wp2_with fail
        go_roundw
        case rel => exact ⟨i + 1, by omega, by go_num, hB, HS⟩
        case measure => simp [intOf]; omega
    · have HY : Hid (numsB p xs = true) := Lib.hid (numsB_yes fun y hy => HA.out y hy (by omega))
      clear HA
      go_upto_region 2 with (fail)
      refine wp_region_lit ?_
      refine ls_ex (some 8) (.int .i64 i) rfl rfl (exec_move _ rfl (.int .i64 i) rfl) ?_
      go_frame
      refine ls_ex (some 9) (.slice Ax xs.length cx) rfl rfl (exec_move _ rfl (.slice Ax xs.length cx) rfl) ?_
      go_frame
      refine ls_ex (some 10) (.int .i64 xs.length) rfl rfl (exec_len _ 26 2 rfl Ax xs.length cx rfl Try.underlying26) ?_
      go_frame
      refine ls_ex (some 11) (.bool false) rfl rfl (exec_lss _ _ _ _ rfl i xs.length rfl rfl false (decide_eq_false (by omega))) ?_
      go_frame
      refine wpList_nil ?_
      go_upto_region 6 with (fail)
      refine wp_region_lit ?_
      refine ls_ex (some 22) (.slice Ax xs.length cx) rfl rfl (exec_move _ rfl (.slice Ax xs.length cx) rfl) ?_
      go_frame
      refine ls_ex (some 23) (.int .i64 xs.length) rfl rfl (exec_len _ 26 2 rfl Ax xs.length cx rfl Try.underlying26) ?_
      go_frame
      refine ls_ex (some 24) (.int .i64 n) rfl rfl (exec_move _ rfl (.int .i64 n) rfl) ?_
      go_frame
      refine ls_ex (some 25) (.bool ((xs.length : Int) == n)) rfl rfl (exec_eql _ _ _ _ rfl (xs.length : Int) n rfl rfl _ rfl) ?_
      go_frame
      refine ls_ex (some 6) (.bool ((xs.length : Int) == n)) rfl rfl (exec_assign _ rfl (.bool ((xs.length : Int) == n)) rfl) ?_
      go_frame
      refine wpList_nil ?_
      go_wp2_with fail
      go_ret
      exact ⟨by rw [HY.out]; rfl, hB⟩
theorem wp_make_I {o : Oper} {a : Act} {w : World} {K : Act → World → Prop} {Q : Exit → Act → World → Prop} (d : Option Tmp) (hd : o.dst = d) (l c : Operand) (hop : o.op = Op.makeSlice 26 l c)
    (n : Nat) (hl : a.eval l = .int .i64 n) (hc : a.eval c = .int .i64 n) (hb : n ≤ 1000000)
    (h : ∀ w', New w w' (.cells (iar (List.replicate n 0)) 2 (0, 0)) → K (a.put d (.slice (some ⟨w.heap.size, 0, none⟩) n n)) w') : Oper.wp Try.prog o a w K Q := by
  subst hd
  obtain ⟨i, hi0, hz, h1, h2⟩ := info_parts infoI64
  have hr := run_make (P := Try.prog) w 26 2 i _ Try.underlying26 hi0 hz .i64 .i64 n n (by omega) (Int.le_refl _) (by rw [h2]; omega) (by omega)
  have hzc : (Value.int .i64 0).cells = #[Value.int .i64 0] := rfl
  simp only [Int.toNat_natCast, h1, hzc, made_one, iar_zero] at hr
  unfold Oper.wp
  simp [execOp, hop, hl, hc, hr, Result.andThen]
  exact h _ (New.alloc _ _)
theorem exec_buildRowM {o : Oper} {a : Act} {w : World} (x : Operand) (ho : o.op = .buildSlice 123 1 #[(0, x)]) (A1 : Option Addr) (n1 c1 : Nat) (hx : a.eval x = .slice A1 n1 c1) :
    (execOp a.eval o).run Try.prog w = .ok (.value (.slice (some ⟨w.heap.size, 0, none⟩) 1 1)) (w.alloc (.cells #[.slice A1 n1 c1] 26 (0, 0))) := by
  obtain ⟨i, hi0, hz, h1, h2⟩ := info_parts infoIS
  have h := run_buildSlice (P := Try.prog) w 123 26 1 #[(0, .slice A1 n1 c1)] #[.slice A1 n1 c1] i (.slice none 0 0) Try.underlying123 hi0 hz (by rw [h1]; omega) (by rw [h1]; omega) (by rw [h1]; kernel_rfl)
  unfold execOp
  simp [ho, hx, h]

theorem RdI.c1v {w : World} {b off : Nat} {xs : List Int} {X : Int} {i : Nat} (h : RdI w (some ⟨b, off, none⟩) xs) (hi : xs[i]? = some X) : w.cell? ⟨b, off + i * 1, none⟩ = some (.int .i64 X) := by
  have hlt : i < xs.length := by
    rcases Nat.lt_or_ge i xs.length with h9 | h9
    · exact h9
    · rw [List.getElem?_eq_none h9] at hi; cases hi
  obtain ⟨b', off', hA0, hc⟩ := h.at_ hlt
  cases hA0
  rw [List.getElem?_eq_getElem hlt] at hi
  cases hi
  rw [Nat.mul_one]
  exact hc
theorem numsB_at {p : Int} {xs : List Int} {i : Nat} (h : numsB p xs = true) (hi : i < xs.length) : 0 ≤ xs[i] ∧ xs[i] < p := by
  simp only [numsB, List.all_eq_true] at h
  have := h xs[i] (List.getElem_mem hi)
  simpa [inB] using this
theorem m44 {a b : Int} (ha : 0 ≤ a ∧ a ≤ 16) (hb : 0 ≤ b ∧ b ≤ 4) : 0 ≤ a * b ∧ a * b ≤ 64 := by
  have h : b = 0 ∨ b = 1 ∨ b = 2 ∨ b = 3 ∨ b = 4 := by omega
  rcases h with rfl | rfl | rfl | rfl | rfl <;> omega
theorem m4 {a b : Int} (ha : 0 ≤ a ∧ a ≤ 4) (hb : 0 ≤ b ∧ b ≤ 4) : 0 ≤ a * b ∧ a * b ≤ 16 := by
  have h : b = 0 ∨ b = 1 ∨ b = 2 ∨ b = 3 ∨ b = 4 := by omega
  rcases h with rfl | rfl | rfl | rfl | rfl <;> omega

theorem sumF_b {f : List Nat} {us : List Int} {p : Int} (hf : Bytes 9 f) (hu : numsB p us = true) (hp : p ≤ 5) (k : Nat) : 0 ≤ sumF f us k ∧ sumF f us k ≤ k * 1280 := sumF_in hf (fun x hx => by
  simp only [numsB, List.all_eq_true] at hu
  have := hu x hx
  simp [inB] at this
  omega) k
theorem cat1 (us : List Int) : catI (fun _ => us) 1 = us := by simp [catI]
theorem tot1 (us : List Int) : tot (fun _ => us) 1 = us.length := by simp [tot]
theorem RdM.one1 {w : World} {g : Nat} {B : Option Addr} {c : Nat} {us : List Int} (h : At w g (.cells #[.slice B us.length c] 26 (0, 0))) (hu : RdI w B us) : RdM w (some ⟨g, 0, none⟩) 1 (fun _ => us) :=
  .inr ⟨g, 0, rfl, fun i hi => ⟨B, c, by rw [show i = 0 by omega]; exact h.at_ 0, hu⟩⟩
theorem mulB {a b : Int} (A B : Nat) (ha : 0 ≤ a ∧ a ≤ A) (hb : 0 ≤ b ∧ b ≤ B) : 0 ≤ a * b ∧ a * b ≤ (A * B : Nat) := by
  refine ⟨Int.mul_nonneg ha.1 hb.1, ?_⟩
  rw [Int.natCast_mul]
  exact Int.mul_le_mul ha.2 hb.2 hb.1 (by omega)
/-- What a product adds, modulo p. -/
def prS (p : Int) (q : List Nat) (us vs : List Int) : Int := (sumF (segm q 0 9) us us.length * sumF (segm q 9 9) vs vs.length) % p
/-- What a method makes, place by place, behind so many products. -/
def mlN (p : Int) (us vs : List Int) (qs : List (List Nat)) : Nat → Nat → Int
  | 0, _ => 0
  | t + 1, k => (mlN p us vs qs t k + (((qs[t]?.getD [])[18 + k]?.getD 0 : Nat) : Int) * prS p (qs[t]?.getD []) us vs) % p
def mlL (p : Int) (n2 : Nat) (us vs : List Int) (qs : List (List Nat)) (t : Nat) : List Int := (List.range n2).map (mlN p us vs qs t)
theorem mlL_len (p : Int) (n2 : Nat) (us vs : List Int) (qs : List (List Nat)) (t : Nat) : (mlL p n2 us vs qs t).length = n2 := by simp [mlL]
theorem mlL_get (p : Int) (n2 : Nat) (us vs : List Int) (qs : List (List Nat)) (t : Nat) {k : Nat} (h : k < n2) : (mlL p n2 us vs qs t)[k]? = some (mlN p us vs qs t k) := by simp [mlL, h]
theorem mlL_zero (p : Int) (n2 : Nat) (us vs : List Int) (qs : List (List Nat)) : mlL p n2 us vs qs 0 = List.replicate n2 0 := by
  apply List.ext_getElem
  · simp [mlL]
  · intro t h1 h2
    simp [mlL, mlN]
theorem mlN_b {p : Int} (hp : 2 ≤ p ∧ p ≤ 5) (us vs : List Int) (qs : List (List Nat)) (t k : Nat) : 0 ≤ mlN p us vs qs t k ∧ mlN p us vs qs t k ≤ 4 := by
  cases t with
  | zero => simp [mlN]
  | succ t =>
    simp only [mlN]
    have h1 := Int.emod_nonneg (mlN p us vs qs t k + (((qs[t]?.getD [])[18 + k]?.getD 0 : Nat) : Int) * prS p (qs[t]?.getD []) us vs) (show p ≠ 0 by omega)
    have h2 := Int.emod_lt_of_pos (mlN p us vs qs t k + (((qs[t]?.getD [])[18 + k]?.getD 0 : Nat) : Int) * prS p (qs[t]?.getD []) us vs) (show 0 < p by omega)
    omega
theorem mlN_step {p : Int} {us vs : List Int} {qs : List (List Nat)} {t k C1 : Nat} (ht : t < qs.length) (hC : qs[t][18 + k]?.getD 0 = C1) : mlN p us vs qs (t + 1) k = (mlN p us vs qs t k + (C1 : Int) * prS p qs[t] us vs) % p := by
  simp only [mlN]
  rw [List.getElem?_eq_getElem ht]
  simp only [Option.getD_some]
  rw [hC]
theorem ml_mod (a c s p : Int) : (a + c * (s % p)) % p = (a + c * s) % p := by
  rw [Int.add_emod, Int.mul_emod c (s % p), Int.emod_emod, ← Int.mul_emod, ← Int.add_emod]
def mkCode (p i j k : Int) (qs : List (List Nat)) (us vs : List Int) : Int := if methB p i j k qs = true then (if (listB p i us && listB p j vs) = true then 0 else 2) else 1
def mkL (p i j k : Int) (qs : List (List Nat)) (us vs : List Int) : List Int := if mkCode p i j k qs us vs = 0 then mlL p k.toNat us vs qs qs.length else []
theorem mk_len {p i j k : Int} {qs : List (List Nat)} {us vs : List Int} : (mkL p i j k qs us vs).length ≤ 1048576 := by
  unfold mkL
  split
  · next h =>
    unfold mkCode at h
    split at h
    · next h2 =>
      have h3 := (methB_parts h2).2.2.2.1
      simp only [sideB, Bool.and_eq_true, decide_eq_true_eq] at h3
      rw [mlL_len]; omega
    · omega
  · simp
theorem listB_sw (p n : Int) (xs : List Int) : (numsB p xs && ((xs.length : Int) == n)) = listB p n xs := by
  unfold listB
  rw [Bool.and_comm]
  rfl
theorem cut_world3 {n : Nat} {w W : World} (_ : Below n w W) : ∃ x : World, x = W := ⟨W, rfl⟩
set_option maxHeartbeats 12800000 in
theorem l09At_c (f : List Nat) (Bu : Option Addr) (cu : Nat) (us : List Int) (p : Int) (w : World) (hf : Bytes 9 f) (hU : RdI w Bu us) (hn : numsB p us = true) (hp5 : 2 ≤ p ∧ p ≤ 5) (hl9 : us.length ≤ 9) :
    Calls Try.prog 34 #[.agg (u8s f), .slice Bu us.length cu] w (fun e w' => e = .returned (.int .i64 (sumF f us us.length)) ∧ Below w.heap.size w w') := by
  have hB := Below.refl w.heap.size w
  have Hf9 := Lib.hid hf.len
  go_enter Try.func34, Try.ntmps34
  go_upto_region 0 with (fail)
  refine wp_region_lit ?_
  refine ls_op rfl (fun K' hK' => ?_)
  have lz1 := hB.size
  refine wp_new (some 2) rfl (exec_box 59 _ rfl (u8s (f)) rfl) (fun Wz2 nnz3 => ?_)
  have bz4 := nnz3.below (Below.refl _ _) (Nat.le_refl _)
  replace hB := below_after hB bz4
  have hz5 : At Wz2 w.heap.size (.cells (u8s (f)) 59 (0, 0)) := nnz3.at_
  refine hK' _ _ ?_
  clear hK' K' nnz3 bz4
  go_frame
  refine ls_ex (some 4) (.int .i64 0) rfl rfl (exec_assign _ rfl (.int .i64 0) rfl) ?_
  go_frame
  refine wpList_nil ?_
  go_upto_region 1 with (fail)
  refine wp_region_lit ?_
  refine ls_ex (some 5) (.int .i64 0) rfl rfl (exec_assign _ rfl (.int .i64 0) rfl) ?_
  go_frame
  refine wpList_nil ?_
  go_upto_region 2 with (fail)
  refine wp_region_lit ?_
  refine ls_ex (some 6) (.int .i64 0) rfl rfl (exec_assign _ rfl (.int .i64 0) rfl) ?_
  go_frame
  refine wpList_nil ?_
  go_wp2_with fail
  go_loopw [5, 6] (fun s5 s6 wr => ∃ a : Nat, a ≤ us.length ∧ s6 = .int .i64 a ∧ s5 = .int .i64 (sumF f us a) ∧ Below w.heap.size w wr ∧ At wr w.heap.size (.cells (u8s (f)) 59 (0, 0))) (fun _ s6 _ => us.length - (intOf s6).toNat)
  case atStart => exact ⟨0, by omega, rfl, rfl, hB, hz5⟩
  case round =>
    clear hB hz5
    obtain ⟨a, ha, rfl, rfl, hB, h0⟩ := hrel
    by_cases hlt : a < us.length
    · obtain ⟨bu, ou, rfl, hc1⟩ := (hU.keep hB).at_ hlt
      clear hc1
      obtain ⟨U, hU9⟩ : ∃ U, us[a]? = some U := ⟨us[a], List.getElem?_eq_getElem hlt⟩
      have hUb : 0 ≤ U ∧ U ≤ 4 := by rw [List.getElem?_eq_getElem hlt] at hU9; cases hU9; have := numsB_at hn hlt; omega
      have hFb := sumF_b hf hn hp5.2 a
      have hf256 := hf.lt a
      have hstep : sumF f us (a + 1) = sumF f us a + ((f[a]?.getD 0 : Nat) : Int) * U := by simp only [sumF]; rw [hU9]; rfl
      obtain ⟨F1, hF1⟩ : ∃ n : Nat, f[a]?.getD 0 = n := ⟨_, rfl⟩
      rw [hF1] at hstep hf256
      have HF1 : Hid (f[0 + a]?.getD 0 = F1) := Lib.hid (by rw [Nat.zero_add]; exact hF1)
      obtain ⟨S0, hS0⟩ : ∃ s : Int, sumF f us a = s := ⟨_, rfl⟩
      rw [hS0] at hstep hFb
      obtain ⟨FU, hFU⟩ : ∃ s : Int, (F1 : Int) * U = s := ⟨_, rfl⟩
      have hFUb := mulB 255 4 (a := (F1 : Int)) (b := U) ⟨by omega, by omega⟩ ⟨hUb.1, by omega⟩
      rw [hFU] at hFUb hstep
      have HFU : Hid (IntKind.i64.wrap ((F1 : Int) * U) = FU) := Lib.hid (by rw [hFU]; exact IntWalk.i64_in _ (by omega))
      have HUg := Lib.hid hU9
      have HSt := Lib.hid hstep
      have HS0 := Lib.hid hS0
      have ha9 : a < 9 := by omega
      clear hU9 hF1 hstep hFU hS0
      rw [HS0.out]
      go_upto_region 3 with (fail)
      refine wp_region_lit ?_
      refine ls_ex (some 7) (.int .i64 a) rfl rfl (exec_move _ rfl (.int .i64 a) rfl) ?_
      go_frame
      refine ls_ex (some 8) (.slice (some ⟨bu, ou, none⟩) us.length cu) rfl rfl (exec_move _ rfl (.slice (some ⟨bu, ou, none⟩) us.length cu) rfl) ?_
      go_frame
      refine ls_ex (some 9) (.int .i64 us.length) rfl rfl (exec_len _ 26 2 rfl ((some ⟨bu, ou, none⟩)) us.length cu rfl Try.underlying26) ?_
      go_frame
      refine ls_ex (some 10) (.bool true) rfl rfl (exec_lss _ _ _ _ rfl a us.length rfl rfl true (decide_eq_true (by omega))) ?_
      go_frame
      refine wpList_nil ?_
      go_upto_region 5 with (fail)
      refine wp_region_y (zs := []) (S := fun w' => Below w.heap.size w w' ∧ At w' w.heap.size (.cells (u8s (f)) 59 (0, 0))) (S2 := fun w' => True) (by kernel_rfl) ?_
      change wpAnyY _ _ _ _ _ _ _ _ _ _ (World.drew _)
      generalize hwdz6 : World.drew _ = wdz6
      replace hB : Below w.heap.size w wdz6 := by rw [← hwdz6]; exact hB.drew
      replace h0 : At wdz6 w.heap.size (.cells (u8s (f)) 59 (0, 0)) := by rw [← hwdz6]; exact h0
      clear hwdz6
      refine y_yield 0 (some 13) (.int .i64 S0) rfl (by kernel_rfl) (by kernel_rfl) (by kernel_rfl) (fun _ _ _ h => h) rfl rfl ⟨hB, h0⟩ (fun w' h' => exec_move _ rfl (.int .i64 S0) rfl) ?_
      go_frame
      refine y_yield 1 (some 14) (.int .i64 a) rfl (by kernel_rfl) (by kernel_rfl) (by kernel_rfl) (fun _ _ _ h => h) rfl rfl ⟨hB, h0⟩ (fun w' h' => exec_move _ rfl (.int .i64 a) rfl) ?_
      go_frame
      refine y_yield 2 (some 15) (.pointer (some ⟨w.heap.size, 0 + a * 1, none⟩)) rfl (by kernel_rfl) (by kernel_rfl) (by kernel_rfl) (fun _ _ _ h => h) rfl rfl ⟨hB, h0⟩ (fun w' h' => exec_index_arr 59 5 _ _ rfl w.heap.size 0 9 a 1 rfl rfl Try.underlying59 (by kernel_rfl) ha9) ?_
      go_frame
      refine y_yield 3 (some 16) (.int .u8 F1) rfl (by kernel_rfl) (by kernel_rfl) (by kernel_rfl) (fun _ _ _ h => h) rfl rfl ⟨hB, h0⟩ (fun w' h' => exec_load_one 5 _ rfl w.heap.size (0 + a * 1) rfl (.int .u8 F1) _ Try.underlying5 rfl (cell_u8 h'.2 (by rw [Hf9.out]; omega) HF1.out)) ?_
      go_frame
      refine y_yield 4 (some 17) (.int .i64 F1) rfl (by kernel_rfl) (by kernel_rfl) (by kernel_rfl) (fun _ _ _ h => h) rfl rfl ⟨hB, h0⟩ (fun w' h' => exec_conv _ rfl F1 rfl hf256) ?_
      go_frame
      refine y_yield 5 (some 18) (.slice (some ⟨bu, ou, none⟩) us.length cu) rfl (by kernel_rfl) (by kernel_rfl) (by kernel_rfl) (fun _ _ _ h => h) rfl rfl ⟨hB, h0⟩ (fun w' h' => exec_move _ rfl (.slice (some ⟨bu, ou, none⟩) us.length cu) rfl) ?_
      go_frame
      refine y_yield 6 (some 19) (.int .i64 a) rfl (by kernel_rfl) (by kernel_rfl) (by kernel_rfl) (fun _ _ _ h => h) rfl rfl ⟨hB, h0⟩ (fun w' h' => exec_move _ rfl (.int .i64 a) rfl) ?_
      go_frame
      refine y_yield 7 (some 20) (.pointer (some ⟨bu, ou + a * 1, none⟩)) rfl (by kernel_rfl) (by kernel_rfl) (by kernel_rfl) (fun _ _ _ h => h) rfl rfl ⟨hB, h0⟩ (fun w' h' => exec_index_slice _ 2 _ _ rfl bu ou us.length cu a 1 rfl rfl Try.underlying26 (by kernel_rfl) hlt) ?_
      go_frame
      refine y_yield 8 (some 21) (.int .i64 U) rfl (by kernel_rfl) (by kernel_rfl) (by kernel_rfl) (fun _ _ _ h => h) rfl rfl ⟨hB, h0⟩ (fun w' h' => exec_load_one 2 _ rfl bu (ou + a * 1) rfl (.int .i64 U) _ Try.underlying2 rfl (RdI.c1v (hU.keep h'.1) HUg.out)) ?_
      go_frame
      refine y_yield 9 (some 22) (.int .i64 FU) rfl (by kernel_rfl) (by kernel_rfl) (by kernel_rfl) (fun _ _ _ h => h) rfl rfl ⟨hB, h0⟩ (fun w' h' => exec_mul _ _ _ _ rfl F1 U FU rfl rfl HFU.out) ?_
      go_frame
      refine y_yield 10 (some 23) (.int .i64 (S0 + FU)) rfl (by kernel_rfl) (by kernel_rfl) (by kernel_rfl) (fun _ _ _ h => h) rfl rfl ⟨hB, h0⟩ (fun w' h' => exec_add _ _ _ _ rfl S0 FU (S0 + FU) rfl rfl (IntWalk.i64_in _ (by omega))) ?_
      go_frame
      refine y_oper 11 (by kernel_rfl) rfl rfl (fun K' hK' => ?_)
      refine wp_exec (some 5) rfl (.int .i64 (S0 + FU)) (exec_assign _ rfl (.int .i64 (S0 + FU)) rfl) ?_
      refine hK' _ _ ⟨hB, h0⟩ (fun _ => trivial) ?_
      clear hK' K'
      go_frame
      refine y_done (by kernel_rfl) ?_ _
      go_upto_region 4 with (fail)
      refine wp_region_lit ?_
      refine ls_ex (some 11) (.int .i64 a) rfl rfl (exec_move _ rfl (.int .i64 a) rfl) ?_
      go_frame
      refine ls_ex (some 12) (.int .i64 (a + 1)) rfl rfl (exec_add _ _ _ _ rfl a 1 (a + 1) rfl rfl (IntWalk.i64_in _ (by omega))) ?_
      go_frame
      refine ls_ex (some 6) (.int .i64 (a + 1)) rfl rfl (exec_assign _ rfl (.int .i64 (a + 1)) rfl) ?_
      go_frame
      refine wpList_nil ?_
      go_wp2_with fail
      go_roundw
      case rel => exact ⟨a + 1, by omega, by go_num, by rw [HSt.out], hB, h0⟩
      case measure => simp [intOf]; omega
    · have HE : Hid (sumF f us us.length = sumF f us a) := Lib.hid (by rw [show a = us.length by omega])
      go_upto_region 3 with (fail)
      refine wp_region_lit ?_
      refine ls_ex (some 7) (.int .i64 a) rfl rfl (exec_move _ rfl (.int .i64 a) rfl) ?_
      go_frame
      refine ls_ex (some 8) (.slice Bu us.length cu) rfl rfl (exec_move _ rfl (.slice Bu us.length cu) rfl) ?_
      go_frame
      refine ls_ex (some 9) (.int .i64 us.length) rfl rfl (exec_len _ 26 2 rfl Bu us.length cu rfl Try.underlying26) ?_
      go_frame
      refine ls_ex (some 10) (.bool false) rfl rfl (exec_lss _ _ _ _ rfl a us.length rfl rfl false (decide_eq_false (by omega))) ?_
      go_frame
      refine wpList_nil ?_
      go_upto_region 6 with (fail)
      refine wp_region_lit ?_
      refine ls_ex (some 24) (.int .i64 (sumF f us a)) rfl rfl (exec_move _ rfl (.int .i64 (sumF f us a)) rfl) ?_
      go_frame
      refine ls_ex (some 4) (.int .i64 (sumF f us a)) rfl rfl (exec_assign _ rfl (.int .i64 (sumF f us a)) rfl) ?_
      go_frame
      refine wpList_nil ?_
      go_wp2_with fail
      go_ret
      exact ⟨by rw [HE.out]; rfl, hB⟩
theorem sumOf1_c (f : List Nat) (g : Nat) (Bu : Option Addr) (cu : Nat) (us : List Int) (p : Int) (w : World) (hf : Bytes 9 f) (h : At w g (.cells #[.slice Bu us.length cu] 26 (0, 0))) (hU : RdI w Bu us) (hn : numsB p us = true) (hp5 : 2 ≤ p ∧ p ≤ 5) (hl9 : us.length ≤ 9) (hl1 : 0 < us.length) :
    Calls Try.prog 96 #[.agg (u8s f), .slice (some ⟨g, 0, none⟩) 1 1] w fun e w' => e = .returned (.int .i64 (sumF f us us.length)) ∧ Below w.heap.size w w' := by
  have h9 := sumOfForm_c f (some ⟨g, 0, none⟩) 1 1 (fun _ => us) w hf (RdM.one1 h hU) (fun _ _ => hl1) (by omega) (by rw [tot1]; exact hl9) (fun _ _ x hx => by
    simp only [numsB, List.all_eq_true] at hn
    have := hn x hx
    simp [inB] at this
    omega)
  rw [cat1, tot1] at h9
  exact h9
set_option maxHeartbeats 4000000 in
theorem specMkl_a (p i j k : Int) (A : Option Addr) (c : Nat) (qs : List (List Nat)) (Bu : Option Addr) (cu : Nat) (us : List Int) (Bv : Option Addr) (cv : Nat) (vs : List Int) (w : World) (hR : Rd w A qs) (hlen : qs.length ≤ 1048576) (hU : RdI w Bu us) (hul : us.length ≤ 1048576) (hV : RdI w Bv vs) (hvl : vs.length ≤ 1048576) (hs : methB p i j k qs = false) :
    Calls Try.prog 15 #[.agg #[.int .i64 p, .int .i64 i, .int .i64 j, .int .i64 k, .slice A qs.length c], .slice Bu us.length cu, .slice Bv vs.length cv] w (ResI w (mkL p i j k qs us vs) (mkCode p i j k qs us vs)) := by
  have hB := Below.refl w.heap.size w
  have _u0 := hU
  have _u1 := hul
  have _u2 := hV
  have _u3 := hvl
  clear _u0 _u1 _u2 _u3
  have HC : Hid (mkCode p i j k qs us vs = 1) := Lib.hid (by unfold mkCode; simp [hs])
  have HR : Hid (mkL p i j k qs us vs = []) := Lib.hid (by unfold mkL; rw [HC.out]; rfl)
  have Hs := Lib.hid hs
  clear hs
  go_enter Try.func15, Try.ntmps15
  go_upto_region 0 with (fail)
  refine wp_region_lit ?_
  refine ls_op rfl (fun K' hK' => ?_)
  have lz1 := hB.size
  refine wp_new (some 3) rfl (exec_box 33 _ rfl (#[.int .i64 p, .int .i64 i, .int .i64 j, .int .i64 k, .slice A qs.length c]) rfl) (fun Wz2 nnz3 => ?_)
  have bz4 := nnz3.below (Below.refl _ _) (Nat.le_refl _)
  replace hB := below_after hB bz4
  have hz5 : At Wz2 w.heap.size (.cells #[.int .i64 p, .int .i64 i, .int .i64 j, .int .i64 k, .slice A qs.length c] 33 (0, 0)) := nnz3.at_
  refine hK' _ _ ?_
  clear hK' K' nnz3 bz4
  go_frame
  refine ls_ex (some 6) (.slice none 0 0) rfl rfl (exec_assign _ rfl (.slice none 0 0) rfl) ?_
  go_frame
  refine ls_ex (some 7) (.int .i64 0) rfl rfl (exec_assign _ rfl (.int .i64 0) rfl) ?_
  go_frame
  refine wpList_nil ?_
  go_upto_region 1 with (fail)
  refine wp_region_lit ?_
  refine ls_ex (some 14) (.agg #[.int .i64 p, .int .i64 i, .int .i64 j, .int .i64 k, .slice A qs.length c]) rfl rfl (exec_load_all 33 _ rfl w.heap.size rfl _ _ _ hz5 Try.underlying33 rfl 5 (by kernel_rfl) rfl) ?_
  go_frame
  refine ls_op rfl (fun K' hK' => ?_)
  have lz8 := hB.size
  have lz9 := hz5.lt
  refine wp_call1 (some 15) rfl 26 _ _ rfl (fun args w => by kernel_rfl) _ rfl _ (l09Is_c p i j k A c qs _ (hR.keep hB) hlen) (fun e Wz6 h => ?_)
  obtain ⟨rfl, bz7⟩ := h
  replace hB := below_after hB bz7
  replace hz5 := hz5.after bz7
  rw [Hs.out]
  clear bz7
  refine ⟨_, rfl, ?_⟩
  refine hK' _ _ ?_
  clear hK' K'
  go_frame
  refine ls_ex (some 16) (.bool true) rfl rfl (exec_not _ _ rfl false rfl) ?_
  go_frame
  refine ls_ex (some 13) (.bool true) rfl rfl (exec_assign _ rfl (.bool true) rfl) ?_
  go_frame
  refine wpList_nil ?_
  go_upto_region 2 with (fail)
  refine wp_region_lit ?_
  refine ls_ex (some 6) (.slice none 0 0) rfl rfl (exec_assign _ rfl (.slice none 0 0) rfl) ?_
  go_frame
  refine ls_ex (some 7) (.int .i64 1) rfl rfl (exec_assign _ rfl (.int .i64 1) rfl) ?_
  go_frame
  refine wpList_nil ?_
  go_wp2_with fail
  go_ret2
  exact ⟨_, by rw [HC.out]; rfl, by rw [HR.out]; exact OwnI.nil _ _, hB⟩
set_option maxHeartbeats 4000000 in
theorem specMkl_b (p i j k : Int) (A : Option Addr) (c : Nat) (qs : List (List Nat)) (Bu : Option Addr) (cu : Nat) (us : List Int) (Bv : Option Addr) (cv : Nat) (vs : List Int) (w : World) (hR : Rd w A qs) (hlen : qs.length ≤ 1048576) (hU : RdI w Bu us) (hul : us.length ≤ 1048576) (hV : RdI w Bv vs) (hvl : vs.length ≤ 1048576) (hs : methB p i j k qs = true) (hu : listB p i us = false) :
    Calls Try.prog 15 #[.agg #[.int .i64 p, .int .i64 i, .int .i64 j, .int .i64 k, .slice A qs.length c], .slice Bu us.length cu, .slice Bv vs.length cv] w (ResI w (mkL p i j k qs us vs) (mkCode p i j k qs us vs)) := by
  have hB := Below.refl w.heap.size w
  have _u0 := hV
  have _u1 := hvl
  clear _u0 _u1
  have HC : Hid (mkCode p i j k qs us vs = 2) := Lib.hid (by unfold mkCode; simp [hs, hu])
  have HR : Hid (mkL p i j k qs us vs = []) := Lib.hid (by unfold mkL; rw [HC.out]; rfl)
  have hp5 := prime_le5 (methB_parts hs).1
  have Hs := Lib.hid hs
  have HLU := Lib.hid hu
  clear hs hu
  go_enter Try.func15, Try.ntmps15
  go_upto_region 0 with (fail)
  refine wp_region_lit ?_
  refine ls_op rfl (fun K' hK' => ?_)
  have lz1 := hB.size
  refine wp_new (some 3) rfl (exec_box 33 _ rfl (#[.int .i64 p, .int .i64 i, .int .i64 j, .int .i64 k, .slice A qs.length c]) rfl) (fun Wz2 nnz3 => ?_)
  have bz4 := nnz3.below (Below.refl _ _) (Nat.le_refl _)
  replace hB := below_after hB bz4
  have hz5 : At Wz2 w.heap.size (.cells #[.int .i64 p, .int .i64 i, .int .i64 j, .int .i64 k, .slice A qs.length c] 33 (0, 0)) := nnz3.at_
  refine hK' _ _ ?_
  clear hK' K' nnz3 bz4
  go_frame
  refine ls_ex (some 6) (.slice none 0 0) rfl rfl (exec_assign _ rfl (.slice none 0 0) rfl) ?_
  go_frame
  refine ls_ex (some 7) (.int .i64 0) rfl rfl (exec_assign _ rfl (.int .i64 0) rfl) ?_
  go_frame
  refine wpList_nil ?_
  go_upto_region 1 with (fail)
  refine wp_region_lit ?_
  refine ls_ex (some 14) (.agg #[.int .i64 p, .int .i64 i, .int .i64 j, .int .i64 k, .slice A qs.length c]) rfl rfl (exec_load_all 33 _ rfl w.heap.size rfl _ _ _ hz5 Try.underlying33 rfl 5 (by kernel_rfl) rfl) ?_
  go_frame
  refine ls_op rfl (fun K' hK' => ?_)
  have lz8 := hB.size
  have lz9 := hz5.lt
  refine wp_call1 (some 15) rfl 26 _ _ rfl (fun args w => by kernel_rfl) _ rfl _ (l09Is_c p i j k A c qs _ (hR.keep hB) hlen) (fun e Wz6 h => ?_)
  obtain ⟨rfl, bz7⟩ := h
  replace hB := below_after hB bz7
  replace hz5 := hz5.after bz7
  rw [Hs.out]
  clear bz7
  refine ⟨_, rfl, ?_⟩
  refine hK' _ _ ?_
  clear hK' K'
  go_frame
  refine ls_ex (some 16) (.bool false) rfl rfl (exec_not _ _ rfl true rfl) ?_
  go_frame
  refine ls_ex (some 13) (.bool false) rfl rfl (exec_assign _ rfl (.bool false) rfl) ?_
  go_frame
  refine wpList_nil ?_
  go_upto_region 3 with (fail)
  refine wp_region_lit ?_
  refine ls_ex (some 18) (.pointer (some ⟨w.heap.size, 0, none⟩)) rfl rfl (exec_fieldAddr 33 _ 0 rfl _ (by kernel_rfl)) ?_
  go_frame
  refine ls_ex (some 19) (.int .i64 p) rfl rfl (exec_load_one 2 _ rfl w.heap.size 0 rfl (.int .i64 p) _ Try.underlying2 rfl (hz5.at_ 0)) ?_
  go_frame
  refine ls_ex (some 20) (.slice Bu us.length cu) rfl rfl (exec_move _ rfl (.slice Bu us.length cu) rfl) ?_
  go_frame
  refine ls_ex (some 21) (.pointer (some ⟨w.heap.size, 1, none⟩)) rfl rfl (exec_fieldAddr 33 _ 1 rfl _ (by kernel_rfl)) ?_
  go_frame
  refine ls_ex (some 22) (.int .i64 i) rfl rfl (exec_load_one 2 _ rfl w.heap.size 1 rfl (.int .i64 i) _ Try.underlying2 rfl (hz5.at_ 1)) ?_
  go_frame
  refine ls_op rfl (fun K' hK' => ?_)
  have lz12 := hB.size
  have lz13 := hz5.lt
  refine wp_call3 (some 23) rfl 33 _ _ _ _ rfl (fun args w => by kernel_rfl) _ _ _ rfl rfl rfl _ (l05Numbers_c p i Bu cu us _ (by omega) (hU.keep hB) hul) (fun e Wz10 h => ?_)
  obtain ⟨rfl, bz11⟩ := h
  replace hB := below_after hB bz11
  replace hz5 := hz5.after bz11
  rw [listB_sw, HLU.out]
  clear bz11
  refine ⟨_, rfl, ?_⟩
  refine hK' _ _ ?_
  clear hK' K'
  go_frame
  refine ls_ex (some 24) (.bool true) rfl rfl (exec_not _ _ rfl false rfl) ?_
  go_frame
  refine ls_ex (some 25) (.bool true) rfl rfl (exec_move _ rfl (.bool true) rfl) ?_
  go_frame
  refine ls_skip_g (some 26) rfl rfl ?_
  go_frame
  refine ls_skip_g (some 27) rfl rfl ?_
  go_frame
  refine ls_skip_g (some 28) rfl rfl ?_
  go_frame
  refine ls_skip_g (some 29) rfl rfl ?_
  go_frame
  refine ls_skip_g (some 30) rfl rfl ?_
  go_frame
  refine ls_skip_g (some 31) rfl rfl ?_
  go_frame
  refine ls_skip_g (some 32) rfl rfl ?_
  go_frame
  refine ls_ex (some 33) (.bool true) rfl rfl (exec_pick _ _ _ rfl true rfl (.bool true) rfl) ?_
  go_frame
  refine ls_ex (some 17) (.bool true) rfl rfl (exec_assign _ rfl (.bool true) rfl) ?_
  go_frame
  refine wpList_nil ?_
  go_upto_region 4 with (fail)
  refine wp_region_lit ?_
  refine ls_ex (some 6) (.slice none 0 0) rfl rfl (exec_assign _ rfl (.slice none 0 0) rfl) ?_
  go_frame
  refine ls_ex (some 7) (.int .i64 2) rfl rfl (exec_assign _ rfl (.int .i64 2) rfl) ?_
  go_frame
  refine wpList_nil ?_
  go_wp2_with fail
  go_ret2
  exact ⟨_, by rw [HC.out]; rfl, by rw [HR.out]; exact OwnI.nil _ _, hB⟩
set_option maxHeartbeats 4000000 in
theorem specMkl_c (p i j k : Int) (A : Option Addr) (c : Nat) (qs : List (List Nat)) (Bu : Option Addr) (cu : Nat) (us : List Int) (Bv : Option Addr) (cv : Nat) (vs : List Int) (w : World) (hR : Rd w A qs) (hlen : qs.length ≤ 1048576) (hU : RdI w Bu us) (hul : us.length ≤ 1048576) (hV : RdI w Bv vs) (hvl : vs.length ≤ 1048576) (hs : methB p i j k qs = true) (hu : listB p i us = true) (hv : listB p j vs = false) :
    Calls Try.prog 15 #[.agg #[.int .i64 p, .int .i64 i, .int .i64 j, .int .i64 k, .slice A qs.length c], .slice Bu us.length cu, .slice Bv vs.length cv] w (ResI w (mkL p i j k qs us vs) (mkCode p i j k qs us vs)) := by
  have hB := Below.refl w.heap.size w
  have HC : Hid (mkCode p i j k qs us vs = 2) := Lib.hid (by unfold mkCode; simp [hs, hu, hv])
  have HR : Hid (mkL p i j k qs us vs = []) := Lib.hid (by unfold mkL; rw [HC.out]; rfl)
  have hp5 := prime_le5 (methB_parts hs).1
  have Hs := Lib.hid hs
  have HLU := Lib.hid hu
  have HLV := Lib.hid hv
  clear hs hu hv
  go_enter Try.func15, Try.ntmps15
  go_upto_region 0 with (fail)
  refine wp_region_lit ?_
  refine ls_op rfl (fun K' hK' => ?_)
  have lz1 := hB.size
  refine wp_new (some 3) rfl (exec_box 33 _ rfl (#[.int .i64 p, .int .i64 i, .int .i64 j, .int .i64 k, .slice A qs.length c]) rfl) (fun Wz2 nnz3 => ?_)
  have bz4 := nnz3.below (Below.refl _ _) (Nat.le_refl _)
  replace hB := below_after hB bz4
  have hz5 : At Wz2 w.heap.size (.cells #[.int .i64 p, .int .i64 i, .int .i64 j, .int .i64 k, .slice A qs.length c] 33 (0, 0)) := nnz3.at_
  refine hK' _ _ ?_
  clear hK' K' nnz3 bz4
  go_frame
  refine ls_ex (some 6) (.slice none 0 0) rfl rfl (exec_assign _ rfl (.slice none 0 0) rfl) ?_
  go_frame
  refine ls_ex (some 7) (.int .i64 0) rfl rfl (exec_assign _ rfl (.int .i64 0) rfl) ?_
  go_frame
  refine wpList_nil ?_
  go_upto_region 1 with (fail)
  refine wp_region_lit ?_
  refine ls_ex (some 14) (.agg #[.int .i64 p, .int .i64 i, .int .i64 j, .int .i64 k, .slice A qs.length c]) rfl rfl (exec_load_all 33 _ rfl w.heap.size rfl _ _ _ hz5 Try.underlying33 rfl 5 (by kernel_rfl) rfl) ?_
  go_frame
  refine ls_op rfl (fun K' hK' => ?_)
  have lz8 := hB.size
  have lz9 := hz5.lt
  refine wp_call1 (some 15) rfl 26 _ _ rfl (fun args w => by kernel_rfl) _ rfl _ (l09Is_c p i j k A c qs _ (hR.keep hB) hlen) (fun e Wz6 h => ?_)
  obtain ⟨rfl, bz7⟩ := h
  replace hB := below_after hB bz7
  replace hz5 := hz5.after bz7
  rw [Hs.out]
  clear bz7
  refine ⟨_, rfl, ?_⟩
  refine hK' _ _ ?_
  clear hK' K'
  go_frame
  refine ls_ex (some 16) (.bool false) rfl rfl (exec_not _ _ rfl true rfl) ?_
  go_frame
  refine ls_ex (some 13) (.bool false) rfl rfl (exec_assign _ rfl (.bool false) rfl) ?_
  go_frame
  refine wpList_nil ?_
  go_upto_region 3 with (fail)
  refine wp_region_lit ?_
  refine ls_ex (some 18) (.pointer (some ⟨w.heap.size, 0, none⟩)) rfl rfl (exec_fieldAddr 33 _ 0 rfl _ (by kernel_rfl)) ?_
  go_frame
  refine ls_ex (some 19) (.int .i64 p) rfl rfl (exec_load_one 2 _ rfl w.heap.size 0 rfl (.int .i64 p) _ Try.underlying2 rfl (hz5.at_ 0)) ?_
  go_frame
  refine ls_ex (some 20) (.slice Bu us.length cu) rfl rfl (exec_move _ rfl (.slice Bu us.length cu) rfl) ?_
  go_frame
  refine ls_ex (some 21) (.pointer (some ⟨w.heap.size, 1, none⟩)) rfl rfl (exec_fieldAddr 33 _ 1 rfl _ (by kernel_rfl)) ?_
  go_frame
  refine ls_ex (some 22) (.int .i64 i) rfl rfl (exec_load_one 2 _ rfl w.heap.size 1 rfl (.int .i64 i) _ Try.underlying2 rfl (hz5.at_ 1)) ?_
  go_frame
  refine ls_op rfl (fun K' hK' => ?_)
  have lz12 := hB.size
  have lz13 := hz5.lt
  refine wp_call3 (some 23) rfl 33 _ _ _ _ rfl (fun args w => by kernel_rfl) _ _ _ rfl rfl rfl _ (l05Numbers_c p i Bu cu us _ (by omega) (hU.keep hB) hul) (fun e Wz10 h => ?_)
  obtain ⟨rfl, bz11⟩ := h
  replace hB := below_after hB bz11
  replace hz5 := hz5.after bz11
  rw [listB_sw, HLU.out]
  clear bz11
  refine ⟨_, rfl, ?_⟩
  refine hK' _ _ ?_
  clear hK' K'
  go_frame
  refine ls_ex (some 24) (.bool false) rfl rfl (exec_not _ _ rfl true rfl) ?_
  go_frame
  refine ls_ex (some 25) (.bool false) rfl rfl (exec_move _ rfl (.bool false) rfl) ?_
  go_frame
  refine ls_ex_g (some 26) (.pointer (some ⟨w.heap.size, 0, none⟩)) rfl rfl (exec_fieldAddr 33 _ 0 rfl _ (by kernel_rfl)) ?_
  go_frame
  refine ls_ex_g (some 27) (.int .i64 p) rfl rfl (exec_load_one 2 _ rfl w.heap.size 0 rfl (.int .i64 p) _ Try.underlying2 rfl (hz5.at_ 0)) ?_
  go_frame
  refine ls_ex_g (some 28) (.slice Bv vs.length cv) rfl rfl (exec_move _ rfl (.slice Bv vs.length cv) rfl) ?_
  go_frame
  refine ls_ex_g (some 29) (.pointer (some ⟨w.heap.size, 2, none⟩)) rfl rfl (exec_fieldAddr 33 _ 2 rfl _ (by kernel_rfl)) ?_
  go_frame
  refine ls_ex_g (some 30) (.int .i64 j) rfl rfl (exec_load_one 2 _ rfl w.heap.size 2 rfl (.int .i64 j) _ Try.underlying2 rfl (hz5.at_ 2)) ?_
  go_frame
  refine ls_op_g rfl (fun K' hK' => ?_)
  have lz16 := hB.size
  have lz17 := hz5.lt
  refine wp_call3 (some 31) rfl 33 _ _ _ _ rfl (fun args w => by kernel_rfl) _ _ _ rfl rfl rfl _ (l05Numbers_c p j Bv cv vs _ (by omega) (hV.keep hB) hvl) (fun e Wz14 h => ?_)
  obtain ⟨rfl, bz15⟩ := h
  replace hB := below_after hB bz15
  replace hz5 := hz5.after bz15
  rw [listB_sw, HLV.out]
  clear bz15
  refine ⟨_, rfl, ?_⟩
  refine hK' _ _ ?_
  clear hK' K'
  go_frame
  refine ls_ex_g (some 32) (.bool true) rfl rfl (exec_not _ _ rfl false rfl) ?_
  go_frame
  refine ls_ex (some 33) (.bool true) rfl rfl (exec_pick _ _ _ rfl false rfl (.bool true) rfl) ?_
  go_frame
  refine ls_ex (some 17) (.bool true) rfl rfl (exec_assign _ rfl (.bool true) rfl) ?_
  go_frame
  refine wpList_nil ?_
  go_upto_region 4 with (fail)
  refine wp_region_lit ?_
  refine ls_ex (some 6) (.slice none 0 0) rfl rfl (exec_assign _ rfl (.slice none 0 0) rfl) ?_
  go_frame
  refine ls_ex (some 7) (.int .i64 2) rfl rfl (exec_assign _ rfl (.int .i64 2) rfl) ?_
  go_frame
  refine wpList_nil ?_
  go_wp2_with fail
  go_ret2
  exact ⟨_, by rw [HC.out]; rfl, by rw [HR.out]; exact OwnI.nil _ _, hB⟩
set_option maxHeartbeats 25600000 in
theorem specMkl_y (p : Int) (n0 n1 n2 : Nat) (A : Option Addr) (c : Nat) (qs : List (List Nat)) (Bu : Option Addr) (cu : Nat) (us : List Int) (Bv : Option Addr) (cv : Nat) (vs : List Int) (w : World) (hR : Rd w A qs) (hlen : qs.length ≤ 1048576) (hU : RdI w Bu us) (hul : us.length ≤ 1048576) (hV : RdI w Bv vs) (hvl : vs.length ≤ 1048576) (hs : methB p n0 n1 n2 qs = true) (hu : listB p n0 us = true) (hv : listB p n1 vs = true) :
    Calls Try.prog 15 #[.agg #[.int .i64 p, .int .i64 n0, .int .i64 n1, .int .i64 n2, .slice A qs.length c], .slice Bu us.length cu, .slice Bv vs.length cv] w (ResI w (mkL p n0 n1 n2 qs us vs) (mkCode p n0 n1 n2 qs us vs)) := by
  have hB := Below.refl w.heap.size w
  have HC : Hid (mkCode p n0 n1 n2 qs us vs = 0) := Lib.hid (by unfold mkCode; simp [hs, hu, hv])
  have HR : Hid (mkL p n0 n1 n2 qs us vs = mlL p n2 us vs qs qs.length) := Lib.hid (by unfold mkL; rw [HC.out]; rfl)
  have hp5a := prime_le5 (methB_parts hs).1
  have hp5 : 2 ≤ p ∧ p ≤ 5 := by omega
  have l0 : 1 ≤ n0 ∧ n0 ≤ 9 := by have := (methB_parts hs).2.1; simp only [sideB, Bool.and_eq_true, decide_eq_true_eq] at this; omega
  have l1 : 1 ≤ n1 ∧ n1 ≤ 9 := by have := (methB_parts hs).2.2.1; simp only [sideB, Bool.and_eq_true, decide_eq_true_eq] at this; omega
  have l2 : 1 ≤ n2 ∧ n2 ≤ 9 := by have := (methB_parts hs).2.2.2.1; simp only [sideB, Bool.and_eq_true, decide_eq_true_eq] at this; omega
  have hlu : us.length = n0 ∧ numsB p us = true := by simp only [listB, Bool.and_eq_true, decide_eq_true_eq] at hu; exact ⟨by omega, hu.2⟩
  have hlv : vs.length = n1 ∧ numsB p vs = true := by simp only [listB, Bool.and_eq_true, decide_eq_true_eq] at hv; exact ⟨by omega, hv.2⟩
  obtain ⟨hul0, hnu⟩ := hlu
  obtain ⟨hvl1, hnv⟩ := hlv
  have hula : us.length ≤ n0 ∧ n0 ≤ us.length := by omega
  have hvla : vs.length ≤ n1 ∧ n1 ≤ vs.length := by omega
  have HNu := Lib.hid hnu
  have HNv := Lib.hid hnv
  have HOw : Hid (∀ (g : Nat) (W : World), At W g (.cells (iar (mlL p n2 us vs qs qs.length)) 2 (0, 0)) → OwnI W g (.slice (some ⟨g, 0, none⟩) n2 n2) (mlL p n2 us vs qs qs.length)) := Lib.hid (fun g W h => by have h9 := OwnI.of_at h (Nat.le_refl g) (by rw [mlL_len]; omega); rwa [mlL_len] at h9)
  have Hs := Lib.hid hs
  have HLU := Lib.hid hu
  have HLV := Lib.hid hv
  clear hs hu hv hul0 hvl1 hnu hnv hp5a
  go_enter Try.func15, Try.ntmps15
  go_upto_region 0 with (fail)
  refine wp_region_lit ?_
  refine ls_op rfl (fun K' hK' => ?_)
  have lz1 := hB.size
  refine wp_new (some 3) rfl (exec_box 33 _ rfl (#[.int .i64 p, .int .i64 n0, .int .i64 n1, .int .i64 n2, .slice A qs.length c]) rfl) (fun Wz2 nnz3 => ?_)
  have bz4 := nnz3.below (Below.refl _ _) (Nat.le_refl _)
  replace hB := below_after hB bz4
  have hz5 : At Wz2 w.heap.size (.cells #[.int .i64 p, .int .i64 n0, .int .i64 n1, .int .i64 n2, .slice A qs.length c] 33 (0, 0)) := nnz3.at_
  refine hK' _ _ ?_
  clear hK' K' nnz3 bz4
  go_frame
  refine ls_ex (some 6) (.slice none 0 0) rfl rfl (exec_assign _ rfl (.slice none 0 0) rfl) ?_
  go_frame
  refine ls_ex (some 7) (.int .i64 0) rfl rfl (exec_assign _ rfl (.int .i64 0) rfl) ?_
  go_frame
  refine wpList_nil ?_
  go_upto_region 1 with (fail)
  refine wp_region_lit ?_
  refine ls_ex (some 14) (.agg #[.int .i64 p, .int .i64 n0, .int .i64 n1, .int .i64 n2, .slice A qs.length c]) rfl rfl (exec_load_all 33 _ rfl w.heap.size rfl _ _ _ hz5 Try.underlying33 rfl 5 (by kernel_rfl) rfl) ?_
  go_frame
  refine ls_op rfl (fun K' hK' => ?_)
  have lz8 := hB.size
  have lz9 := hz5.lt
  refine wp_call1 (some 15) rfl 26 _ _ rfl (fun args w => by kernel_rfl) _ rfl _ (l09Is_c p n0 n1 n2 A c qs _ (hR.keep hB) hlen) (fun e Wz6 h => ?_)
  obtain ⟨rfl, bz7⟩ := h
  replace hB := below_after hB bz7
  replace hz5 := hz5.after bz7
  rw [Hs.out]
  clear bz7
  refine ⟨_, rfl, ?_⟩
  refine hK' _ _ ?_
  clear hK' K'
  go_frame
  refine ls_ex (some 16) (.bool false) rfl rfl (exec_not _ _ rfl true rfl) ?_
  go_frame
  refine ls_ex (some 13) (.bool false) rfl rfl (exec_assign _ rfl (.bool false) rfl) ?_
  go_frame
  refine wpList_nil ?_
  go_upto_region 3 with (fail)
  refine wp_region_lit ?_
  refine ls_ex (some 18) (.pointer (some ⟨w.heap.size, 0, none⟩)) rfl rfl (exec_fieldAddr 33 _ 0 rfl _ (by kernel_rfl)) ?_
  go_frame
  refine ls_ex (some 19) (.int .i64 p) rfl rfl (exec_load_one 2 _ rfl w.heap.size 0 rfl (.int .i64 p) _ Try.underlying2 rfl (hz5.at_ 0)) ?_
  go_frame
  refine ls_ex (some 20) (.slice Bu us.length cu) rfl rfl (exec_move _ rfl (.slice Bu us.length cu) rfl) ?_
  go_frame
  refine ls_ex (some 21) (.pointer (some ⟨w.heap.size, 1, none⟩)) rfl rfl (exec_fieldAddr 33 _ 1 rfl _ (by kernel_rfl)) ?_
  go_frame
  refine ls_ex (some 22) (.int .i64 n0) rfl rfl (exec_load_one 2 _ rfl w.heap.size 1 rfl (.int .i64 n0) _ Try.underlying2 rfl (hz5.at_ 1)) ?_
  go_frame
  refine ls_op rfl (fun K' hK' => ?_)
  have lz12 := hB.size
  have lz13 := hz5.lt
  refine wp_call3 (some 23) rfl 33 _ _ _ _ rfl (fun args w => by kernel_rfl) _ _ _ rfl rfl rfl _ (l05Numbers_c p n0 Bu cu us _ (by omega) (hU.keep hB) hul) (fun e Wz10 h => ?_)
  obtain ⟨rfl, bz11⟩ := h
  replace hB := below_after hB bz11
  replace hz5 := hz5.after bz11
  rw [listB_sw, HLU.out]
  clear bz11
  refine ⟨_, rfl, ?_⟩
  refine hK' _ _ ?_
  clear hK' K'
  go_frame
  refine ls_ex (some 24) (.bool false) rfl rfl (exec_not _ _ rfl true rfl) ?_
  go_frame
  refine ls_ex (some 25) (.bool false) rfl rfl (exec_move _ rfl (.bool false) rfl) ?_
  go_frame
  refine ls_ex_g (some 26) (.pointer (some ⟨w.heap.size, 0, none⟩)) rfl rfl (exec_fieldAddr 33 _ 0 rfl _ (by kernel_rfl)) ?_
  go_frame
  refine ls_ex_g (some 27) (.int .i64 p) rfl rfl (exec_load_one 2 _ rfl w.heap.size 0 rfl (.int .i64 p) _ Try.underlying2 rfl (hz5.at_ 0)) ?_
  go_frame
  refine ls_ex_g (some 28) (.slice Bv vs.length cv) rfl rfl (exec_move _ rfl (.slice Bv vs.length cv) rfl) ?_
  go_frame
  refine ls_ex_g (some 29) (.pointer (some ⟨w.heap.size, 2, none⟩)) rfl rfl (exec_fieldAddr 33 _ 2 rfl _ (by kernel_rfl)) ?_
  go_frame
  refine ls_ex_g (some 30) (.int .i64 n1) rfl rfl (exec_load_one 2 _ rfl w.heap.size 2 rfl (.int .i64 n1) _ Try.underlying2 rfl (hz5.at_ 2)) ?_
  go_frame
  refine ls_op_g rfl (fun K' hK' => ?_)
  have lz16 := hB.size
  have lz17 := hz5.lt
  refine wp_call3 (some 31) rfl 33 _ _ _ _ rfl (fun args w => by kernel_rfl) _ _ _ rfl rfl rfl _ (l05Numbers_c p n1 Bv cv vs _ (by omega) (hV.keep hB) hvl) (fun e Wz14 h => ?_)
  obtain ⟨rfl, bz15⟩ := h
  replace hB := below_after hB bz15
  replace hz5 := hz5.after bz15
  rw [listB_sw, HLV.out]
  clear bz15
  refine ⟨_, rfl, ?_⟩
  refine hK' _ _ ?_
  clear hK' K'
  go_frame
  refine ls_ex_g (some 32) (.bool false) rfl rfl (exec_not _ _ rfl true rfl) ?_
  go_frame
  refine ls_ex (some 33) (.bool false) rfl rfl (exec_pick _ _ _ rfl false rfl (.bool false) rfl) ?_
  go_frame
  refine ls_ex (some 17) (.bool false) rfl rfl (exec_assign _ rfl (.bool false) rfl) ?_
  go_frame
  refine wpList_nil ?_
  go_upto_region 5 with (fail)
  refine wp_region_lit ?_
  refine ls_ex (some 34) (.pointer (some ⟨w.heap.size, 3, none⟩)) rfl rfl (exec_fieldAddr 33 _ 3 rfl _ (by kernel_rfl)) ?_
  go_frame
  refine ls_ex (some 35) (.int .i64 n2) rfl rfl (exec_load_one 2 _ rfl w.heap.size 3 rfl (.int .i64 n2) _ Try.underlying2 rfl (hz5.at_ 3)) ?_
  go_frame
  refine ls_op rfl (fun K' hK' => ?_)
  have lz21 := hB.size
  have lz22 := hz5.lt
  refine wp_make_I (some 36) rfl _ _ rfl n2 rfl rfl (by omega) (fun Wz18 nnz19 => ?_)
  have bz20 := nnz19.below (Below.refl _ _) (Nat.le_refl _)
  replace hB := below_after hB bz20
  replace hz5 := hz5.after bz20
  have hL : At Wz18 Wz14.heap.size (.cells (iar (List.replicate n2 0)) 2 (0, 0)) := nnz19.at_
  refine hK' _ _ ?_
  clear hK' K' nnz19 bz20
  go_frame
  refine ls_ex (some 8) (.slice (some ⟨Wz14.heap.size, 0, none⟩) n2 n2) rfl rfl (exec_assign _ rfl (.slice (some ⟨Wz14.heap.size, 0, none⟩) n2 n2) rfl) ?_
  go_frame
  refine wpList_nil ?_
  go_upto_region 6 with (fail)
  refine wp_region_lit ?_
  refine ls_ex (some 9) (.int .i64 0) rfl rfl (exec_assign _ rfl (.int .i64 0) rfl) ?_
  go_frame
  refine wpList_nil ?_
  go_wp2_with fail
  go_loopw [9] (fun s9 wr => ∃ t : Nat, t ≤ qs.length ∧ s9 = .int .i64 t ∧ Below w.heap.size w wr ∧ At wr w.heap.size (.cells #[.int .i64 p, .int .i64 n0, .int .i64 n1, .int .i64 n2, .slice A qs.length c] 33 (0, 0)) ∧ At wr Wz14.heap.size (.cells (iar (mlL p n2 us vs qs (t))) 2 (0, 0))) (fun s9 _ => qs.length - (intOf s9).toNat)
  case atStart => exact ⟨0, by omega, rfl, hB, hz5, by rw [mlL_zero]; exact hL⟩
  case round =>
    clear hB hz5 hL
    obtain ⟨t, ht, rfl, hB, h0, hL⟩ := hrel
    by_cases hlt : t < qs.length
    · obtain ⟨b, off, rfl, hc⟩ := (hR.keep hB).at_ hlt
      clear hc
      have hq := hR.good _ (List.getElem_mem hlt)
      have Hq27 := Lib.hid hq.len
      obtain ⟨OLD, hOLD⟩ : ∃ l, mlL p n2 us vs qs (t) = l := ⟨_, rfl⟩
      obtain ⟨NEW, hNEW⟩ : ∃ l, mlL p n2 us vs qs (t + 1) = l := ⟨_, rfl⟩
      have HN1 : Hid (NEW.length = n2) := Lib.hid (by rw [← hNEW, mlL_len])
      have HN2 : Hid (OLD.length = n2) := Lib.hid (by rw [← hOLD, mlL_len])
      have HOLD := Lib.hid hOLD
      have HNEW := Lib.hid hNEW
      clear hOLD hNEW
      have hs1 := sumF_b (segm_bytes hq (show 0 + 9 ≤ 27 by omega)) HNu.out hp5.2 us.length
      have hs2 := sumF_b (segm_bytes hq (show 9 + 9 ≤ 27 by omega)) HNv.out hp5.2 vs.length
      obtain ⟨S1, hS1⟩ : ∃ s : Int, sumF (segm qs[t] 0 9) us us.length = s := ⟨_, rfl⟩
      obtain ⟨S2, hS2⟩ : ∃ s : Int, sumF (segm qs[t] 9 9) vs vs.length = s := ⟨_, rfl⟩
      obtain ⟨SS, hSS⟩ : ∃ s : Int, S1 * S2 = s := ⟨_, rfl⟩
      rw [hS1] at hs1
      rw [hS2] at hs2
      have hSp := mulB 11520 11520 (a := S1) (b := S2) ⟨hs1.1, by omega⟩ ⟨hs2.1, by omega⟩
      rw [hSS] at hSp
      have HS1 := Lib.hid hS1
      have HS2 := Lib.hid hS2
      have HSS : Hid (IntKind.i64.wrap (S1 * S2) = SS) := Lib.hid (by rw [hSS]; exact IntWalk.i64_in _ (by omega))
      obtain ⟨SVV, hSVV⟩ : ∃ s : Int, SS % p = s := ⟨_, rfl⟩
      have hSb : 0 ≤ SVV ∧ SVV ≤ 4 := by have h1 := Int.emod_nonneg SS (show p ≠ 0 by omega); have h2 := Int.emod_lt_of_pos SS (show 0 < p by omega); omega
      have HSR : Hid (SS.tmod p = SVV) := Lib.hid (by rw [← hSVV]; exact Int.tmod_eq_emod_of_nonneg hSp.1)
      have HSVV : Hid (prS p qs[t] us vs = SVV) := Lib.hid (by unfold prS; rw [hS1, hS2, hSS, hSVV])
      have hP0 : p ≠ 0 := by omega
      clear hS1 hS2 hSS hSVV
      go_upto_region 7 with (fail)
      refine wp_region_lit ?_
      refine ls_ex (some 37) (.int .i64 t) rfl rfl (exec_move _ rfl (.int .i64 t) rfl) ?_
      go_frame
      refine ls_ex (some 38) (.pointer (some ⟨w.heap.size, 4, none⟩)) rfl rfl (exec_fieldAddr 33 _ 4 rfl _ (by kernel_rfl)) ?_
      go_frame
      refine ls_ex (some 39) (.slice (some ⟨b, off, none⟩) qs.length c) rfl rfl (exec_load_one 31 _ rfl w.heap.size 4 rfl (.slice (some ⟨b, off, none⟩) qs.length c) _ Try.underlying31 rfl (h0.at_ 4)) ?_
      go_frame
      refine ls_ex (some 40) (.int .i64 qs.length) rfl rfl (exec_len _ 31 61 rfl ((some ⟨b, off, none⟩)) qs.length c rfl Try.underlying31) ?_
      go_frame
      refine ls_ex (some 41) (.bool true) rfl rfl (exec_lss _ _ _ _ rfl t qs.length rfl rfl true (decide_eq_true (by omega))) ?_
      go_frame
      refine wpList_nil ?_
      go_upto_region 9 with (fail)
      refine wp_region_lit ?_
      refine ls_ex (some 44) (.pointer (some ⟨w.heap.size, 4, none⟩)) rfl rfl (exec_fieldAddr 33 _ 4 rfl _ (by kernel_rfl)) ?_
      go_frame
      refine ls_ex (some 45) (.slice (some ⟨b, off, none⟩) qs.length c) rfl rfl (exec_load_one 31 _ rfl w.heap.size 4 rfl (.slice (some ⟨b, off, none⟩) qs.length c) _ Try.underlying31 rfl (h0.at_ 4)) ?_
      go_frame
      refine ls_ex (some 46) (.int .i64 t) rfl rfl (exec_move _ rfl (.int .i64 t) rfl) ?_
      go_frame
      refine ls_ex (some 47) (.pointer (some ⟨b, off + t * 27, none⟩)) rfl rfl (exec_index_slice _ 61 _ _ rfl b off qs.length c t 27 rfl rfl Try.underlying31 (by kernel_rfl) (by omega)) ?_
      go_frame
      refine ls_ex (some 48) (.agg (u8s (qs[t]))) rfl rfl (exec_load_cells 61 _ rfl b (off + t * 27) rfl (qs[t]) _ 27 (Rd.c27m (hR.keep hB) hlt) Try.underlying61 rfl (by kernel_rfl) (Hq27.out)) ?_
      go_frame
      refine ls_op rfl (fun K' hK' => ?_)
      have lz23 := hB.size
      have lz24 := h0.lt
      have lz25 := hL.lt
      refine wp_new (some 10) rfl (al_impl_Product rfl) (fun Wz26 nnz27 => ?_)
      have bz28 := nnz27.below (Below.refl _ _) (Nat.le_refl _)
      replace hB := below_after hB bz28
      replace h0 := h0.after bz28
      replace hL := hL.after bz28
      have hz29 : At Wz26 wr.heap.size (.cells (u8s (List.replicate 27 0)) 61 (0, 0)) := nnz27.at_
      refine hK' _ _ ?_
      clear hK' K' nnz27 bz28
      go_frame
      refine ls_op rfl (fun K' hK' => ?_)
      refine wp_store_bytes 61 _ _ rfl rfl wr.heap.size rfl (qs[t]) rfl _ _ hz29 27 (by kernel_rfl) Hq27.out (by simp) (fun Wz30 pz31 => ?_)
      replace hB := pz31.below hB (by omega)
      replace h0 := pz31.other h0 (by omega)
      replace hL := pz31.other hL (by omega)
      replace hz29 : At Wz30 wr.heap.size (.cells (u8s (qs[t])) 61 (0, 0)) := pz31.at_
      refine hK' _ _ ?_
      clear hK' K' pz31
      refine wpList_nil ?_
      go_upto_region 10 with (fail)
      refine wp_region_y (zs := []) (S := fun w' => Below w.heap.size w w' ∧ At w' wr.heap.size (.cells (u8s (qs[t])) 61 (0, 0)) ∧ At w' w.heap.size (.cells #[.int .i64 p, .int .i64 n0, .int .i64 n1, .int .i64 n2, .slice (some ⟨b, off, none⟩) qs.length c] 33 (0, 0))) (S2 := fun w' => True) (by kernel_rfl) ?_
      change wpAnyY _ _ _ _ _ _ _ _ _ _ (World.drew _)
      generalize hwdz32 : World.drew _ = wdz32
      replace hB : Below w.heap.size w wdz32 := by rw [← hwdz32]; exact hB.drew
      replace h0 : At wdz32 w.heap.size (.cells #[.int .i64 p, .int .i64 n0, .int .i64 n1, .int .i64 n2, .slice (some ⟨b, off, none⟩) qs.length c] 33 (0, 0)) := by rw [← hwdz32]; exact h0
      replace hL : At wdz32 Wz14.heap.size (.cells (iar (mlL p n2 us vs qs (t))) 2 (0, 0)) := by rw [← hwdz32]; exact hL
      replace hz29 : At wdz32 wr.heap.size (.cells (u8s (qs[t])) 61 (0, 0)) := by rw [← hwdz32]; exact hz29
      clear hwdz32
      refine y_yield 0 (some 49) (.pointer (some ⟨wr.heap.size, 0, none⟩)) rfl (by kernel_rfl) (by kernel_rfl) (by kernel_rfl) (fun _ _ _ h => h) rfl rfl ⟨hB, hz29, h0⟩ (fun w' h' => exec_fieldAddr 61 _ 0 rfl _ (by kernel_rfl)) ?_
      go_frame
      refine y_yield 1 (some 50) (.agg (u8s (segm qs[t] 0 9))) rfl (by kernel_rfl) (by kernel_rfl) (by kernel_rfl) (fun _ _ _ h => h) rfl rfl ⟨hB, hz29, h0⟩ (fun w' h' => exec_load_seg 59 _ rfl wr.heap.size (0) rfl _ (qs[t]) _ 9 h'.2.1 Try.underlying59 rfl (by kernel_rfl) (by rw [Hq27.out]; omega) (segm qs[t] 0 9) rfl) ?_
      go_frame
      refine y_yield 2 (some 51) (.slice Bu us.length cu) rfl (by kernel_rfl) (by kernel_rfl) (by kernel_rfl) (fun _ _ _ h => h) rfl rfl ⟨hB, hz29, h0⟩ (fun w' h' => exec_move _ rfl (.slice Bu us.length cu) rfl) ?_
      go_frame
      refine y_yield 4 (some 53) (.pointer (some ⟨wr.heap.size, 9, none⟩)) rfl (by kernel_rfl) (by kernel_rfl) (by kernel_rfl) (fun _ _ _ h => h) rfl rfl ⟨hB, hz29, h0⟩ (fun w' h' => exec_fieldAddr 61 _ 1 rfl _ (by kernel_rfl)) ?_
      go_frame
      refine y_yield 5 (some 54) (.agg (u8s (segm qs[t] 9 9))) rfl (by kernel_rfl) (by kernel_rfl) (by kernel_rfl) (fun _ _ _ h => h) rfl rfl ⟨hB, hz29, h0⟩ (fun w' h' => exec_load_seg 59 _ rfl wr.heap.size (9) rfl _ (qs[t]) _ 9 h'.2.1 Try.underlying59 rfl (by kernel_rfl) (by rw [Hq27.out]; omega) (segm qs[t] 9 9) rfl) ?_
      go_frame
      refine y_yield 6 (some 55) (.slice Bv vs.length cv) rfl (by kernel_rfl) (by kernel_rfl) (by kernel_rfl) (fun _ _ _ h => h) rfl rfl ⟨hB, hz29, h0⟩ (fun w' h' => exec_move _ rfl (.slice Bv vs.length cv) rfl) ?_
      go_frame
      refine y_yield 9 (some 58) (.pointer (some ⟨w.heap.size, 0, none⟩)) rfl (by kernel_rfl) (by kernel_rfl) (by kernel_rfl) (fun _ _ _ h => h) rfl rfl ⟨hB, hz29, h0⟩ (fun w' h' => exec_fieldAddr 33 _ 0 rfl _ (by kernel_rfl)) ?_
      go_frame
      refine y_yield 10 (some 59) (.int .i64 p) rfl (by kernel_rfl) (by kernel_rfl) (by kernel_rfl) (fun _ _ _ h => h) rfl rfl ⟨hB, hz29, h0⟩ (fun w' h' => exec_load_one 2 _ rfl w.heap.size 0 rfl (.int .i64 p) _ Try.underlying2 rfl (h'.2.2.at_ 0)) ?_
      go_frame
      refine y_oper 3 (by kernel_rfl) rfl rfl (fun K' hK' => ?_)
      have lz35 := hB.size
      have lz36 := h0.lt
      have lz37 := hL.lt
      have lz38 := hz29.lt
      refine wp_call2 (some 52) rfl 34 _ _ _ rfl (fun args w => by kernel_rfl) _ _ rfl rfl _ (l09At_c (segm qs[t] 0 9) Bu cu us p _ (segm_bytes hq (by omega)) (hU.keep hB) HNu.out hp5 (by omega)) (fun e Wz33 h => ?_)
      obtain ⟨rfl, bz34⟩ := h
      replace hB := below_after hB bz34
      replace h0 := h0.after bz34
      replace hL := hL.after bz34
      replace hz29 := hz29.after bz34
      rw [HS1.out]
      clear bz34
      refine ⟨_, rfl, ?_⟩
      refine hK' _ _ ⟨hB, hz29, h0⟩ (fun _ => trivial) ?_
      clear hK' K'
      go_frame
      refine y_oper 7 (by kernel_rfl) rfl rfl (fun K' hK' => ?_)
      have lz41 := hB.size
      have lz42 := h0.lt
      have lz43 := hL.lt
      have lz44 := hz29.lt
      refine wp_call2 (some 56) rfl 34 _ _ _ rfl (fun args w => by kernel_rfl) _ _ rfl rfl _ (l09At_c (segm qs[t] 9 9) Bv cv vs p _ (segm_bytes hq (by omega)) (hV.keep hB) HNv.out hp5 (by omega)) (fun e Wz39 h => ?_)
      obtain ⟨rfl, bz40⟩ := h
      replace hB := below_after hB bz40
      replace h0 := h0.after bz40
      replace hL := hL.after bz40
      replace hz29 := hz29.after bz40
      rw [HS2.out]
      clear bz40
      refine ⟨_, rfl, ?_⟩
      refine hK' _ _ ⟨hB, hz29, h0⟩ (fun _ => trivial) ?_
      clear hK' K'
      go_frame
      refine y_yield 8 (some 57) (.int .i64 SS) rfl (by kernel_rfl) (by kernel_rfl) (by kernel_rfl) (fun _ _ _ h => h) rfl rfl ⟨hB, hz29, h0⟩ (fun w' h' => exec_mul _ _ _ _ rfl S1 S2 SS rfl rfl HSS.out) ?_
      go_frame
      refine y_yield 11 (some 60) (.int .i64 SVV) rfl (by kernel_rfl) (by kernel_rfl) (by kernel_rfl) (fun _ _ _ h => h) rfl rfl ⟨hB, hz29, h0⟩ (fun w' h' => exec_rem _ _ _ _ rfl SS p SVV rfl rfl hP0 HSR.out) ?_
      go_frame
      refine y_oper 12 (by kernel_rfl) rfl rfl (fun K' hK' => ?_)
      refine wp_exec (some 11) rfl (.int .i64 SVV) (exec_assign _ rfl (.int .i64 SVV) rfl) ?_
      refine hK' _ _ ⟨hB, hz29, h0⟩ (fun _ => trivial) ?_
      clear hK' K'
      go_frame
      refine y_done (by kernel_rfl) ?_ _
      go_upto_region 11 with (fail)
      refine wp_region_lit ?_
      refine ls_ex (some 12) (.int .i64 0) rfl rfl (exec_assign _ rfl (.int .i64 0) rfl) ?_
      go_frame
      refine wpList_nil ?_
      go_wp2_with fail
      obtain ⟨we, rfl⟩ : ∃ x : World, x = wr := ⟨_, rfl⟩
      go_loopw [12] (fun s12 wr => ∃ k : Nat, k ≤ n2 ∧ s12 = .int .i64 k ∧ Below w.heap.size w wr ∧ At wr w.heap.size (.cells #[.int .i64 p, .int .i64 n0, .int .i64 n1, .int .i64 n2, .slice (some ⟨b, off, none⟩) qs.length c] 33 (0, 0)) ∧ At wr Wz14.heap.size (.cells (iar (mixI NEW OLD k)) 2 (0, 0)) ∧ At wr we.heap.size (.cells (u8s (qs[t])) 61 (0, 0))) (fun s12 _ => n2 - (intOf s12).toNat)
      case atStart => exact ⟨0, by omega, rfl, hB, h0, by rw [mixI_zero, ← HOLD.out]; exact hL, hz29⟩
      case round =>
        clear hB h0 hL hz29
        obtain ⟨k, hk, rfl, hB, h0, hL, hqb⟩ := hrel
        by_cases hlt3 : k < n2
        · obtain ⟨C1, hC1⟩ : ∃ n : Nat, qs[t][18 + k]?.getD 0 = n := ⟨_, rfl⟩
          obtain ⟨V, hV⟩ : ∃ n : Int, mlN p us vs qs t k = n := ⟨_, rfl⟩
          obtain ⟨CS, hCS⟩ : ∃ n : Int, (C1 : Int) * SVV = n := ⟨_, rfl⟩
          obtain ⟨V2, hV2⟩ : ∃ n : Int, V + CS = n := ⟨_, rfl⟩
          obtain ⟨NV, hNV⟩ : ∃ n : Int, V2 % p = n := ⟨_, rfl⟩
          have hC256 := hq.lt (18 + k)
          rw [hC1] at hC256
          have hVb : 0 ≤ V ∧ V ≤ 4 := by rw [← hV]; exact mlN_b hp5 _ _ _ _ _
          have hCSb := mulB 255 4 (a := (C1 : Int)) (b := SVV) ⟨by omega, by omega⟩ ⟨hSb.1, by have := hSb.2; omega⟩
          rw [hCS] at hCSb
          have hk9 : k < 9 := by omega
          have HC1 := Lib.hid hC1
          have HCS : Hid (IntKind.i64.wrap ((C1 : Int) * SVV) = CS) := Lib.hid (by rw [hCS]; exact IntWalk.i64_in _ (by omega))
          have HV2 : Hid (IntKind.i64.wrap (V + CS) = V2) := Lib.hid (by rw [hV2]; exact IntWalk.i64_in _ (by omega))
          have HNV : Hid (V2.tmod p = NV) := Lib.hid (by rw [← hNV]; exact Int.tmod_eq_emod_of_nonneg (by omega))
          have hP0 : p ≠ 0 := by omega
          have HVo : Hid ((mixI NEW OLD k)[k]? = some V) := Lib.hid (by rw [mixI_get HN1.out hlt3, ← HOLD.out, mlL_get _ _ _ _ _ _ hlt3, hV])
          have HSet : Hid ((mixI NEW OLD k).set k NV = mixI NEW OLD (k + 1)) := Lib.hid (mixI_set HN1.out HN2.out hlt3 (by rw [← HNEW.out, mlL_get _ _ _ _ _ _ hlt3, mlN_step hlt hC1, hV, HSVV.out, hCS, hV2, hNV]))
          have HLen : Hid ((mixI NEW OLD k).length = n2) := Lib.hid (mixI_len HN1.out HN2.out (by omega))
          clear hC1 hV hCS hV2 hNV
          go_upto_region 12 with (fail)
          refine wp_region_lit ?_
          refine ls_ex (some 61) (.int .i64 k) rfl rfl (exec_move _ rfl (.int .i64 k) rfl) ?_
          go_frame
          refine ls_ex (some 62) (.pointer (some ⟨w.heap.size, 3, none⟩)) rfl rfl (exec_fieldAddr 33 _ 3 rfl _ (by kernel_rfl)) ?_
          go_frame
          refine ls_ex (some 63) (.int .i64 n2) rfl rfl (exec_load_one 2 _ rfl w.heap.size 3 rfl (.int .i64 n2) _ Try.underlying2 rfl (h0.at_ 3)) ?_
          go_frame
          refine ls_ex (some 64) (.bool true) rfl rfl (exec_lss _ _ _ _ rfl k n2 rfl rfl true (decide_eq_true (by omega))) ?_
          go_frame
          refine wpList_nil ?_
          go_upto_region 14 with (fail)
          refine wp_region_y (zs := [18]) (S := fun w' => Below w.heap.size w w' ∧ At w' we.heap.size (.cells (u8s (qs[t])) 61 (0, 0)) ∧ At w' w.heap.size (.cells #[.int .i64 p, .int .i64 n0, .int .i64 n1, .int .i64 n2, .slice (some ⟨b, off, none⟩) qs.length c] 33 (0, 0))) (S2 := fun w' => At w' Wz14.heap.size (.cells (iar (mixI NEW OLD k)) 2 (0, 0))) (by kernel_rfl) ?_
          change wpAnyY _ _ _ _ _ _ _ _ _ _ (World.drew _)
          generalize hwdz45 : World.drew _ = wdz45
          replace hB : Below w.heap.size w wdz45 := by rw [← hwdz45]; exact hB.drew
          replace h0 : At wdz45 w.heap.size (.cells #[.int .i64 p, .int .i64 n0, .int .i64 n1, .int .i64 n2, .slice (some ⟨b, off, none⟩) qs.length c] 33 (0, 0)) := by rw [← hwdz45]; exact h0
          replace hL : At wdz45 Wz14.heap.size (.cells (iar (mixI NEW OLD k)) 2 (0, 0)) := by rw [← hwdz45]; exact hL
          replace hqb : At wdz45 we.heap.size (.cells (u8s (qs[t])) 61 (0, 0)) := by rw [← hwdz45]; exact hqb
          clear hwdz45
          refine y_yield 0 (some 67) (.slice (some ⟨Wz14.heap.size, 0, none⟩) n2 n2) rfl (by kernel_rfl) (by kernel_rfl) (by kernel_rfl) (fun _ _ _ h => h) rfl rfl ⟨hB, hqb, h0⟩ (fun w' h' => exec_move _ rfl (.slice (some ⟨Wz14.heap.size, 0, none⟩) n2 n2) rfl) ?_
          go_frame
          refine y_yield 1 (some 68) (.int .i64 k) rfl (by kernel_rfl) (by kernel_rfl) (by kernel_rfl) (fun _ _ _ h => h) rfl rfl ⟨hB, hqb, h0⟩ (fun w' h' => exec_move _ rfl (.int .i64 k) rfl) ?_
          go_frame
          refine y_yield 2 (some 69) (.slice (some ⟨Wz14.heap.size, 0, none⟩) n2 n2) rfl (by kernel_rfl) (by kernel_rfl) (by kernel_rfl) (fun _ _ _ h => h) rfl rfl ⟨hB, hqb, h0⟩ (fun w' h' => exec_move _ rfl (.slice (some ⟨Wz14.heap.size, 0, none⟩) n2 n2) rfl) ?_
          go_frame
          refine y_yield 3 (some 70) (.int .i64 k) rfl (by kernel_rfl) (by kernel_rfl) (by kernel_rfl) (fun _ _ _ h => h) rfl rfl ⟨hB, hqb, h0⟩ (fun w' h' => exec_move _ rfl (.int .i64 k) rfl) ?_
          go_frame
          refine y_yield 4 (some 71) (.pointer (some ⟨Wz14.heap.size, k * 1, none⟩)) rfl (by kernel_rfl) (by kernel_rfl) (by kernel_rfl) (fun _ _ _ h => h) rfl rfl ⟨hB, hqb, h0⟩ (fun w' h' => exec_ix0 _ 2 _ _ rfl Wz14.heap.size n2 n2 k 1 rfl rfl Try.underlying26 (by kernel_rfl) (by omega)) ?_
          go_frame
          refine y_yield2 5 (some 72) (.int .i64 V) rfl (by kernel_rfl) (by kernel_rfl) (by kernel_rfl) (by kernel_rfl) (fun _ _ _ h => h) rfl rfl ⟨hB, hqb, h0⟩ hL (fun w' h' h2' => exec_load_one 2 _ rfl Wz14.heap.size (k * 1) rfl (.int .i64 V) _ Try.underlying2 rfl (cell_iar h2' HVo.out)) ?_
          go_frame
          refine y_yield 6 (some 73) (.int .i64 k) rfl (by kernel_rfl) (by kernel_rfl) (by kernel_rfl) (fun _ _ _ h => h) rfl rfl ⟨hB, hqb, h0⟩ (fun w' h' => exec_move _ rfl (.int .i64 k) rfl) ?_
          go_frame
          refine y_yield 7 (some 74) (.pointer (some ⟨we.heap.size, 18, none⟩)) rfl (by kernel_rfl) (by kernel_rfl) (by kernel_rfl) (fun _ _ _ h => h) rfl rfl ⟨hB, hqb, h0⟩ (fun w' h' => exec_fieldAddr 61 _ 2 rfl _ (by kernel_rfl)) ?_
          go_frame
          refine y_yield 8 (some 75) (.pointer (some ⟨we.heap.size, 18 + k * 1, none⟩)) rfl (by kernel_rfl) (by kernel_rfl) (by kernel_rfl) (fun _ _ _ h => h) rfl rfl ⟨hB, hqb, h0⟩ (fun w' h' => exec_index_arr 59 5 _ _ rfl we.heap.size 18 9 k 1 rfl rfl Try.underlying59 (by kernel_rfl) hk9) ?_
          go_frame
          refine y_yield 9 (some 76) (.int .u8 C1) rfl (by kernel_rfl) (by kernel_rfl) (by kernel_rfl) (fun _ _ _ h => h) rfl rfl ⟨hB, hqb, h0⟩ (fun w' h' => exec_load_one 5 _ rfl we.heap.size (18 + k * 1) rfl (.int .u8 C1) _ Try.underlying5 rfl (cell_u8 h'.2.1 (by rw [Hq27.out]; omega) HC1.out)) ?_
          go_frame
          refine y_yield 10 (some 77) (.int .i64 C1) rfl (by kernel_rfl) (by kernel_rfl) (by kernel_rfl) (fun _ _ _ h => h) rfl rfl ⟨hB, hqb, h0⟩ (fun w' h' => exec_conv _ rfl C1 rfl hC256) ?_
          go_frame
          refine y_yield 11 (some 78) (.int .i64 SVV) rfl (by kernel_rfl) (by kernel_rfl) (by kernel_rfl) (fun _ _ _ h => h) rfl rfl ⟨hB, hqb, h0⟩ (fun w' h' => exec_move _ rfl (.int .i64 SVV) rfl) ?_
          go_frame
          refine y_yield 12 (some 79) (.int .i64 CS) rfl (by kernel_rfl) (by kernel_rfl) (by kernel_rfl) (fun _ _ _ h => h) rfl rfl ⟨hB, hqb, h0⟩ (fun w' h' => exec_mul _ _ _ _ rfl C1 SVV CS rfl rfl HCS.out) ?_
          go_frame
          refine y_yield 13 (some 80) (.int .i64 V2) rfl (by kernel_rfl) (by kernel_rfl) (by kernel_rfl) (fun _ _ _ h => h) rfl rfl ⟨hB, hqb, h0⟩ (fun w' h' => exec_add _ _ _ _ rfl V CS V2 rfl rfl HV2.out) ?_
          go_frame
          refine y_yield 14 (some 81) (.pointer (some ⟨w.heap.size, 0, none⟩)) rfl (by kernel_rfl) (by kernel_rfl) (by kernel_rfl) (fun _ _ _ h => h) rfl rfl ⟨hB, hqb, h0⟩ (fun w' h' => exec_fieldAddr 33 _ 0 rfl _ (by kernel_rfl)) ?_
          go_frame
          refine y_yield 15 (some 82) (.int .i64 p) rfl (by kernel_rfl) (by kernel_rfl) (by kernel_rfl) (fun _ _ _ h => h) rfl rfl ⟨hB, hqb, h0⟩ (fun w' h' => exec_load_one 2 _ rfl w.heap.size 0 rfl (.int .i64 p) _ Try.underlying2 rfl (h'.2.2.at_ 0)) ?_
          go_frame
          refine y_yield 16 (some 83) (.int .i64 NV) rfl (by kernel_rfl) (by kernel_rfl) (by kernel_rfl) (fun _ _ _ h => h) rfl rfl ⟨hB, hqb, h0⟩ (fun w' h' => exec_rem _ _ _ _ rfl V2 p NV rfl rfl hP0 HNV.out) ?_
          go_frame
          refine y_yield 17 (some 84) (.pointer (some ⟨Wz14.heap.size, k * 1, none⟩)) rfl (by kernel_rfl) (by kernel_rfl) (by kernel_rfl) (fun _ _ _ h => h) rfl rfl ⟨hB, hqb, h0⟩ (fun w' h' => exec_ix0 _ 2 _ _ rfl Wz14.heap.size n2 n2 k 1 rfl rfl Try.underlying26 (by kernel_rfl) (by omega)) ?_
          go_frame
          refine y_oper 18 (by kernel_rfl) rfl rfl (fun K' hK' => ?_)
          refine wp_store_one 2 _ _ rfl rfl Wz14.heap.size (k * 1) rfl (.int .i64 NV) rfl rfl rfl _ _ hL (by kernel_rfl) (by rw [iar_size, HLen.out]; omega) (fun Wz46 pz47 => ?_)
          replace hB := pz47.below hB (by omega)
          replace h0 := pz47.other h0 (by omega)
          replace hqb := pz47.other hqb (by omega)
          replace hL : At Wz46 Wz14.heap.size (.cells (iar (mixI NEW OLD (k + 1))) 2 (0, 0)) := by have h9 := pz47.at_; rwa [Nat.mul_one, iar_set, HSet.out] at h9
          refine hK' _ _ ⟨hB, hqb, h0⟩ (fun h => absurd (by decide) h) ?_
          clear hK' K' pz47
          refine y_done (by kernel_rfl) ?_ _
          go_upto_region 13 with (fail)
          refine wp_region_lit ?_
          refine ls_ex (some 65) (.int .i64 k) rfl rfl (exec_move _ rfl (.int .i64 k) rfl) ?_
          go_frame
          refine ls_ex (some 66) (.int .i64 (k + 1)) rfl rfl (exec_add _ _ _ _ rfl k 1 (k + 1) rfl rfl (IntWalk.i64_in _ (by omega))) ?_
          go_frame
          refine ls_ex (some 12) (.int .i64 (k + 1)) rfl rfl (exec_assign _ rfl (.int .i64 (k + 1)) rfl) ?_
          go_frame
          refine wpList_nil ?_
          go_wp2_with fail
          go_roundw
          case rel => exact ⟨k + 1, by omega, by go_num, hB, h0, hL, hqb⟩
          case measure => simp [intOf]; omega
        · have HE9 : Hid (mixI NEW OLD k = mlL p n2 us vs qs (t + 1)) := Lib.hid (by rw [show k = n2 by omega, mixI_all HN1.out HN2.out, HNEW.out])
          rw [HE9.out] at hL
          go_upto_region 12 with (fail)
          refine wp_region_lit ?_
          refine ls_ex (some 61) (.int .i64 k) rfl rfl (exec_move _ rfl (.int .i64 k) rfl) ?_
          go_frame
          refine ls_ex (some 62) (.pointer (some ⟨w.heap.size, 3, none⟩)) rfl rfl (exec_fieldAddr 33 _ 3 rfl _ (by kernel_rfl)) ?_
          go_frame
          refine ls_ex (some 63) (.int .i64 n2) rfl rfl (exec_load_one 2 _ rfl w.heap.size 3 rfl (.int .i64 n2) _ Try.underlying2 rfl (h0.at_ 3)) ?_
          go_frame
          refine ls_ex (some 64) (.bool false) rfl rfl (exec_lss _ _ _ _ rfl k n2 rfl rfl false (decide_eq_false (by omega))) ?_
          go_frame
          refine wpList_nil ?_
          go_upto_region 8 with (fail)
          refine wp_region_lit ?_
          refine ls_ex (some 42) (.int .i64 t) rfl rfl (exec_move _ rfl (.int .i64 t) rfl) ?_
          go_frame
          refine ls_ex (some 43) (.int .i64 (t + 1)) rfl rfl (exec_add _ _ _ _ rfl t 1 (t + 1) rfl rfl (IntWalk.i64_in _ (by omega))) ?_
          go_frame
          refine ls_ex (some 9) (.int .i64 (t + 1)) rfl rfl (exec_assign _ rfl (.int .i64 (t + 1)) rfl) ?_
          go_frame
          refine wpList_nil ?_
          go_wp2_with fail
          go_roundw
          case rel => exact ⟨t + 1, by omega, by go_num, hB, h0, hL⟩
          case measure => simp [intOf]; omega
    · have HE : Hid (mlL p n2 us vs qs (t) = mlL p n2 us vs qs (qs.length)) := Lib.hid (by rw [show t = qs.length by omega])
      rw [HE.out] at hL
      go_upto_region 7 with (fail)
      refine wp_region_lit ?_
      refine ls_ex (some 37) (.int .i64 t) rfl rfl (exec_move _ rfl (.int .i64 t) rfl) ?_
      go_frame
      refine ls_ex (some 38) (.pointer (some ⟨w.heap.size, 4, none⟩)) rfl rfl (exec_fieldAddr 33 _ 4 rfl _ (by kernel_rfl)) ?_
      go_frame
      refine ls_ex (some 39) (.slice A qs.length c) rfl rfl (exec_load_one 31 _ rfl w.heap.size 4 rfl (.slice A qs.length c) _ Try.underlying31 rfl (h0.at_ 4)) ?_
      go_frame
      refine ls_ex (some 40) (.int .i64 qs.length) rfl rfl (exec_len _ 31 61 rfl A qs.length c rfl Try.underlying31) ?_
      go_frame
      refine ls_ex (some 41) (.bool false) rfl rfl (exec_lss _ _ _ _ rfl t qs.length rfl rfl false (decide_eq_false (by omega))) ?_
      go_frame
      refine wpList_nil ?_
      go_upto_region 15 with (fail)
      refine wp_region_lit ?_
      refine ls_ex (some 85) (.slice (some ⟨Wz14.heap.size, 0, none⟩) n2 n2) rfl rfl (exec_move _ rfl (.slice (some ⟨Wz14.heap.size, 0, none⟩) n2 n2) rfl) ?_
      go_frame
      refine ls_ex (some 6) (.slice (some ⟨Wz14.heap.size, 0, none⟩) n2 n2) rfl rfl (exec_assign _ rfl (.slice (some ⟨Wz14.heap.size, 0, none⟩) n2 n2) rfl) ?_
      go_frame
      refine ls_ex (some 7) (.int .i64 0) rfl rfl (exec_assign _ rfl (.int .i64 0) rfl) ?_
      go_frame
      refine wpList_nil ?_
      go_wp2_with fail
      go_ret2
      exact ⟨_, by rw [HC.out]; rfl, by rw [HR.out]; exact (HOw.out _ _ hL).mono (by omega), hB⟩
set_option maxHeartbeats 25600000 in
theorem methodMakes_c (p : Int) (n0 n1 n2 : Nat) (A : Option Addr) (c : Nat) (qs : List (List Nat)) (Bu : Option Addr) (cu : Nat) (us : List Int) (Bv : Option Addr) (cv : Nat) (vs : List Int) (w : World) (hR : Rd w A qs) (hlen : qs.length ≤ 1048576) (hU : RdI w Bu us) (hul : us.length ≤ 1048576) (hV : RdI w Bv vs) (hvl : vs.length ≤ 1048576) (hs : methB p n0 n1 n2 qs = true) (hu : listB p n0 us = true) (hv : listB p n1 vs = true) :
    Calls Try.prog 94 #[.agg #[.int .i64 p, .int .i64 n0, .int .i64 n1, .int .i64 n2, .slice A qs.length c], .slice Bu us.length cu, .slice Bv vs.length cv] w (fun e w' => ∃ v, e = .returned v ∧ OwnI w' w.heap.size v (mlL p n2 us vs qs qs.length) ∧ Below w.heap.size w w') := by
  have hB := Below.refl w.heap.size w
  have _u0 := hul
  have _u1 := hvl
  clear _u0 _u1
  have hp5a := prime_le5 (methB_parts hs).1
  have hp5 : 2 ≤ p ∧ p ≤ 5 := by omega
  have l0 : 1 ≤ n0 ∧ n0 ≤ 9 := by have := (methB_parts hs).2.1; simp only [sideB, Bool.and_eq_true, decide_eq_true_eq] at this; omega
  have l1 : 1 ≤ n1 ∧ n1 ≤ 9 := by have := (methB_parts hs).2.2.1; simp only [sideB, Bool.and_eq_true, decide_eq_true_eq] at this; omega
  have l2 : 1 ≤ n2 ∧ n2 ≤ 9 := by have := (methB_parts hs).2.2.2.1; simp only [sideB, Bool.and_eq_true, decide_eq_true_eq] at this; omega
  have hlu : us.length = n0 ∧ numsB p us = true := by simp only [listB, Bool.and_eq_true, decide_eq_true_eq] at hu; exact ⟨by omega, hu.2⟩
  have hlv : vs.length = n1 ∧ numsB p vs = true := by simp only [listB, Bool.and_eq_true, decide_eq_true_eq] at hv; exact ⟨by omega, hv.2⟩
  obtain ⟨hul0, hnu⟩ := hlu
  obtain ⟨hvl1, hnv⟩ := hlv
  have hula : us.length ≤ n0 ∧ n0 ≤ us.length := by omega
  have hvla : vs.length ≤ n1 ∧ n1 ≤ vs.length := by omega
  have HNu := Lib.hid hnu
  have HNv := Lib.hid hnv
  have HOw : Hid (∀ (g : Nat) (W : World), At W g (.cells (iar (mlL p n2 us vs qs qs.length)) 2 (0, 0)) → OwnI W g (.slice (some ⟨g, 0, none⟩) n2 n2) (mlL p n2 us vs qs qs.length)) := Lib.hid (fun g W h => by have h9 := OwnI.of_at h (Nat.le_refl g) (by rw [mlL_len]; omega); rwa [mlL_len] at h9)
  clear hs hu hv hul0 hvl1 hnu hnv hp5a
  go_enter Try.func94, Try.ntmps94
  go_upto_region 0 with (fail)
  refine wp_region_lit ?_
  refine ls_op rfl (fun K' hK' => ?_)
  have lz1 := hB.size
  refine wp_new (some 3) rfl (exec_box 33 _ rfl (#[.int .i64 p, .int .i64 n0, .int .i64 n1, .int .i64 n2, .slice A qs.length c]) rfl) (fun Wz2 nnz3 => ?_)
  have bz4 := nnz3.below (Below.refl _ _) (Nat.le_refl _)
  replace hB := below_after hB bz4
  have hz5 : At Wz2 w.heap.size (.cells #[.int .i64 p, .int .i64 n0, .int .i64 n1, .int .i64 n2, .slice A qs.length c] 33 (0, 0)) := nnz3.at_
  refine hK' _ _ ?_
  clear hK' K' nnz3 bz4
  go_frame
  refine ls_ex (some 6) (.slice none 0 0) rfl rfl (exec_assign _ rfl (.slice none 0 0) rfl) ?_
  go_frame
  refine wpList_nil ?_
  go_upto_region 1 with (fail)
  refine wp_region_lit ?_
  refine ls_ex (some 12) (.pointer (some ⟨w.heap.size, 3, none⟩)) rfl rfl (exec_fieldAddr 33 _ 3 rfl _ (by kernel_rfl)) ?_
  go_frame
  refine ls_ex (some 13) (.int .i64 n2) rfl rfl (exec_load_one 2 _ rfl w.heap.size 3 rfl (.int .i64 n2) _ Try.underlying2 rfl (hz5.at_ 3)) ?_
  go_frame
  refine ls_op rfl (fun K' hK' => ?_)
  have lz9 := hB.size
  have lz10 := hz5.lt
  refine wp_make_I (some 14) rfl _ _ rfl n2 rfl rfl (by omega) (fun Wz6 nnz7 => ?_)
  have bz8 := nnz7.below (Below.refl _ _) (Nat.le_refl _)
  replace hB := below_after hB bz8
  replace hz5 := hz5.after bz8
  have hL : At Wz6 Wz2.heap.size (.cells (iar (List.replicate n2 0)) 2 (0, 0)) := nnz7.at_
  refine hK' _ _ ?_
  clear hK' K' nnz7 bz8
  go_frame
  refine ls_ex (some 7) (.slice (some ⟨Wz2.heap.size, 0, none⟩) n2 n2) rfl rfl (exec_assign _ rfl (.slice (some ⟨Wz2.heap.size, 0, none⟩) n2 n2) rfl) ?_
  go_frame
  refine wpList_nil ?_
  go_upto_region 2 with (fail)
  refine wp_region_lit ?_
  refine ls_ex (some 15) (.pointer (some ⟨w.heap.size, 4, none⟩)) rfl rfl (exec_fieldAddr 33 _ 4 rfl _ (by kernel_rfl)) ?_
  go_frame
  refine ls_ex (some 16) (.slice A qs.length c) rfl rfl (exec_load_one 31 _ rfl w.heap.size 4 rfl (.slice A qs.length c) _ Try.underlying31 rfl (hz5.at_ 4)) ?_
  go_frame
  refine ls_ex (some 17) (.int .i64 qs.length) rfl rfl (exec_len _ 31 61 rfl A qs.length c rfl Try.underlying31) ?_
  go_frame
  refine ls_ex (some 18) (.int .i64 0) rfl rfl (exec_move _ rfl (.int .i64 0) rfl) ?_
  go_frame
  refine wpList_nil ?_
  go_wp2_with fail
  go_loopw [18] (fun s18 wr => ∃ t : Nat, t ≤ qs.length ∧ s18 = .int .i64 t ∧ Below w.heap.size w wr ∧ At wr w.heap.size (.cells #[.int .i64 p, .int .i64 n0, .int .i64 n1, .int .i64 n2, .slice A qs.length c] 33 (0, 0)) ∧ At wr Wz2.heap.size (.cells (iar (mlL p n2 us vs qs (t))) 2 (0, 0))) (fun s18 _ => qs.length - (intOf s18).toNat)
  case atStart => exact ⟨0, by omega, rfl, hB, hz5, by rw [mlL_zero]; exact hL⟩
  case round =>
    clear hB hz5 hL
    obtain ⟨t, ht, rfl, hB, h0, hL⟩ := hrel
    by_cases hlt : t < qs.length
    · obtain ⟨b, off, rfl, hc⟩ := (hR.keep hB).at_ hlt
      clear hc
      have hq := hR.good _ (List.getElem_mem hlt)
      have Hq27 := Lib.hid hq.len
      obtain ⟨OLD, hOLD⟩ : ∃ l, mlL p n2 us vs qs (t) = l := ⟨_, rfl⟩
      obtain ⟨NEW, hNEW⟩ : ∃ l, mlL p n2 us vs qs (t + 1) = l := ⟨_, rfl⟩
      have HN1 : Hid (NEW.length = n2) := Lib.hid (by rw [← hNEW, mlL_len])
      have HN2 : Hid (OLD.length = n2) := Lib.hid (by rw [← hOLD, mlL_len])
      have HOLD := Lib.hid hOLD
      have HNEW := Lib.hid hNEW
      clear hOLD hNEW
      have hs1 := sumF_b (segm_bytes hq (show 0 + 9 ≤ 27 by omega)) HNu.out hp5.2 us.length
      have hs2 := sumF_b (segm_bytes hq (show 9 + 9 ≤ 27 by omega)) HNv.out hp5.2 vs.length
      obtain ⟨S1, hS1⟩ : ∃ s : Int, sumF (segm qs[t] 0 9) us us.length = s := ⟨_, rfl⟩
      obtain ⟨S2, hS2⟩ : ∃ s : Int, sumF (segm qs[t] 9 9) vs vs.length = s := ⟨_, rfl⟩
      obtain ⟨SS, hSS⟩ : ∃ s : Int, S1 * S2 = s := ⟨_, rfl⟩
      rw [hS1] at hs1
      rw [hS2] at hs2
      have hSp := mulB 11520 11520 (a := S1) (b := S2) ⟨hs1.1, by omega⟩ ⟨hs2.1, by omega⟩
      rw [hSS] at hSp
      have HS1 := Lib.hid hS1
      have HS2 := Lib.hid hS2
      have HSS : Hid (IntKind.i64.wrap (S1 * S2) = SS) := Lib.hid (by rw [hSS]; exact IntWalk.i64_in _ (by omega))
      have hSb : 0 ≤ SS ∧ SS ≤ 200000000 := by omega
      have HSVV : Hid (prS p qs[t] us vs = SS % p) := Lib.hid (by unfold prS; rw [hS1, hS2, hSS])
      clear hS1 hS2 hSS
      go_upto_region 3 with (fail)
      refine wp_region_lit ?_
      refine ls_ex (some 19) (.bool true) rfl rfl (exec_lss _ _ _ _ rfl t qs.length rfl rfl true (decide_eq_true (by omega))) ?_
      go_frame
      refine wpList_nil ?_
      go_upto_region 4 with (fail)
      refine wp_region_lit ?_
      refine ls_ex (some 20) (.pointer (some ⟨b, off + t * 27, none⟩)) rfl rfl (exec_index_slice _ 61 _ _ rfl b off qs.length c t 27 rfl rfl Try.underlying31 (by kernel_rfl) (by omega)) ?_
      go_frame
      refine ls_ex (some 21) (.agg (u8s (qs[t]))) rfl rfl (exec_load_cells 61 _ rfl b (off + t * 27) rfl (qs[t]) _ 27 (Rd.c27m (hR.keep hB) hlt) Try.underlying61 rfl (by kernel_rfl) (Hq27.out)) ?_
      go_frame
      refine ls_op rfl (fun K' hK' => ?_)
      have lz11 := hB.size
      have lz12 := h0.lt
      have lz13 := hL.lt
      refine wp_new (some 9) rfl (al_impl_Product rfl) (fun Wz14 nnz15 => ?_)
      have bz16 := nnz15.below (Below.refl _ _) (Nat.le_refl _)
      replace hB := below_after hB bz16
      replace h0 := h0.after bz16
      replace hL := hL.after bz16
      have hz17 : At Wz14 wr.heap.size (.cells (u8s (List.replicate 27 0)) 61 (0, 0)) := nnz15.at_
      refine hK' _ _ ?_
      clear hK' K' nnz15 bz16
      go_frame
      refine ls_op rfl (fun K' hK' => ?_)
      refine wp_store_bytes 61 _ _ rfl rfl wr.heap.size rfl (qs[t]) rfl _ _ hz17 27 (by kernel_rfl) Hq27.out (by simp) (fun Wz18 pz19 => ?_)
      replace hB := pz19.below hB (by omega)
      replace h0 := pz19.other h0 (by omega)
      replace hL := pz19.other hL (by omega)
      replace hz17 : At Wz18 wr.heap.size (.cells (u8s (qs[t])) 61 (0, 0)) := pz19.at_
      refine hK' _ _ ?_
      clear hK' K' pz19
      refine wpList_nil ?_
      go_upto_region 5 with (fail)
      obtain ⟨we, rfl⟩ : ∃ x : World, x = wr := ⟨_, rfl⟩
      go_cut [10, 18] from 18 to 57 (fun s10 s18 wx => s10 = .int .i64 SS ∧ s18 = .int .i64 t ∧ Below w.heap.size w wx ∧ At wx w.heap.size (.cells #[.int .i64 p, .int .i64 n0, .int .i64 n1, .int .i64 n2, .slice (some ⟨b, off, none⟩) qs.length c] 33 (0, 0)) ∧ At wx Wz2.heap.size (.cells (iar (mlL p n2 us vs qs (t))) 2 (0, 0)) ∧ At wx we.heap.size (.cells (u8s (qs[t])) 61 (0, 0)))
      case first =>
        refine wp_region_y (zs := []) (S := fun w' => Below w.heap.size w w' ∧ At w' we.heap.size (.cells (u8s (qs[t])) 61 (0, 0))) (S2 := fun w' => True) (by kernel_rfl) ?_
        change wpAnyY _ _ _ _ _ _ _ _ _ _ (World.drew _)
        generalize hwdz20 : World.drew _ = wdz20
        replace hB : Below w.heap.size w wdz20 := by rw [← hwdz20]; exact hB.drew
        replace h0 : At wdz20 w.heap.size (.cells #[.int .i64 p, .int .i64 n0, .int .i64 n1, .int .i64 n2, .slice (some ⟨b, off, none⟩) qs.length c] 33 (0, 0)) := by rw [← hwdz20]; exact h0
        replace hL : At wdz20 Wz2.heap.size (.cells (iar (mlL p n2 us vs qs (t))) 2 (0, 0)) := by rw [← hwdz20]; exact hL
        replace hz17 : At wdz20 we.heap.size (.cells (u8s (qs[t])) 61 (0, 0)) := by rw [← hwdz20]; exact hz17
        clear hwdz20
        refine y_yield 0 (some 22) (.pointer (some ⟨we.heap.size, 0, none⟩)) rfl (by kernel_rfl) (by kernel_rfl) (by kernel_rfl) (fun _ _ _ h => h) rfl rfl ⟨hB, hz17⟩ (fun w' h' => exec_fieldAddr 61 _ 0 rfl _ (by kernel_rfl)) ?_
        go_frame
        refine y_yield 1 (some 23) (.agg (u8s (segm qs[t] 0 9))) rfl (by kernel_rfl) (by kernel_rfl) (by kernel_rfl) (fun _ _ _ h => h) rfl rfl ⟨hB, hz17⟩ (fun w' h' => exec_load_seg 59 _ rfl we.heap.size (0) rfl _ (qs[t]) _ 9 h'.2 Try.underlying59 rfl (by kernel_rfl) (by rw [Hq27.out]; omega) (segm qs[t] 0 9) rfl) ?_
        go_frame
        refine y_yield 2 (some 24) (.slice Bu us.length cu) rfl (by kernel_rfl) (by kernel_rfl) (by kernel_rfl) (fun _ _ _ h => h) rfl rfl ⟨hB, hz17⟩ (fun w' h' => exec_move _ rfl (.slice Bu us.length cu) rfl) ?_
        go_frame
        refine y_yield 5 (some 27) (.pointer (some ⟨we.heap.size, 9, none⟩)) rfl (by kernel_rfl) (by kernel_rfl) (by kernel_rfl) (fun _ _ _ h => h) rfl rfl ⟨hB, hz17⟩ (fun w' h' => exec_fieldAddr 61 _ 1 rfl _ (by kernel_rfl)) ?_
        go_frame
        refine y_yield 6 (some 28) (.agg (u8s (segm qs[t] 9 9))) rfl (by kernel_rfl) (by kernel_rfl) (by kernel_rfl) (fun _ _ _ h => h) rfl rfl ⟨hB, hz17⟩ (fun w' h' => exec_load_seg 59 _ rfl we.heap.size (9) rfl _ (qs[t]) _ 9 h'.2 Try.underlying59 rfl (by kernel_rfl) (by rw [Hq27.out]; omega) (segm qs[t] 9 9) rfl) ?_
        go_frame
        refine y_yield 7 (some 29) (.slice Bv vs.length cv) rfl (by kernel_rfl) (by kernel_rfl) (by kernel_rfl) (fun _ _ _ h => h) rfl rfl ⟨hB, hz17⟩ (fun w' h' => exec_move _ rfl (.slice Bv vs.length cv) rfl) ?_
        go_frame
        refine y_two 3 8 (by kernel_rfl) rfl rfl rfl rfl (fun K' hK' => ?_) (fun K' hK' => ?_)
        · have lz21 := hB.size
          have lz22 := h0.lt
          have lz23 := hL.lt
          have lz24 := hz17.lt
          refine wp_new (some 25) rfl (exec_buildRowM _ rfl Bu us.length cu rfl) (fun Wz25 nnz26 => ?_)
          have bz27 := nnz26.below (Below.refl _ _) (Nat.le_refl _)
          replace hB := below_after hB bz27
          replace h0 := h0.after bz27
          replace hL := hL.after bz27
          replace hz17 := hz17.after bz27
          have hz28 : At Wz25 wdz20.heap.size (.cells #[.slice Bu us.length cu] 26 (0, 0)) := nnz26.at_
          refine hK' _ _ ⟨hB, hz17⟩ (fun _ => trivial) ?_
          clear hK' K' nnz26 bz27
          go_frame
          refine y_two 4 8 (by kernel_rfl) rfl rfl rfl rfl (fun K' hK' => ?_) (fun K' hK' => ?_)
          · have lz31 := hB.size
            have lz32 := h0.lt
            have lz33 := hL.lt
            have lz34 := hz17.lt
            have lz35 := hz28.lt
            refine wp_call2 (some 26) rfl 96 _ _ _ rfl (fun args w => by kernel_rfl) _ _ rfl rfl _ (sumOf1_c (segm qs[t] 0 9) wdz20.heap.size Bu cu us p _ (segm_bytes hq (by omega)) hz28 (hU.keep hB) HNu.out hp5 (by omega) (by omega)) (fun e Wz29 h => ?_)
            obtain ⟨rfl, bz30⟩ := h
            replace hB := below_after hB bz30
            replace h0 := h0.after bz30
            replace hL := hL.after bz30
            replace hz17 := hz17.after bz30
            replace hz28 := hz28.after bz30
            rw [HS1.out]
            clear bz30
            refine ⟨_, rfl, ?_⟩
            refine hK' _ _ ⟨hB, hz17⟩ (fun _ => trivial) ?_
            clear hK' K'
            go_frame
            refine y_oper 8 (by kernel_rfl) rfl rfl (fun K' hK' => ?_)
            have lz36 := hB.size
            have lz37 := h0.lt
            have lz38 := hL.lt
            have lz39 := hz17.lt
            have lz40 := hz28.lt
            refine wp_new (some 30) rfl (exec_buildRowM _ rfl Bv vs.length cv rfl) (fun Wz41 nnz42 => ?_)
            have bz43 := nnz42.below (Below.refl _ _) (Nat.le_refl _)
            replace hB := below_after hB bz43
            replace h0 := h0.after bz43
            replace hL := hL.after bz43
            replace hz17 := hz17.after bz43
            replace hz28 := hz28.after bz43
            have hz44 : At Wz41 Wz29.heap.size (.cells #[.slice Bv vs.length cv] 26 (0, 0)) := nnz42.at_
            refine hK' _ _ ⟨hB, hz17⟩ (fun _ => trivial) ?_
            clear hK' K' nnz42 bz43
            go_frame
            refine y_oper 9 (by kernel_rfl) rfl rfl (fun K' hK' => ?_)
            have lz47 := hB.size
            have lz48 := h0.lt
            have lz49 := hL.lt
            have lz50 := hz17.lt
            have lz51 := hz28.lt
            have lz52 := hz44.lt
            refine wp_call2 (some 31) rfl 96 _ _ _ rfl (fun args w => by kernel_rfl) _ _ rfl rfl _ (sumOf1_c (segm qs[t] 9 9) Wz29.heap.size Bv cv vs p _ (segm_bytes hq (by omega)) hz44 (hV.keep hB) HNv.out hp5 (by omega) (by omega)) (fun e Wz45 h => ?_)
            obtain ⟨rfl, bz46⟩ := h
            replace hB := below_after hB bz46
            replace h0 := h0.after bz46
            replace hL := hL.after bz46
            replace hz17 := hz17.after bz46
            replace hz28 := hz28.after bz46
            replace hz44 := hz44.after bz46
            rw [HS2.out]
            clear bz46
            refine ⟨_, rfl, ?_⟩
            refine hK' _ _ ⟨hB, hz17⟩ (fun _ => trivial) ?_
            clear hK' K'
            go_frame
            refine y_yield 10 (some 32) (.int .i64 SS) rfl (by kernel_rfl) (by kernel_rfl) (by kernel_rfl) (fun _ _ _ h => h) rfl rfl ⟨hB, hz17⟩ (fun w' h' => exec_mul _ _ _ _ rfl S1 S2 SS rfl rfl HSS.out) ?_
            go_frame
            refine y_oper 11 (by kernel_rfl) rfl rfl (fun K' hK' => ?_)
            refine wp_exec (some 10) rfl (.int .i64 SS) (exec_assign _ rfl (.int .i64 SS) rfl) ?_
            refine hK' _ _ ⟨hB, hz17⟩ (fun _ => trivial) ?_
            clear hK' K'
            go_frame
            refine y_done (by kernel_rfl) ?_ _
            go_wp2_with fail
            go_meet
            exact ⟨rfl, rfl, hB, h0, hL, hz17⟩
          · have lz53 := hB.size
            have lz54 := h0.lt
            have lz55 := hL.lt
            have lz56 := hz17.lt
            have lz57 := hz28.lt
            refine wp_new (some 30) rfl (exec_buildRowM _ rfl Bv vs.length cv rfl) (fun Wz58 nnz59 => ?_)
            have bz60 := nnz59.below (Below.refl _ _) (Nat.le_refl _)
            replace hB := below_after hB bz60
            replace h0 := h0.after bz60
            replace hL := hL.after bz60
            replace hz17 := hz17.after bz60
            replace hz28 := hz28.after bz60
            have hz61 : At Wz58 Wz25.heap.size (.cells #[.slice Bv vs.length cv] 26 (0, 0)) := nnz59.at_
            refine hK' _ _ ⟨hB, hz17⟩ (fun _ => trivial) ?_
            clear hK' K' nnz59 bz60
            go_frame
            refine y_oper 4 (by kernel_rfl) rfl rfl (fun K' hK' => ?_)
            have lz64 := hB.size
            have lz65 := h0.lt
            have lz66 := hL.lt
            have lz67 := hz17.lt
            have lz68 := hz28.lt
            have lz69 := hz61.lt
            refine wp_call2 (some 26) rfl 96 _ _ _ rfl (fun args w => by kernel_rfl) _ _ rfl rfl _ (sumOf1_c (segm qs[t] 0 9) wdz20.heap.size Bu cu us p _ (segm_bytes hq (by omega)) hz28 (hU.keep hB) HNu.out hp5 (by omega) (by omega)) (fun e Wz62 h => ?_)
            obtain ⟨rfl, bz63⟩ := h
            replace hB := below_after hB bz63
            replace h0 := h0.after bz63
            replace hL := hL.after bz63
            replace hz17 := hz17.after bz63
            replace hz28 := hz28.after bz63
            replace hz61 := hz61.after bz63
            rw [HS1.out]
            clear bz63
            refine ⟨_, rfl, ?_⟩
            refine hK' _ _ ⟨hB, hz17⟩ (fun _ => trivial) ?_
            clear hK' K'
            go_frame
            refine y_oper 9 (by kernel_rfl) rfl rfl (fun K' hK' => ?_)
            have lz72 := hB.size
            have lz73 := h0.lt
            have lz74 := hL.lt
            have lz75 := hz17.lt
            have lz76 := hz28.lt
            have lz77 := hz61.lt
            refine wp_call2 (some 31) rfl 96 _ _ _ rfl (fun args w => by kernel_rfl) _ _ rfl rfl _ (sumOf1_c (segm qs[t] 9 9) Wz25.heap.size Bv cv vs p _ (segm_bytes hq (by omega)) hz61 (hV.keep hB) HNv.out hp5 (by omega) (by omega)) (fun e Wz70 h => ?_)
            obtain ⟨rfl, bz71⟩ := h
            replace hB := below_after hB bz71
            replace h0 := h0.after bz71
            replace hL := hL.after bz71
            replace hz17 := hz17.after bz71
            replace hz28 := hz28.after bz71
            replace hz61 := hz61.after bz71
            rw [HS2.out]
            clear bz71
            refine ⟨_, rfl, ?_⟩
            refine hK' _ _ ⟨hB, hz17⟩ (fun _ => trivial) ?_
            clear hK' K'
            go_frame
            refine y_yield 10 (some 32) (.int .i64 SS) rfl (by kernel_rfl) (by kernel_rfl) (by kernel_rfl) (fun _ _ _ h => h) rfl rfl ⟨hB, hz17⟩ (fun w' h' => exec_mul _ _ _ _ rfl S1 S2 SS rfl rfl HSS.out) ?_
            go_frame
            refine y_oper 11 (by kernel_rfl) rfl rfl (fun K' hK' => ?_)
            refine wp_exec (some 10) rfl (.int .i64 SS) (exec_assign _ rfl (.int .i64 SS) rfl) ?_
            refine hK' _ _ ⟨hB, hz17⟩ (fun _ => trivial) ?_
            clear hK' K'
            go_frame
            refine y_done (by kernel_rfl) ?_ _
            go_wp2_with fail
            go_meet
            exact ⟨rfl, rfl, hB, h0, hL, hz17⟩
        · have lz78 := hB.size
          have lz79 := h0.lt
          have lz80 := hL.lt
          have lz81 := hz17.lt
          refine wp_new (some 30) rfl (exec_buildRowM _ rfl Bv vs.length cv rfl) (fun Wz82 nnz83 => ?_)
          have bz84 := nnz83.below (Below.refl _ _) (Nat.le_refl _)
          replace hB := below_after hB bz84
          replace h0 := h0.after bz84
          replace hL := hL.after bz84
          replace hz17 := hz17.after bz84
          have hz85 : At Wz82 wdz20.heap.size (.cells #[.slice Bv vs.length cv] 26 (0, 0)) := nnz83.at_
          refine hK' _ _ ⟨hB, hz17⟩ (fun _ => trivial) ?_
          clear hK' K' nnz83 bz84
          go_frame
          refine y_oper 3 (by kernel_rfl) rfl rfl (fun K' hK' => ?_)
          have lz86 := hB.size
          have lz87 := h0.lt
          have lz88 := hL.lt
          have lz89 := hz17.lt
          have lz90 := hz85.lt
          refine wp_new (some 25) rfl (exec_buildRowM _ rfl Bu us.length cu rfl) (fun Wz91 nnz92 => ?_)
          have bz93 := nnz92.below (Below.refl _ _) (Nat.le_refl _)
          replace hB := below_after hB bz93
          replace h0 := h0.after bz93
          replace hL := hL.after bz93
          replace hz17 := hz17.after bz93
          replace hz85 := hz85.after bz93
          have hz94 : At Wz91 Wz82.heap.size (.cells #[.slice Bu us.length cu] 26 (0, 0)) := nnz92.at_
          refine hK' _ _ ⟨hB, hz17⟩ (fun _ => trivial) ?_
          clear hK' K' nnz92 bz93
          go_frame
          refine y_oper 4 (by kernel_rfl) rfl rfl (fun K' hK' => ?_)
          have lz97 := hB.size
          have lz98 := h0.lt
          have lz99 := hL.lt
          have lz100 := hz17.lt
          have lz101 := hz85.lt
          have lz102 := hz94.lt
          refine wp_call2 (some 26) rfl 96 _ _ _ rfl (fun args w => by kernel_rfl) _ _ rfl rfl _ (sumOf1_c (segm qs[t] 0 9) Wz82.heap.size Bu cu us p _ (segm_bytes hq (by omega)) hz94 (hU.keep hB) HNu.out hp5 (by omega) (by omega)) (fun e Wz95 h => ?_)
          obtain ⟨rfl, bz96⟩ := h
          replace hB := below_after hB bz96
          replace h0 := h0.after bz96
          replace hL := hL.after bz96
          replace hz17 := hz17.after bz96
          replace hz85 := hz85.after bz96
          replace hz94 := hz94.after bz96
          rw [HS1.out]
          clear bz96
          refine ⟨_, rfl, ?_⟩
          refine hK' _ _ ⟨hB, hz17⟩ (fun _ => trivial) ?_
          clear hK' K'
          go_frame
          refine y_oper 9 (by kernel_rfl) rfl rfl (fun K' hK' => ?_)
          have lz105 := hB.size
          have lz106 := h0.lt
          have lz107 := hL.lt
          have lz108 := hz17.lt
          have lz109 := hz85.lt
          have lz110 := hz94.lt
          refine wp_call2 (some 31) rfl 96 _ _ _ rfl (fun args w => by kernel_rfl) _ _ rfl rfl _ (sumOf1_c (segm qs[t] 9 9) wdz20.heap.size Bv cv vs p _ (segm_bytes hq (by omega)) hz85 (hV.keep hB) HNv.out hp5 (by omega) (by omega)) (fun e Wz103 h => ?_)
          obtain ⟨rfl, bz104⟩ := h
          replace hB := below_after hB bz104
          replace h0 := h0.after bz104
          replace hL := hL.after bz104
          replace hz17 := hz17.after bz104
          replace hz85 := hz85.after bz104
          replace hz94 := hz94.after bz104
          rw [HS2.out]
          clear bz104
          refine ⟨_, rfl, ?_⟩
          refine hK' _ _ ⟨hB, hz17⟩ (fun _ => trivial) ?_
          clear hK' K'
          go_frame
          refine y_yield 10 (some 32) (.int .i64 SS) rfl (by kernel_rfl) (by kernel_rfl) (by kernel_rfl) (fun _ _ _ h => h) rfl rfl ⟨hB, hz17⟩ (fun w' h' => exec_mul _ _ _ _ rfl S1 S2 SS rfl rfl HSS.out) ?_
          go_frame
          refine y_oper 11 (by kernel_rfl) rfl rfl (fun K' hK' => ?_)
          refine wp_exec (some 10) rfl (.int .i64 SS) (exec_assign _ rfl (.int .i64 SS) rfl) ?_
          refine hK' _ _ ⟨hB, hz17⟩ (fun _ => trivial) ?_
          clear hK' K'
          go_frame
          refine y_done (by kernel_rfl) ?_ _
          go_wp2_with fail
          go_meet
          exact ⟨rfl, rfl, hB, h0, hL, hz17⟩
      case rest =>
      clear hB h0 hL hz17
      obtain ⟨rfl, rfl, hB, h0, hL, hqb⟩ := hcut
      obtain ⟨wc, rfl⟩ := cut_world3 hB
      go_upto_region 6 with (fail)
      refine wp_region_lit ?_
      refine ls_ex (some 33) (.slice (some ⟨Wz2.heap.size, 0, none⟩) n2 n2) rfl rfl (exec_move _ rfl (.slice (some ⟨Wz2.heap.size, 0, none⟩) n2 n2) rfl) ?_
      go_frame
      refine ls_ex (some 34) (.int .i64 n2) rfl rfl (exec_len _ 26 2 rfl ((some ⟨Wz2.heap.size, 0, none⟩)) n2 n2 rfl Try.underlying26) ?_
      go_frame
      refine ls_ex (some 35) (.int .i64 0) rfl rfl (exec_move _ rfl (.int .i64 0) rfl) ?_
      go_frame
      refine wpList_nil ?_
      go_wp2_with fail
      skip
      go_loopw [35] (fun s35 wr => ∃ k : Nat, k ≤ n2 ∧ s35 = .int .i64 k ∧ Below w.heap.size w wr ∧ At wr w.heap.size (.cells #[.int .i64 p, .int .i64 n0, .int .i64 n1, .int .i64 n2, .slice (some ⟨b, off, none⟩) qs.length c] 33 (0, 0)) ∧ At wr Wz2.heap.size (.cells (iar (mixI NEW OLD k)) 2 (0, 0)) ∧ At wr we.heap.size (.cells (u8s (qs[t])) 61 (0, 0))) (fun s35 _ => n2 - (intOf s35).toNat)
      case atStart => exact ⟨0, by omega, rfl, hB, h0, by rw [mixI_zero, ← HOLD.out]; exact hL, hqb⟩
      case round =>
        clear hB h0 hL hqb
        obtain ⟨k, hk, rfl, hB, h0, hL, hqb⟩ := hrel
        by_cases hlt3 : k < n2
        · obtain ⟨C1, hC1⟩ : ∃ n : Nat, qs[t][18 + k]?.getD 0 = n := ⟨_, rfl⟩
          obtain ⟨V, hV⟩ : ∃ n : Int, mlN p us vs qs t k = n := ⟨_, rfl⟩
          obtain ⟨CS, hCS⟩ : ∃ n : Int, (C1 : Int) * SS = n := ⟨_, rfl⟩
          obtain ⟨V2, hV2⟩ : ∃ n : Int, V + CS = n := ⟨_, rfl⟩
          obtain ⟨NV, hNV⟩ : ∃ n : Int, V2 % p = n := ⟨_, rfl⟩
          have hC256 := hq.lt (18 + k)
          rw [hC1] at hC256
          have hVb : 0 ≤ V ∧ V ≤ 4 := by rw [← hV]; exact mlN_b hp5 _ _ _ _ _
          have hCSb := mulB 255 200000000 (a := (C1 : Int)) (b := SS) ⟨by omega, by omega⟩ ⟨hSb.1, by have := hSb.2; omega⟩
          rw [hCS] at hCSb
          have hk9 : k < 9 := by omega
          have HC1 := Lib.hid hC1
          have HCS : Hid (IntKind.i64.wrap ((C1 : Int) * SS) = CS) := Lib.hid (by rw [hCS]; exact IntWalk.i64_in _ (by omega))
          have HV2 : Hid (IntKind.i64.wrap (V + CS) = V2) := Lib.hid (by rw [hV2]; exact IntWalk.i64_in _ (by omega))
          have HNV : Hid (V2.tmod p = NV) := Lib.hid (by rw [← hNV]; exact Int.tmod_eq_emod_of_nonneg (by omega))
          have hP0 : p ≠ 0 := by omega
          have HVo : Hid ((mixI NEW OLD k)[k]? = some V) := Lib.hid (by rw [mixI_get HN1.out hlt3, ← HOLD.out, mlL_get _ _ _ _ _ _ hlt3, hV])
          have HSet : Hid ((mixI NEW OLD k).set k NV = mixI NEW OLD (k + 1)) := Lib.hid (mixI_set HN1.out HN2.out hlt3 (by rw [← HNEW.out, mlL_get _ _ _ _ _ _ hlt3, mlN_step hlt hC1, hV, HSVV.out, ml_mod, hCS, hV2, hNV]))
          have HLen : Hid ((mixI NEW OLD k).length = n2) := Lib.hid (mixI_len HN1.out HN2.out (by omega))
          clear hC1 hV hCS hV2 hNV
          go_upto_region 7 with (fail)
          refine wp_region_lit ?_
          refine ls_ex (some 36) (.bool true) rfl rfl (exec_lss _ _ _ _ rfl k n2 rfl rfl true (decide_eq_true (by omega))) ?_
          go_frame
          refine wpList_nil ?_
          go_upto_region 8 with (fail)
          refine wp_region_lit ?_
          refine ls_ex (some 37) (.int .i64 k) rfl rfl (exec_move _ rfl (.int .i64 k) rfl) ?_
          go_frame
          refine ls_ex (some 11) (.int .i64 k) rfl rfl (exec_assign _ rfl (.int .i64 k) rfl) ?_
          go_frame
          refine wpList_nil ?_
          go_upto_region 9 with (fail)
          refine wp_region_y (zs := [18]) (S := fun w' => Below w.heap.size w w' ∧ At w' we.heap.size (.cells (u8s (qs[t])) 61 (0, 0)) ∧ At w' w.heap.size (.cells #[.int .i64 p, .int .i64 n0, .int .i64 n1, .int .i64 n2, .slice (some ⟨b, off, none⟩) qs.length c] 33 (0, 0))) (S2 := fun w' => At w' Wz2.heap.size (.cells (iar (mixI NEW OLD k)) 2 (0, 0))) (by kernel_rfl) ?_
          change wpAnyY _ _ _ _ _ _ _ _ _ _ (World.drew _)
          generalize hwdz111 : World.drew _ = wdz111
          replace hB : Below w.heap.size w wdz111 := by rw [← hwdz111]; exact hB.drew
          replace h0 : At wdz111 w.heap.size (.cells #[.int .i64 p, .int .i64 n0, .int .i64 n1, .int .i64 n2, .slice (some ⟨b, off, none⟩) qs.length c] 33 (0, 0)) := by rw [← hwdz111]; exact h0
          replace hL : At wdz111 Wz2.heap.size (.cells (iar (mixI NEW OLD k)) 2 (0, 0)) := by rw [← hwdz111]; exact hL
          replace hqb : At wdz111 we.heap.size (.cells (u8s (qs[t])) 61 (0, 0)) := by rw [← hwdz111]; exact hqb
          clear hwdz111
          refine y_yield 0 (some 38) (.slice (some ⟨Wz2.heap.size, 0, none⟩) n2 n2) rfl (by kernel_rfl) (by kernel_rfl) (by kernel_rfl) (fun _ _ _ h => h) rfl rfl ⟨hB, hqb, h0⟩ (fun w' h' => exec_move _ rfl (.slice (some ⟨Wz2.heap.size, 0, none⟩) n2 n2) rfl) ?_
          go_frame
          refine y_yield 1 (some 39) (.int .i64 k) rfl (by kernel_rfl) (by kernel_rfl) (by kernel_rfl) (fun _ _ _ h => h) rfl rfl ⟨hB, hqb, h0⟩ (fun w' h' => exec_move _ rfl (.int .i64 k) rfl) ?_
          go_frame
          refine y_yield 2 (some 40) (.slice (some ⟨Wz2.heap.size, 0, none⟩) n2 n2) rfl (by kernel_rfl) (by kernel_rfl) (by kernel_rfl) (fun _ _ _ h => h) rfl rfl ⟨hB, hqb, h0⟩ (fun w' h' => exec_move _ rfl (.slice (some ⟨Wz2.heap.size, 0, none⟩) n2 n2) rfl) ?_
          go_frame
          refine y_yield 3 (some 41) (.int .i64 k) rfl (by kernel_rfl) (by kernel_rfl) (by kernel_rfl) (fun _ _ _ h => h) rfl rfl ⟨hB, hqb, h0⟩ (fun w' h' => exec_move _ rfl (.int .i64 k) rfl) ?_
          go_frame
          refine y_yield 4 (some 42) (.pointer (some ⟨Wz2.heap.size, k * 1, none⟩)) rfl (by kernel_rfl) (by kernel_rfl) (by kernel_rfl) (fun _ _ _ h => h) rfl rfl ⟨hB, hqb, h0⟩ (fun w' h' => exec_ix0 _ 2 _ _ rfl Wz2.heap.size n2 n2 k 1 rfl rfl Try.underlying26 (by kernel_rfl) (by omega)) ?_
          go_frame
          refine y_yield2 5 (some 43) (.int .i64 V) rfl (by kernel_rfl) (by kernel_rfl) (by kernel_rfl) (by kernel_rfl) (fun _ _ _ h => h) rfl rfl ⟨hB, hqb, h0⟩ hL (fun w' h' h2' => exec_load_one 2 _ rfl Wz2.heap.size (k * 1) rfl (.int .i64 V) _ Try.underlying2 rfl (cell_iar h2' HVo.out)) ?_
          go_frame
          refine y_yield 6 (some 44) (.int .i64 k) rfl (by kernel_rfl) (by kernel_rfl) (by kernel_rfl) (fun _ _ _ h => h) rfl rfl ⟨hB, hqb, h0⟩ (fun w' h' => exec_move _ rfl (.int .i64 k) rfl) ?_
          go_frame
          refine y_yield 7 (some 45) (.pointer (some ⟨we.heap.size, 18, none⟩)) rfl (by kernel_rfl) (by kernel_rfl) (by kernel_rfl) (fun _ _ _ h => h) rfl rfl ⟨hB, hqb, h0⟩ (fun w' h' => exec_fieldAddr 61 _ 2 rfl _ (by kernel_rfl)) ?_
          go_frame
          refine y_yield 8 (some 46) (.pointer (some ⟨we.heap.size, 18 + k * 1, none⟩)) rfl (by kernel_rfl) (by kernel_rfl) (by kernel_rfl) (fun _ _ _ h => h) rfl rfl ⟨hB, hqb, h0⟩ (fun w' h' => exec_index_arr 59 5 _ _ rfl we.heap.size 18 9 k 1 rfl rfl Try.underlying59 (by kernel_rfl) hk9) ?_
          go_frame
          refine y_yield 9 (some 47) (.int .u8 C1) rfl (by kernel_rfl) (by kernel_rfl) (by kernel_rfl) (fun _ _ _ h => h) rfl rfl ⟨hB, hqb, h0⟩ (fun w' h' => exec_load_one 5 _ rfl we.heap.size (18 + k * 1) rfl (.int .u8 C1) _ Try.underlying5 rfl (cell_u8 h'.2.1 (by rw [Hq27.out]; omega) HC1.out)) ?_
          go_frame
          refine y_yield 10 (some 48) (.int .i64 C1) rfl (by kernel_rfl) (by kernel_rfl) (by kernel_rfl) (fun _ _ _ h => h) rfl rfl ⟨hB, hqb, h0⟩ (fun w' h' => exec_conv _ rfl C1 rfl hC256) ?_
          go_frame
          refine y_yield 11 (some 49) (.int .i64 SS) rfl (by kernel_rfl) (by kernel_rfl) (by kernel_rfl) (fun _ _ _ h => h) rfl rfl ⟨hB, hqb, h0⟩ (fun w' h' => exec_move _ rfl (.int .i64 SS) rfl) ?_
          go_frame
          refine y_yield 12 (some 50) (.int .i64 CS) rfl (by kernel_rfl) (by kernel_rfl) (by kernel_rfl) (fun _ _ _ h => h) rfl rfl ⟨hB, hqb, h0⟩ (fun w' h' => exec_mul _ _ _ _ rfl C1 SS CS rfl rfl HCS.out) ?_
          go_frame
          refine y_yield 13 (some 51) (.int .i64 V2) rfl (by kernel_rfl) (by kernel_rfl) (by kernel_rfl) (fun _ _ _ h => h) rfl rfl ⟨hB, hqb, h0⟩ (fun w' h' => exec_add _ _ _ _ rfl V CS V2 rfl rfl HV2.out) ?_
          go_frame
          refine y_yield 14 (some 52) (.pointer (some ⟨w.heap.size, 0, none⟩)) rfl (by kernel_rfl) (by kernel_rfl) (by kernel_rfl) (fun _ _ _ h => h) rfl rfl ⟨hB, hqb, h0⟩ (fun w' h' => exec_fieldAddr 33 _ 0 rfl _ (by kernel_rfl)) ?_
          go_frame
          refine y_yield 15 (some 53) (.int .i64 p) rfl (by kernel_rfl) (by kernel_rfl) (by kernel_rfl) (fun _ _ _ h => h) rfl rfl ⟨hB, hqb, h0⟩ (fun w' h' => exec_load_one 2 _ rfl w.heap.size 0 rfl (.int .i64 p) _ Try.underlying2 rfl (h'.2.2.at_ 0)) ?_
          go_frame
          refine y_yield 16 (some 54) (.int .i64 NV) rfl (by kernel_rfl) (by kernel_rfl) (by kernel_rfl) (fun _ _ _ h => h) rfl rfl ⟨hB, hqb, h0⟩ (fun w' h' => exec_rem _ _ _ _ rfl V2 p NV rfl rfl hP0 HNV.out) ?_
          go_frame
          refine y_yield 17 (some 55) (.pointer (some ⟨Wz2.heap.size, k * 1, none⟩)) rfl (by kernel_rfl) (by kernel_rfl) (by kernel_rfl) (fun _ _ _ h => h) rfl rfl ⟨hB, hqb, h0⟩ (fun w' h' => exec_ix0 _ 2 _ _ rfl Wz2.heap.size n2 n2 k 1 rfl rfl Try.underlying26 (by kernel_rfl) (by omega)) ?_
          go_frame
          refine y_oper 18 (by kernel_rfl) rfl rfl (fun K' hK' => ?_)
          refine wp_store_one 2 _ _ rfl rfl Wz2.heap.size (k * 1) rfl (.int .i64 NV) rfl rfl rfl _ _ hL (by kernel_rfl) (by rw [iar_size, HLen.out]; omega) (fun Wz112 pz113 => ?_)
          replace hB := pz113.below hB (by omega)
          replace h0 := pz113.other h0 (by omega)
          replace hqb := pz113.other hqb (by omega)
          replace hL : At Wz112 Wz2.heap.size (.cells (iar (mixI NEW OLD (k + 1))) 2 (0, 0)) := by have h9 := pz113.at_; rwa [Nat.mul_one, iar_set, HSet.out] at h9
          refine hK' _ _ ⟨hB, hqb, h0⟩ (fun h => absurd (by decide) h) ?_
          clear hK' K' pz113
          refine y_done (by kernel_rfl) ?_ _
          go_upto_region 10 with (fail)
          refine wp_region_lit ?_
          refine ls_ex (some 56) (.int .i64 (k + 1)) rfl rfl (exec_add _ _ _ _ rfl k 1 (k + 1) rfl rfl (IntWalk.i64_in _ (by omega))) ?_
          go_frame
          refine ls_ex (some 35) (.int .i64 (k + 1)) rfl rfl (exec_move _ rfl (.int .i64 (k + 1)) rfl) ?_
          go_frame
          refine wpList_nil ?_
          go_wp2_with fail
          go_roundw
          case rel => exact ⟨k + 1, by omega, by go_num, hB, h0, hL, hqb⟩
          case measure => simp [intOf]; omega
        · have HE9 : Hid (mixI NEW OLD k = mlL p n2 us vs qs (t + 1)) := Lib.hid (by rw [show k = n2 by omega, mixI_all HN1.out HN2.out, HNEW.out])
          rw [HE9.out] at hL
          go_upto_region 7 with (fail)
          refine wp_region_lit ?_
          refine ls_ex (some 36) (.bool false) rfl rfl (exec_lss _ _ _ _ rfl k n2 rfl rfl false (decide_eq_false (by omega))) ?_
          go_frame
          refine wpList_nil ?_
          go_upto_region 11 with (fail)
          refine wp_region_lit ?_
          refine ls_ex (some 57) (.int .i64 (t + 1)) rfl rfl (exec_add _ _ _ _ rfl t 1 (t + 1) rfl rfl (IntWalk.i64_in _ (by omega))) ?_
          go_frame
          refine ls_ex (some 18) (.int .i64 (t + 1)) rfl rfl (exec_move _ rfl (.int .i64 (t + 1)) rfl) ?_
          go_frame
          refine wpList_nil ?_
          go_wp2_with fail
          go_roundw
          case rel => exact ⟨t + 1, by omega, by go_num, hB, h0, hL⟩
          case measure => simp [intOf]; omega
    · have HE : Hid (mlL p n2 us vs qs (t) = mlL p n2 us vs qs (qs.length)) := Lib.hid (by rw [show t = qs.length by omega])
      rw [HE.out] at hL
      go_upto_region 3 with (fail)
      refine wp_region_lit ?_
      refine ls_ex (some 19) (.bool false) rfl rfl (exec_lss _ _ _ _ rfl t qs.length rfl rfl false (decide_eq_false (by omega))) ?_
      go_frame
      refine wpList_nil ?_
      go_upto_region 12 with (fail)
      refine wp_region_lit ?_
      refine ls_ex (some 58) (.slice (some ⟨Wz2.heap.size, 0, none⟩) n2 n2) rfl rfl (exec_move _ rfl (.slice (some ⟨Wz2.heap.size, 0, none⟩) n2 n2) rfl) ?_
      go_frame
      refine ls_ex (some 6) (.slice (some ⟨Wz2.heap.size, 0, none⟩) n2 n2) rfl rfl (exec_assign _ rfl (.slice (some ⟨Wz2.heap.size, 0, none⟩) n2 n2) rfl) ?_
      go_frame
      refine wpList_nil ?_
      go_wp2_with fail
      go_ret
      exact ⟨_, rfl, (HOw.out _ _ hL).mono (by omega), hB⟩
theorem sideB_inM {n : Int} (h : sideB n = true) : 1 ≤ n ∧ n ≤ 9 := by simpa [sideB] using h
theorem mValid_c (p i j k : Int) (A : Option Addr) (c : Nat) (qs : List (List Nat)) (w : World) (hR : Rd w A qs) (hlen : qs.length ≤ 1048576) (b : Bool) (hb : methB p i j k qs = b) : Calls Try.prog 93 #[.agg #[.int .i64 p, .int .i64 i, .int .i64 j, .int .i64 k, .slice A qs.length c]] w fun e w' => e = .returned (.bool b) ∧ Below w.heap.size w w' := by
  have HI := Lib.hid (fun w' (hb9 : Below w.heap.size w w') => implIsMethod_c p i j k A c qs w' (hR.keep hb9) hlen)
  rw [hb] at HI
  clear hR hb
  go_enter Try.func93, Try.ntmps93
  go_wp2_with (first | (refine wpList_abs1 ?_; intro W hsz hB h0) | (refine wpList_load_all rfl 33 _ rfl w.heap.size rfl _ _ _ h0 Try.underlying33 rfl 5 (by kernel_rfl) rfl ?_))
  refine (HI.out _ hB).mono ?_
  rintro e w1 ⟨rfl, b1⟩
  replace hB := below_after hB b1
  go_wp2_with fail
  go_ret
  exact ⟨rfl, hB⟩
theorem mModulus_c (p i j k : Int) (v : Value) (w : World) : Calls Try.prog 95 #[.agg #[.int .i64 p, .int .i64 i, .int .i64 j, .int .i64 k, v]] w fun e w' => e = .returned (.int .i64 p) ∧ Below w.heap.size w w' := by
  go_enter Try.func95, Try.ntmps95
  go_wp2_with fail
  go_ret
  exact ⟨rfl, below1 _ _⟩
set_option maxHeartbeats 4000000 in
theorem listMadeM_a (p i j k : Int) (A : Option Addr) (c : Nat) (qs : List (List Nat)) (Bu : Option Addr) (cu : Nat) (us : List Int) (Bv : Option Addr) (cv : Nat) (vs : List Int) (w : World) (hR : Rd w A qs) (hlen : qs.length ≤ 1048576) (hU : RdI w Bu us) (hul : us.length ≤ 1048576) (hV : RdI w Bv vs) (hvl : vs.length ≤ 1048576) (ht : methB p i j k qs = false) : Calls Try.prog 35 #[.iface 33 (.agg #[.int .i64 p, .int .i64 i, .int .i64 j, .int .i64 k, .slice A qs.length c]), .slice Bu us.length cu, .slice Bv vs.length cv] w (ResI w (mkL p i j k qs us vs) (mkCode p i j k qs us vs)) := by
  have HV := Lib.hid (mValid_c p i j k A c qs w hR hlen false ht)
  have HC : Hid (mkCode p i j k qs us vs = 1) := Lib.hid (by unfold mkCode; simp [ht])
  have HR : Hid (mkL p i j k qs us vs = []) := Lib.hid (by unfold mkL; rw [HC.out]; rfl)
  have _u := hul; have _u2 := hvl; have _u3 := hU; have _u4 := hV
  clear _u _u2 _u3 _u4 ht hR hU hV
  go_enter Try.func35, Try.ntmps35
  go_wp2_with fail
  refine HV.out.mono ?_
  rintro e w1 ⟨rfl, b1⟩
  go_wp2_with fail
  go_ret2
  exact ⟨_, by rw [HC.out]; rfl, by rw [HR.out]; exact OwnI.nil _ _, b1⟩
set_option maxHeartbeats 4000000 in
theorem listMadeM_b (p i j k : Int) (A : Option Addr) (c : Nat) (qs : List (List Nat)) (Bu : Option Addr) (cu : Nat) (us : List Int) (Bv : Option Addr) (cv : Nat) (vs : List Int) (w : World) (hR : Rd w A qs) (hlen : qs.length ≤ 1048576) (hU : RdI w Bu us) (hul : us.length ≤ 1048576) (hV : RdI w Bv vs) (hvl : vs.length ≤ 1048576) (ht : methB p i j k qs = true) (hu : listB p i us = false) : Calls Try.prog 35 #[.iface 33 (.agg #[.int .i64 p, .int .i64 i, .int .i64 j, .int .i64 k, .slice A qs.length c]), .slice Bu us.length cu, .slice Bv vs.length cv] w (ResI w (mkL p i j k qs us vs) (mkCode p i j k qs us vs)) := by
  have HV := Lib.hid (mValid_c p i j k A c qs w hR hlen true ht)
  have HLU := Lib.hid (fun w' (hb9 : Below w.heap.size w w') => isList_c Bu cu p i us w' (hU.keep hb9) hul)
  rw [hu] at HLU
  have HC : Hid (mkCode p i j k qs us vs = 2) := Lib.hid (by unfold mkCode; simp [ht, hu])
  have HR : Hid (mkL p i j k qs us vs = []) := Lib.hid (by unfold mkL; rw [HC.out]; rfl)
  have _u2 := hvl; have _u4 := hV
  clear _u2 _u4 ht hu hR hU hV
  go_enter Try.func35, Try.ntmps35
  go_wp2_with fail
  refine HV.out.mono ?_
  rintro e w1 ⟨rfl, hB⟩
  go_wp2_with fail
  refine (mModulus_c p i j k _ _).mono ?_
  rintro e w2 ⟨rfl, b2⟩
  replace hB := below_after hB b2
  go_wp2_with fail
  refine (mSides_c p i j k _ _).mono ?_
  rintro e w3 ⟨rfl, b3⟩
  replace hB := below_after hB b3
  have l3 := hB.size
  go_wp2_with (first | (refine wpList_abs1 ?_; intro W hsz hB2 h0; have z2 : W.heap.size = w3.heap.size + 1 := hsz; replace hB := below_after hB hB2) | (refine wpList_store_all rfl 75 _ _ rfl rfl w3.heap.size rfl _ rfl _ _ h0 3 (by kernel_rfl) rfl rfl (by simp [Value.oneCell']) ?_; intro W3 p3; replace hB := p3.below hB (by omega); have h3 := p3.at_; have x0 : W3.cell? ⟨w3.heap.size, 0, none⟩ = some (.int .i64 i) := h3.at_ 0))
  refine (HLU.out _ hB).mono ?_
  rintro e w4 ⟨rfl, b4⟩
  replace hB := below_after hB b4
  clear x0 h3 p3
  go_wp2_with fail
  go_ret2
  exact ⟨_, by rw [HC.out]; rfl, by rw [HR.out]; exact OwnI.nil _ _, hB⟩
set_option maxHeartbeats 4000000 in
theorem listMadeM_c (p i j k : Int) (A : Option Addr) (c : Nat) (qs : List (List Nat)) (Bu : Option Addr) (cu : Nat) (us : List Int) (Bv : Option Addr) (cv : Nat) (vs : List Int) (w : World) (hR : Rd w A qs) (hlen : qs.length ≤ 1048576) (hU : RdI w Bu us) (hul : us.length ≤ 1048576) (hV : RdI w Bv vs) (hvl : vs.length ≤ 1048576) (ht : methB p i j k qs = true) (hu : listB p i us = true) (hv : listB p j vs = false) : Calls Try.prog 35 #[.iface 33 (.agg #[.int .i64 p, .int .i64 i, .int .i64 j, .int .i64 k, .slice A qs.length c]), .slice Bu us.length cu, .slice Bv vs.length cv] w (ResI w (mkL p i j k qs us vs) (mkCode p i j k qs us vs)) := by
  have HV := Lib.hid (mValid_c p i j k A c qs w hR hlen true ht)
  have HLU := Lib.hid (fun w' (hb9 : Below w.heap.size w w') => isList_c Bu cu p i us w' (hU.keep hb9) hul)
  have HLV := Lib.hid (fun w' (hb9 : Below w.heap.size w w') => isList_c Bv cv p j vs w' (hV.keep hb9) hvl)
  rw [hu] at HLU
  rw [hv] at HLV
  have HC : Hid (mkCode p i j k qs us vs = 2) := Lib.hid (by unfold mkCode; simp [ht, hu, hv])
  have HR : Hid (mkL p i j k qs us vs = []) := Lib.hid (by unfold mkL; rw [HC.out]; rfl)
  clear ht hu hv hR hU hV
  go_enter Try.func35, Try.ntmps35
  go_wp2_with fail
  refine HV.out.mono ?_
  rintro e w1 ⟨rfl, hB⟩
  go_wp2_with fail
  refine (mModulus_c p i j k _ _).mono ?_
  rintro e w2 ⟨rfl, b2⟩
  replace hB := below_after hB b2
  go_wp2_with fail
  refine (mSides_c p i j k _ _).mono ?_
  rintro e w3 ⟨rfl, b3⟩
  replace hB := below_after hB b3
  have l3 := hB.size
  go_wp2_with (first | (refine wpList_abs1 ?_; intro W hsz hB2 h0; have z2 : W.heap.size = w3.heap.size + 1 := hsz; replace hB := below_after hB hB2) | (refine wpList_store_all rfl 75 _ _ rfl rfl w3.heap.size rfl _ rfl _ _ h0 3 (by kernel_rfl) rfl rfl (by simp [Value.oneCell']) ?_; intro W3 p3; replace hB := p3.below hB (by omega); have h3 := p3.at_; have x0 : W3.cell? ⟨w3.heap.size, 0, none⟩ = some (.int .i64 i) := h3.at_ 0))
  refine (HLU.out _ hB).mono ?_
  rintro e w4 ⟨rfl, b4⟩
  replace hB := below_after hB b4
  replace h3 := h3.after b4
  have x1 : w4.cell? ⟨w3.heap.size, 1, none⟩ = some (.int .i64 j) := h3.at_ 1
  clear x0 p3
  go_wp2_with fail
  refine (HLV.out _ hB).mono ?_
  rintro e w5 ⟨rfl, b5⟩
  replace hB := below_after hB b5
  clear x1 h3
  go_wp2_with fail
  go_ret2
  exact ⟨_, by rw [HC.out]; rfl, by rw [HR.out]; exact OwnI.nil _ _, hB⟩
set_option maxHeartbeats 4000000 in
theorem listMadeM_y (p : Int) (n0 n1 n2 : Nat) (A : Option Addr) (c : Nat) (qs : List (List Nat)) (Bu : Option Addr) (cu : Nat) (us : List Int) (Bv : Option Addr) (cv : Nat) (vs : List Int) (w : World) (hR : Rd w A qs) (hlen : qs.length ≤ 1048576) (hU : RdI w Bu us) (hul : us.length ≤ 1048576) (hV : RdI w Bv vs) (hvl : vs.length ≤ 1048576) (ht : methB p n0 n1 n2 qs = true) (hu : listB p n0 us = true) (hv : listB p n1 vs = true) : Calls Try.prog 35 #[.iface 33 (.agg #[.int .i64 p, .int .i64 n0, .int .i64 n1, .int .i64 n2, .slice A qs.length c]), .slice Bu us.length cu, .slice Bv vs.length cv] w (ResI w (mkL p n0 n1 n2 qs us vs) (mkCode p n0 n1 n2 qs us vs)) := by
  have HV := Lib.hid (mValid_c p n0 n1 n2 A c qs w hR hlen true ht)
  have HLU := Lib.hid (fun w' (hb9 : Below w.heap.size w w') => isList_c Bu cu p n0 us w' (hU.keep hb9) hul)
  have HLV := Lib.hid (fun w' (hb9 : Below w.heap.size w w') => isList_c Bv cv p n1 vs w' (hV.keep hb9) hvl)
  have HMk := Lib.hid (fun w' (hb9 : Below w.heap.size w w') => methodMakes_c p n0 n1 n2 A c qs Bu cu us Bv cv vs w' (hR.keep hb9) hlen (hU.keep hb9) hul (hV.keep hb9) hvl ht hu hv)
  rw [hu] at HLU
  rw [hv] at HLV
  have HC : Hid (mkCode p n0 n1 n2 qs us vs = 0) := Lib.hid (by unfold mkCode; simp [ht, hu, hv])
  have HR : Hid (mkL p n0 n1 n2 qs us vs = mlL p n2 us vs qs qs.length) := Lib.hid (by unfold mkL; rw [HC.out]; rfl)
  clear ht hu hv hR hU hV
  go_enter Try.func35, Try.ntmps35
  go_wp2_with fail
  refine HV.out.mono ?_
  rintro e w1 ⟨rfl, hB⟩
  go_wp2_with fail
  refine (mModulus_c p n0 n1 n2 _ _).mono ?_
  rintro e w2 ⟨rfl, b2⟩
  replace hB := below_after hB b2
  go_wp2_with fail
  refine (mSides_c p n0 n1 n2 _ _).mono ?_
  rintro e w3 ⟨rfl, b3⟩
  replace hB := below_after hB b3
  have l3 := hB.size
  go_wp2_with (first | (refine wpList_abs1 ?_; intro W hsz hB2 h0; have z2 : W.heap.size = w3.heap.size + 1 := hsz; replace hB := below_after hB hB2) | (refine wpList_store_all rfl 75 _ _ rfl rfl w3.heap.size rfl _ rfl _ _ h0 3 (by kernel_rfl) rfl rfl (by simp [Value.oneCell']) ?_; intro W3 p3; replace hB := p3.below hB (by omega); have h3 := p3.at_; have x0 : W3.cell? ⟨w3.heap.size, 0, none⟩ = some (.int .i64 n0) := h3.at_ 0))
  refine (HLU.out _ hB).mono ?_
  rintro e w4 ⟨rfl, b4⟩
  replace hB := below_after hB b4
  replace h3 := h3.after b4
  have x1 : w4.cell? ⟨w3.heap.size, 1, none⟩ = some (.int .i64 n1) := h3.at_ 1
  clear x0 p3
  go_wp2_with fail
  refine (HLV.out _ hB).mono ?_
  rintro e w5 ⟨rfl, b5⟩
  replace hB := below_after hB b5
  have l5 := hB.size
  clear x1 h3
  go_wp2_with fail
  refine (HMk.out _ hB).mono ?_
  rintro e w6 ⟨v6, rfl, ho, b6⟩
  replace hB := below_after hB b6
  go_wp2_with fail
  go_ret2
  exact ⟨_, by rw [HC.out]; rfl, by rw [HR.out]; exact ho.mono (by omega), hB⟩
theorem listMadeM_all (p i j k : Int) (A : Option Addr) (c : Nat) (qs : List (List Nat)) (Bu : Option Addr) (cu : Nat) (us : List Int) (Bv : Option Addr) (cv : Nat) (vs : List Int) (w : World) (hR : Rd w A qs) (hlen : qs.length ≤ 1048576) (hU : RdI w Bu us) (hul : us.length ≤ 1048576) (hV : RdI w Bv vs) (hvl : vs.length ≤ 1048576) : Calls Try.prog 35 #[.iface 33 (.agg #[.int .i64 p, .int .i64 i, .int .i64 j, .int .i64 k, .slice A qs.length c]), .slice Bu us.length cu, .slice Bv vs.length cv] w (ResI w (mkL p i j k qs us vs) (mkCode p i j k qs us vs)) := by
  cases ht : methB p i j k qs with
  | false => exact listMadeM_a p i j k A c qs Bu cu us Bv cv vs w hR hlen hU hul hV hvl ht
  | true =>
    cases hu : listB p i us with
    | false => exact listMadeM_b p i j k A c qs Bu cu us Bv cv vs w hR hlen hU hul hV hvl ht hu
    | true =>
      cases hv : listB p j vs with
      | false => exact listMadeM_c p i j k A c qs Bu cu us Bv cv vs w hR hlen hU hul hV hvl ht hu hv
      | true =>
        obtain ⟨_, h2, h3, h4, _⟩ := methB_parts ht
        have s2 := sideB_inM h2
        have s3 := sideB_inM h3
        have s4 := sideB_inM h4
        obtain ⟨n0, rfl⟩ := Int.eq_ofNat_of_zero_le (show 0 ≤ i by omega)
        obtain ⟨n1, rfl⟩ := Int.eq_ofNat_of_zero_le (show 0 ≤ j by omega)
        obtain ⟨n2, rfl⟩ := Int.eq_ofNat_of_zero_le (show 0 ≤ k by omega)
        exact listMadeM_y p n0 n1 n2 A c qs Bu cu us Bv cv vs w hR hlen hU hul hV hvl ht hu hv
set_option maxHeartbeats 4000000 in
theorem implMakeList_c (p i j k : Int) (A : Option Addr) (c : Nat) (qs : List (List Nat)) (Bu : Option Addr) (cu : Nat) (us : List Int) (Bv : Option Addr) (cv : Nat) (vs : List Int) (w : World) (hR : Rd w A qs) (hlen : qs.length ≤ 1048576) (hU : RdI w Bu us) (hul : us.length ≤ 1048576) (hV : RdI w Bv vs) (hvl : vs.length ≤ 1048576) : Calls Try.prog 17 #[.agg #[.int .i64 p, .int .i64 i, .int .i64 j, .int .i64 k, .slice A qs.length c], .slice Bu us.length cu, .slice Bv vs.length cv] w (ResI w (mkL p i j k qs us vs) (mkCode p i j k qs us vs)) := by
  have HL := Lib.hid (fun w' (hb9 : Below w.heap.size w w') => listMadeM_all p i j k A c qs Bu cu us Bv cv vs w' (hR.keep hb9) hlen (hU.keep hb9) hul (hV.keep hb9) hvl)
  clear hR hU hV
  go_enter Try.func17, Try.ntmps17
  go_wp2_with (first | (refine wpList_abs1 ?_; intro W hsz hB h0) | (refine wpList_load_all rfl 33 _ rfl w.heap.size rfl _ _ _ h0 Try.underlying33 rfl 5 (by kernel_rfl) rfl ?_))
  refine (HL.out _ hB).mono ?_
  have l0 := hB.size
  rintro e w1 ⟨v, rfl, ho, b1⟩
  replace hB := below_after hB b1
  go_wp2_with fail
  go_ret2
  exact ⟨_, rfl, ho.mono l0, hB⟩
theorem specMakeList_c (p i j k : Int) (A : Option Addr) (c : Nat) (qs : List (List Nat)) (Bu : Option Addr) (cu : Nat) (us : List Int) (Bv : Option Addr) (cv : Nat) (vs : List Int) (w : World) (hR : Rd w A qs) (hlen : qs.length ≤ 1048576) (hU : RdI w Bu us) (hul : us.length ≤ 1048576) (hV : RdI w Bv vs) (hvl : vs.length ≤ 1048576) : Calls Try.prog 15 #[.agg #[.int .i64 p, .int .i64 i, .int .i64 j, .int .i64 k, .slice A qs.length c], .slice Bu us.length cu, .slice Bv vs.length cv] w (ResI w (mkL p i j k qs us vs) (mkCode p i j k qs us vs)) := by
  cases ht : methB p i j k qs with
  | false => exact specMkl_a p i j k A c qs Bu cu us Bv cv vs w hR hlen hU hul hV hvl ht
  | true =>
    cases hu : listB p i us with
    | false => exact specMkl_b p i j k A c qs Bu cu us Bv cv vs w hR hlen hU hul hV hvl ht hu
    | true =>
      cases hv : listB p j vs with
      | false => exact specMkl_c p i j k A c qs Bu cu us Bv cv vs w hR hlen hU hul hV hvl ht hu hv
      | true =>
        obtain ⟨_, h2, h3, h4, _⟩ := methB_parts ht
        have s2 := sideB_inM h2
        have s3 := sideB_inM h3
        have s4 := sideB_inM h4
        obtain ⟨n0, rfl⟩ := Int.eq_ofNat_of_zero_le (show 0 ≤ i by omega)
        obtain ⟨n1, rfl⟩ := Int.eq_ofNat_of_zero_le (show 0 ≤ j by omega)
        obtain ⟨n2, rfl⟩ := Int.eq_ofNat_of_zero_le (show 0 ≤ k by omega)
        exact specMkl_y p n0 n1 n2 A c qs Bu cu us Bv cv vs w hR hlen hU hul hV hvl ht hu hv
end Go.Proofs.Ytbahcbmmkbokgaa
