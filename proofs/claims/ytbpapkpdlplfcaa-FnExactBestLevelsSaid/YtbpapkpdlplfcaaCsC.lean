/-
  BestLevels of both sides. (Made by mkcsc.py.)
-/
import Derived.Test.YtbpapkpdlplfcaaCsB
import Derived.Test.YtbpapkpdlplfcaaLsI
namespace Go.Proofs.Ytbpapkpdlplfcaa
open Go.RowKit
set_option maxRecDepth 100000
attribute [local irreducible] wpList
/-- The mixed cost of l levels over the base size that L - l levels make. -/
def mcF (r ad n b : Int) (L l : Nat) : Option Int := mxO (countsO r ad n l (powI n (L - l) * b))
def valsF (f : Nat → Option Int) (a : Nat) : List Int := (List.range a).map fun j => (f j).getD 0
theorem valsF_len (f : Nat → Option Int) (a : Nat) : (valsF f a).length = a := by simp [valsF]
theorem valsF_step (f : Nat → Option Int) (a : Nat) : valsF f (a + 1) = valsF f a ++ [(f a).getD 0] := by simp [valsF, List.range_succ]
theorem valsF_get (f : Nat → Option Int) {a j : Nat} (h : j < a) : getI (valsF f a) j = (f j).getD 0 := by simp [getI, valsF, h]
theorem mn_vals (f : Nat → Option Int) (L : Nat) : mnF (getI (valsF f (L + 1))) ((valsF f (L + 1)).length - 1) = mnF (fun j => (f j).getD 0) L := by
  rw [valsF_len, Nat.add_sub_cancel]
  exact mnF_congr (fun j hj => valsF_get f (by omega))
theorem ix_vals (f : Nat → Option Int) (L : Nat) : getI (valsF f (L + 1)) (ixF (fun j => (f j).getD 0) L) = mnF (fun j => (f j).getD 0) L ∧ ∀ j, j < ixF (fun j => (f j).getD 0) L → getI (valsF f (L + 1)) j ≠ mnF (fun j => (f j).getD 0) L := by
  have h := ixF_le (fun j => (f j).getD 0) L
  refine ⟨by rw [valsF_get f (by omega)]; exact ixF_at (fun j => (f j).getD 0) L, fun j hj => ?_⟩
  have h2 := ixF_first (fun j => (f j).getD 0) L j hj
  rw [valsF_get f (by omega)]
  intro e
  have h3 : mnF (fun j => (f j).getD 0) L < (f j).getD 0 := h2
  omega
def blO (r ad n b : Int) (L : Nat) : Option Nat := if (List.range (L + 1)).all (fun j => (mcF r ad n b L j).isSome) = true then some (ixF (fun j => (mcF r ad n b L j).getD 0) L) else none
theorem bl_some {r ad n b : Int} {L : Nat} (h : ∀ j, j < L + 1 → (mcF r ad n b L j).isSome = true) : blO r ad n b L = some (ixF (fun j => (mcF r ad n b L j).getD 0) L) := by
  unfold blO
  rw [if_pos (List.all_eq_true.2 fun j hj => h j (List.mem_range.1 hj))]
theorem bl_none {r ad n b : Int} {L a : Nat} (ha : a ≤ L) (h : mcF r ad n b L a = none) : blO r ad n b L = none := by
  unfold blO
  rw [if_neg]
  intro hc
  have := List.all_eq_true.1 hc a (List.mem_range.2 (by omega))
  rw [h] at this
  cases this
theorem bl_size {n b : Int} {L a : Nat} (hn : 2 ≤ n ∧ n ≤ 3) (hb : 1 ≤ b ∧ b ≤ 1000) (hL : L ≤ 8) (_ : a ≤ L) : 1 ≤ powI n (L - a) * b ∧ powI n (L - a) * b ≤ 6561000 := by
  have h1 := powI_pos (show 1 ≤ n by omega) (L - a)
  have h2 := powI_up (show 1 ≤ n by omega) (show L - a ≤ 8 by omega)
  have h3 := powI_le (show 1 ≤ n by omega) hn.2 8
  have h4 : powI 3 8 = 6561 := by decide
  have h5 : 1 * 1 ≤ powI n (L - a) * b := Int.mul_le_mul h1 hb.1 (by omega) (by omega)
  have h6 : powI n (L - a) * b ≤ 6561 * 1000 := Int.mul_le_mul (by omega) hb.2 (by omega) (by omega)
  omega
theorem fg_size2 {n b : Int} {a : Nat} (hn : 2 ≤ n ∧ n ≤ 3) (hb : 1 ≤ b ∧ b ≤ 1000) (ha : a ≤ 8) : 1 ≤ powI n a * b ∧ powI n a * b ≤ 6561000 := by
  have := bl_size (L := a) (a := 0) hn hb ha (by omega)
  exact this
theorem cO_big {r ad n b : Int} {L : Nat} (h : 100000 < b) : countsO r ad n L b = none := by
  have h1 : 100001 * 100001 ≤ b * b := Int.mul_le_mul (by omega) (by omega) (by omega) (by omega)
  have h2 : 100001 * (100001 * 100001) ≤ b * (b * b) := Int.mul_le_mul (by omega) h1 (by omega) (by omega)
  unfold countsO
  rw [if_neg (fun hc => by have := hc.2; omega)]
theorem bl_div {n b : Int} {L a : Nat} (hn : 1 ≤ n) (h : a + 1 ≤ L) : Int.tdiv (powI n (L - a) * b) n = powI n (L - (a + 1)) * b := by
  rw [show L - a = (L - (a + 1)) + 1 by omega]
  simp only [powI]
  rw [Int.mul_right_comm]
  exact Int.mul_tdiv_cancel _ (by omega)
theorem bs_lt {f : Nat → Int} {a : Nat} (h0 : 0 < a) (h : f a < mnF f (a - 1)) : ixF f a = a ∧ mnF f a = f a := by
  obtain ⟨c, rfl⟩ : ∃ c, a = c + 1 := ⟨a - 1, by omega⟩
  rw [Nat.add_sub_cancel] at h
  exact ⟨if_pos h, if_pos h⟩
theorem bs_ge {f : Nat → Int} {a : Nat} (h0 : 0 < a) (h : ¬ f a < mnF f (a - 1)) : ixF f a = ixF f (a - 1) ∧ mnF f a = mnF f (a - 1) := by
  obtain ⟨c, rfl⟩ : ∃ c, a = c + 1 := ⟨a - 1, by omega⟩
  rw [Nat.add_sub_cancel] at h ⊢
  exact ⟨if_neg h, if_neg h⟩
def blC : Option Nat → Int
  | some _ => 0
  | none => 3
def blV : Option Nat → Int
  | some i => (i : Int)
  | none => 0
def bcCode (p n m k : Int) (qs : List (List Nat)) (l b : Int) : Int :=
  if sqCode p n m k qs ((decide (0 ≤ l) && decide (l ≤ 8)) && (decide (1 ≤ b) && decide (b ≤ 1000))) = 0 then (match blO qs.length (coAdd qs) n b l.toNat with | some _ => 0 | none => 3) else sqCode p n m k qs ((decide (0 ≤ l) && decide (l ≤ 8)) && (decide (1 ≤ b) && decide (b ≤ 1000)))
def bcR (p n m k : Int) (qs : List (List Nat)) (l b : Int) : Int :=
  if sqCode p n m k qs ((decide (0 ≤ l) && decide (l ≤ 8)) && (decide (1 ≤ b) && decide (b ≤ 1000))) = 0 then (match blO qs.length (coAdd qs) n b l.toNat with | some i => (i : Int) | none => 0) else 0
def BEnd (o : Option Nat) (e : Ending) : Prop :=
  match o with
  | some i => e = .returned (.int .i64 (i : Int))
  | none => Fails e
set_option maxHeartbeats 12800000 in
theorem bestLevels_c (n r l1 l2 l3 : Int) (L : Nat) (b : Int) (hn : 2 ≤ n ∧ n ≤ 3) (hr : 0 ≤ r ∧ r ≤ 30) (h1 : 0 ≤ l1 ∧ l1 ≤ 1000) (h2 : 0 ≤ l2 ∧ l2 ≤ 1000) (h3 : 0 ≤ l3 ∧ l3 ≤ 1000) (hL : L ≤ 8) (hb : 1 ≤ b ∧ b ≤ 1000) (w : World) :
    Calls Try.prog 46 #[.agg #[.int .i64 n, .int .i64 r, .int .i64 l1, .int .i64 l2, .int .i64 l3], .int .i64 (L : Int), .int .i64 b] w (fun e w' => BEnd (blO r (l1 + l2 + l3) n b L) e ∧ Below w.heap.size w w') := by
  have hB := Below.refl w.heap.size w
  have HP := Lib.hid (fun a (ha : a ≤ 8) j (hj : j ≤ a) => powI_in (show (1 : Int) ≤ n by omega) hn.2 8 (by decide) (show j ≤ 8 by omega))
  go_enter Try.func46, Try.ntmps46
  go_upto_region 0 with (fail)
  refine wp_region_lit ?_
  refine ls_op rfl (fun K' hK' => ?_)
  have lz1 := hB.size
  refine wp_new (some 3) rfl (exec_box 60 _ rfl (#[.int .i64 n, .int .i64 r, .int .i64 l1, .int .i64 l2, .int .i64 l3]) rfl) (fun Wz2 nnz3 => ?_)
  have bz4 := nnz3.below (Below.refl _ _) (Nat.le_refl _)
  replace hB := below_after hB bz4
  have hz5 : At Wz2 w.heap.size (.cells #[.int .i64 n, .int .i64 r, .int .i64 l1, .int .i64 l2, .int .i64 l3] 60 (0, 0)) := nnz3.at_
  refine hK' _ _ ?_
  clear hK' K' nnz3 bz4
  go_frame
  refine ls_ex (some 6) (.int .i64 0) rfl rfl (exec_assign _ rfl (.int .i64 0) rfl) ?_
  go_frame
  refine wpList_nil ?_
  go_upto_region 1 with (fail)
  refine wp_region_lit ?_
  refine ls_ex (some 7) (.slice none 0 0) rfl rfl (exec_assign _ rfl (.slice none 0 0) rfl) ?_
  go_frame
  refine wpList_nil ?_
  go_upto_region 2 with (fail)
  refine wp_region_lit ?_
  refine ls_ex (some 9) (.int .i64 L) rfl rfl (exec_move _ rfl (.int .i64 L) rfl) ?_
  go_frame
  refine ls_ex (some 10) (.int .i64 ((L + 1 : Nat) : Int)) rfl rfl (exec_add _ _ _ _ rfl (L : Int) 1 _ rfl rfl (IntWalk.i64_in _ (by omega))) ?_
  go_frame
  refine ls_ex (some 11) (.int .i64 0) rfl rfl (exec_move _ rfl (.int .i64 0) rfl) ?_
  go_frame
  refine wpList_nil ?_
  go_wp2_with fail
  go_loopw [11, 7] (fun s11 s7 wr => ∃ (a : Nat) (v7 : Value), a ≤ L + 1 ∧ s11 = .int .i64 a ∧ v7 = s7 ∧ Below w.heap.size w wr ∧ At wr w.heap.size (.cells #[.int .i64 n, .int .i64 r, .int .i64 l1, .int .i64 l2, .int .i64 l3] 60 (0, 0)) ∧ OwnI wr (w.heap.size + 1) v7 (valsF (mcF r (l1 + l2 + l3) n b L) a) ∧ Hid (∀ j, j < a → (mcF r (l1 + l2 + l3) n b L j).isSome = true)) (fun s11 _ _ => L + 1 - (intOf s11).toNat)
  case atStart => exact ⟨0, _, by omega, rfl, rfl, hB, hz5, OwnI.nil _ _, Lib.hid (fun j hj => absurd hj (by omega))⟩
  case round =>
    clear hB hz5
    obtain ⟨a, v7, ha, rfl, rfl, hB, h0, ho, HA⟩ := hrel
    by_cases hlt : a < L + 1
    · have hz := bl_size hn hb hL (show a ≤ L by omega)
      have eL : (L : Int) - (a : Int) = ((L - a : Nat) : Int) := by omega
      rcases ho2 : mcF r (l1 + l2 + l3) n b L a with _ | v
      · have HE : Hid (blO r (l1 + l2 + l3) n b L = none) := Lib.hid (bl_none (show a ≤ L by omega) ho2)
        have Ho : Hid (mxO (countsO r (l1 + l2 + l3) n a (powI n (L - a) * b)) = none) := Lib.hid ho2
        clear ho2
        go_upto_region 3 with (fail)
        refine wp_region_lit ?_
        refine ls_ex (some 12) (.bool true) rfl rfl (exec_lss _ _ _ _ rfl a (((L + 1 : Nat) : Int)) rfl rfl true (decide_eq_true (by omega))) ?_
        go_frame
        refine wpList_nil ?_
        go_upto_region 4 with (fail)
        refine wp_region_lit ?_
        refine ls_ex (some 13) (.int .i64 a) rfl rfl (exec_move _ rfl (.int .i64 a) rfl) ?_
        go_frame
        refine ls_ex (some 8) (.int .i64 a) rfl rfl (exec_assign _ rfl (.int .i64 a) rfl) ?_
        go_frame
        refine wpList_nil ?_
        go_upto_region 5 with (fail)
        refine wp_region_y (zs := []) (S := fun w' => Below w.heap.size w w' ∧ At w' w.heap.size (.cells #[.int .i64 n, .int .i64 r, .int .i64 l1, .int .i64 l2, .int .i64 l3] 60 (0, 0))) (S2 := fun w' => True) (by kernel_rfl) ?_
        change wpAnyY _ _ _ _ _ _ _ _ _ _ (World.drew _)
        generalize hwdz6 : World.drew _ = wdz6
        replace hB : Below w.heap.size w wdz6 := by rw [← hwdz6]; exact hB.drew
        replace h0 : At wdz6 w.heap.size (.cells #[.int .i64 n, .int .i64 r, .int .i64 l1, .int .i64 l2, .int .i64 l3] 60 (0, 0)) := by rw [← hwdz6]; exact h0
        replace ho : OwnI wdz6 (w.heap.size + 1) v7 (valsF (mcF r (l1 + l2 + l3) n b L) a) := by rw [← hwdz6]; exact ho.drew
        clear hwdz6
        refine y_yield 0 (some 14) (v7) rfl (by kernel_rfl) (by kernel_rfl) (by kernel_rfl) (fun _ _ _ h => h) rfl rfl ⟨hB, h0⟩ (fun w' h' => exec_move _ rfl (v7) rfl) ?_
        go_frame
        refine y_yield 1 (some 15) (.agg #[.int .i64 n, .int .i64 r, .int .i64 l1, .int .i64 l2, .int .i64 l3]) rfl (by kernel_rfl) (by kernel_rfl) (by kernel_rfl) (fun _ _ _ h => h) rfl rfl ⟨hB, h0⟩ (fun w' h' => exec_load_all 60 _ rfl w.heap.size rfl _ _ _ h'.2 Try.underlying60 rfl 5 (by kernel_rfl) rfl) ?_
        go_frame
        refine y_yield 2 (some 16) (.int .i64 a) rfl (by kernel_rfl) (by kernel_rfl) (by kernel_rfl) (fun _ _ _ h => h) rfl rfl ⟨hB, h0⟩ (fun w' h' => exec_move _ rfl (.int .i64 a) rfl) ?_
        go_frame
        refine y_yield 3 (some 17) (.pointer (some ⟨w.heap.size, 0, none⟩)) rfl (by kernel_rfl) (by kernel_rfl) (by kernel_rfl) (fun _ _ _ h => h) rfl rfl ⟨hB, h0⟩ (fun w' h' => exec_fieldAddr 60 _ 0 rfl _ (by kernel_rfl)) ?_
        go_frame
        refine y_yield 4 (some 18) (.int .i64 n) rfl (by kernel_rfl) (by kernel_rfl) (by kernel_rfl) (fun _ _ _ h => h) rfl rfl ⟨hB, h0⟩ (fun w' h' => exec_load_one 2 _ rfl w.heap.size 0 rfl (.int .i64 n) _ Try.underlying2 rfl (h'.2.at_ 0)) ?_
        go_frame
        refine y_yield 5 (some 19) (.int .i64 L) rfl (by kernel_rfl) (by kernel_rfl) (by kernel_rfl) (fun _ _ _ h => h) rfl rfl ⟨hB, h0⟩ (fun w' h' => exec_move _ rfl (.int .i64 L) rfl) ?_
        go_frame
        refine y_yield 6 (some 20) (.int .i64 a) rfl (by kernel_rfl) (by kernel_rfl) (by kernel_rfl) (fun _ _ _ h => h) rfl rfl ⟨hB, h0⟩ (fun w' h' => exec_move _ rfl (.int .i64 a) rfl) ?_
        go_frame
        refine y_yield 7 (some 21) (.int .i64 ((L - a : Nat) : Int)) rfl (by kernel_rfl) (by kernel_rfl) (by kernel_rfl) (fun _ _ _ h => h) rfl rfl ⟨hB, h0⟩ (fun w' h' => exec_sub _ _ _ _ rfl (L : Int) (a : Int) _ rfl rfl (by rw [eL]; exact IntWalk.i64_in _ (by omega))) ?_
        go_frame
        refine y_yield 9 (some 23) (.int .i64 b) rfl (by kernel_rfl) (by kernel_rfl) (by kernel_rfl) (fun _ _ _ h => h) rfl rfl ⟨hB, h0⟩ (fun w' h' => exec_move _ rfl (.int .i64 b) rfl) ?_
        go_frame
        refine y_oper 8 (by kernel_rfl) rfl rfl (fun K' hK' => ?_)
        have lz9 := hB.size
        have lz10 := h0.lt
        refine wp_call2 (some 22) rfl 65 _ _ _ rfl (fun args w => by kernel_rfl) _ _ rfl rfl _ (powerOf_c n (L - a) (by omega) (HP.out (L - a) (by omega)) _) (fun e Wz7 h => ?_)
        obtain ⟨rfl, rfl⟩ := h
        refine ⟨_, rfl, ?_⟩
        refine hK' _ _ ⟨hB, h0⟩ (fun _ => trivial) ?_
        clear hK' K'
        go_frame
        refine y_yield 10 (some 24) (.int .i64 (powI n (L - a) * b)) rfl (by kernel_rfl) (by kernel_rfl) (by kernel_rfl) (fun _ _ _ h => h) rfl rfl ⟨hB, h0⟩ (fun w' h' => exec_mul _ _ _ _ rfl (powI n (L - a)) b _ rfl rfl (IntWalk.i64_in _ (by omega))) ?_
        go_frame
        refine y_oper 11 (by kernel_rfl) rfl rfl (fun K' hK' => ?_)
        have lz13 := hB.size
        have lz14 := h0.lt
        refine wp_call3_p 44 _ _ _ _ rfl (fun args w => by kernel_rfl) _ _ _ rfl rfl rfl _ (mixedO_none n r l1 l2 l3 a (powI n (L - a) * b) hn hr h1 h2 h3 (by omega) hz.1 _ Ho.out) (fun e Wz11 h => ?_)
        obtain ⟨hf, bz12⟩ := h
        replace hB := below_after hB bz12
        replace h0 := h0.after bz12
        replace ho := ho.below bz12
        refine ⟨_, hf, ?_⟩
        exact ⟨rfl, by rw [HE.out]; rfl, hB⟩
      · have HA2 : Hid (∀ j, j < a + 1 → (mcF r (l1 + l2 + l3) n b L j).isSome = true) := Lib.hid (fun j hj => by by_cases e : j = a; rw [e, ho2]; rfl; exact HA.out j (by omega))
        have HV : Hid (valsF (mcF r (l1 + l2 + l3) n b L) (a + 1) = valsF (mcF r (l1 + l2 + l3) n b L) a ++ [v]) := Lib.hid (by rw [valsF_step, ho2]; rfl)
        have Ho : Hid (mxO (countsO r (l1 + l2 + l3) n a (powI n (L - a) * b)) = some v) := Lib.hid ho2
        clear ho2
        go_upto_region 3 with (fail)
        refine wp_region_lit ?_
        refine ls_ex (some 12) (.bool true) rfl rfl (exec_lss _ _ _ _ rfl a (((L + 1 : Nat) : Int)) rfl rfl true (decide_eq_true (by omega))) ?_
        go_frame
        refine wpList_nil ?_
        go_upto_region 4 with (fail)
        refine wp_region_lit ?_
        refine ls_ex (some 13) (.int .i64 a) rfl rfl (exec_move _ rfl (.int .i64 a) rfl) ?_
        go_frame
        refine ls_ex (some 8) (.int .i64 a) rfl rfl (exec_assign _ rfl (.int .i64 a) rfl) ?_
        go_frame
        refine wpList_nil ?_
        go_upto_region 5 with (fail)
        refine wp_region_y (zs := []) (S := fun w' => Below w.heap.size w w' ∧ At w' w.heap.size (.cells #[.int .i64 n, .int .i64 r, .int .i64 l1, .int .i64 l2, .int .i64 l3] 60 (0, 0))) (S2 := fun w' => True) (by kernel_rfl) ?_
        change wpAnyY _ _ _ _ _ _ _ _ _ _ (World.drew _)
        generalize hwdz15 : World.drew _ = wdz15
        replace hB : Below w.heap.size w wdz15 := by rw [← hwdz15]; exact hB.drew
        replace h0 : At wdz15 w.heap.size (.cells #[.int .i64 n, .int .i64 r, .int .i64 l1, .int .i64 l2, .int .i64 l3] 60 (0, 0)) := by rw [← hwdz15]; exact h0
        replace ho : OwnI wdz15 (w.heap.size + 1) v7 (valsF (mcF r (l1 + l2 + l3) n b L) a) := by rw [← hwdz15]; exact ho.drew
        clear hwdz15
        refine y_yield 0 (some 14) (v7) rfl (by kernel_rfl) (by kernel_rfl) (by kernel_rfl) (fun _ _ _ h => h) rfl rfl ⟨hB, h0⟩ (fun w' h' => exec_move _ rfl (v7) rfl) ?_
        go_frame
        refine y_yield 1 (some 15) (.agg #[.int .i64 n, .int .i64 r, .int .i64 l1, .int .i64 l2, .int .i64 l3]) rfl (by kernel_rfl) (by kernel_rfl) (by kernel_rfl) (fun _ _ _ h => h) rfl rfl ⟨hB, h0⟩ (fun w' h' => exec_load_all 60 _ rfl w.heap.size rfl _ _ _ h'.2 Try.underlying60 rfl 5 (by kernel_rfl) rfl) ?_
        go_frame
        refine y_yield 2 (some 16) (.int .i64 a) rfl (by kernel_rfl) (by kernel_rfl) (by kernel_rfl) (fun _ _ _ h => h) rfl rfl ⟨hB, h0⟩ (fun w' h' => exec_move _ rfl (.int .i64 a) rfl) ?_
        go_frame
        refine y_yield 3 (some 17) (.pointer (some ⟨w.heap.size, 0, none⟩)) rfl (by kernel_rfl) (by kernel_rfl) (by kernel_rfl) (fun _ _ _ h => h) rfl rfl ⟨hB, h0⟩ (fun w' h' => exec_fieldAddr 60 _ 0 rfl _ (by kernel_rfl)) ?_
        go_frame
        refine y_yield 4 (some 18) (.int .i64 n) rfl (by kernel_rfl) (by kernel_rfl) (by kernel_rfl) (fun _ _ _ h => h) rfl rfl ⟨hB, h0⟩ (fun w' h' => exec_load_one 2 _ rfl w.heap.size 0 rfl (.int .i64 n) _ Try.underlying2 rfl (h'.2.at_ 0)) ?_
        go_frame
        refine y_yield 5 (some 19) (.int .i64 L) rfl (by kernel_rfl) (by kernel_rfl) (by kernel_rfl) (fun _ _ _ h => h) rfl rfl ⟨hB, h0⟩ (fun w' h' => exec_move _ rfl (.int .i64 L) rfl) ?_
        go_frame
        refine y_yield 6 (some 20) (.int .i64 a) rfl (by kernel_rfl) (by kernel_rfl) (by kernel_rfl) (fun _ _ _ h => h) rfl rfl ⟨hB, h0⟩ (fun w' h' => exec_move _ rfl (.int .i64 a) rfl) ?_
        go_frame
        refine y_yield 7 (some 21) (.int .i64 ((L - a : Nat) : Int)) rfl (by kernel_rfl) (by kernel_rfl) (by kernel_rfl) (fun _ _ _ h => h) rfl rfl ⟨hB, h0⟩ (fun w' h' => exec_sub _ _ _ _ rfl (L : Int) (a : Int) _ rfl rfl (by rw [eL]; exact IntWalk.i64_in _ (by omega))) ?_
        go_frame
        refine y_yield 9 (some 23) (.int .i64 b) rfl (by kernel_rfl) (by kernel_rfl) (by kernel_rfl) (fun _ _ _ h => h) rfl rfl ⟨hB, h0⟩ (fun w' h' => exec_move _ rfl (.int .i64 b) rfl) ?_
        go_frame
        refine y_oper 8 (by kernel_rfl) rfl rfl (fun K' hK' => ?_)
        have lz18 := hB.size
        have lz19 := h0.lt
        refine wp_call2 (some 22) rfl 65 _ _ _ rfl (fun args w => by kernel_rfl) _ _ rfl rfl _ (powerOf_c n (L - a) (by omega) (HP.out (L - a) (by omega)) _) (fun e Wz16 h => ?_)
        obtain ⟨rfl, rfl⟩ := h
        refine ⟨_, rfl, ?_⟩
        refine hK' _ _ ⟨hB, h0⟩ (fun _ => trivial) ?_
        clear hK' K'
        go_frame
        refine y_yield 10 (some 24) (.int .i64 (powI n (L - a) * b)) rfl (by kernel_rfl) (by kernel_rfl) (by kernel_rfl) (fun _ _ _ h => h) rfl rfl ⟨hB, h0⟩ (fun w' h' => exec_mul _ _ _ _ rfl (powI n (L - a)) b _ rfl rfl (IntWalk.i64_in _ (by omega))) ?_
        go_frame
        refine y_oper 11 (by kernel_rfl) rfl rfl (fun K' hK' => ?_)
        have lz22 := hB.size
        have lz23 := h0.lt
        refine wp_call3 (some 25) rfl 44 _ _ _ _ rfl (fun args w => by kernel_rfl) _ _ _ rfl rfl rfl _ (mixedO_some n r l1 l2 l3 a (powI n (L - a) * b) hn hr h1 h2 h3 (by omega) hz.1 _ v Ho.out) (fun e Wz20 h => ?_)
        obtain ⟨rfl, bz21⟩ := h
        replace hB := below_after hB bz21
        replace h0 := h0.after bz21
        replace ho := ho.below bz21
        clear bz21
        refine ⟨_, rfl, ?_⟩
        refine hK' _ _ ⟨hB, h0⟩ (fun _ => trivial) ?_
        clear hK' K'
        go_frame
        refine y_oper 12 (by kernel_rfl) rfl rfl (fun K' hK' => ?_)
        have lz24 := hB.size
        have lz25 := h0.lt
        have naz30 := ho.away_new
        refine wp_new (some 26) rfl (exec_bsi1 _ rfl v rfl) (fun Wz26 nnz27 => ?_)
        have bz28 := nnz27.below (Below.refl _ _) (Nat.le_refl _)
        replace hB := below_after hB bz28
        replace h0 := h0.after bz28
        replace ho := ho.below bz28
        have hz29 : At Wz26 Wz20.heap.size (.cells #[.int .i64 v] 2 (0, 0)) := nnz27.at_
        refine hK' _ _ ⟨hB, h0⟩ (fun _ => trivial) ?_
        clear hK' K' nnz27 bz28
        go_frame
        refine y_oper 13 (by kernel_rfl) rfl rfl (fun K' hK' => ?_)
        have lz34 := hB.size
        have lz35 := h0.lt
        have lz36 := hz29.lt
        refine wp_appI (some 27) rfl _ _ rfl v7 (valsF (mcF r (l1 + l2 + l3) n b L) a) v rfl ho Wz20.heap.size rfl hz29 (by rw [valsF_len]; omega) (by omega) (fun v8 Wz31 noz33 grz32 => ?_)
        replace hB := below_grownI hB grz32 ho (by omega)
        replace h0 := h0.grown grz32 (OwnI.ne_lt2 ho (by omega))
        replace hz29 := hz29.grown grz32 naz30
        replace ho := noz33
        refine hK' _ _ ⟨hB, h0⟩ (fun _ => trivial) ?_
        clear hK' K' grz32
        go_frame
        refine y_oper 14 (by kernel_rfl) rfl rfl (fun K' hK' => ?_)
        refine wp_exec (some 7) rfl (v8) (exec_assign _ rfl (v8) rfl) ?_
        refine hK' _ _ ⟨hB, h0⟩ (fun _ => trivial) ?_
        clear hK' K'
        go_frame
        refine y_done (by kernel_rfl) ?_ _
        go_upto_region 6 with (fail)
        refine wp_region_lit ?_
        refine ls_ex (some 28) (.int .i64 (a + 1)) rfl rfl (exec_add _ _ _ _ rfl a 1 (a + 1) rfl rfl (IntWalk.i64_in _ (by omega))) ?_
        go_frame
        refine ls_ex (some 11) (.int .i64 (a + 1)) rfl rfl (exec_move _ rfl (.int .i64 (a + 1)) rfl) ?_
        go_frame
        refine wpList_nil ?_
        go_wp2_with fail
        go_roundw
        case rel => exact ⟨a + 1, _, by omega, by go_num, rfl, hB, h0, by rw [HV.out]; exact ho, HA2⟩
        case measure => simp [intOf]; omega
    · obtain ⟨A7, c7, rfl, hrd⟩ := ho.rd
      have HEa : Hid (a = L + 1) := Lib.hid (by omega)
      rw [HEa.out] at hrd
      rw [HEa.out]
      have hall : ∀ j, j < L + 1 → (mcF r (l1 + l2 + l3) n b L j).isSome = true := fun j hj => HA.out j (by omega)
      have HE : Hid (blO r (l1 + l2 + l3) n b L = some (ixF (fun j => (mcF r (l1 + l2 + l3) n b L j).getD 0) L)) := Lib.hid (bl_some hall)
      have hvl := valsF_len (mcF r (l1 + l2 + l3) n b L) (L + 1)
      obtain ⟨b7, off7, rfl, _⟩ := hrd.at_ (i := 0) (by rw [hvl]; omega)
      have hm := mn_vals (mcF r (l1 + l2 + l3) n b L) L
      have hix := ixF_le (fun j => (mcF r (l1 + l2 + l3) n b L j).getD 0) L
      have hia := ix_vals (mcF r (l1 + l2 + l3) n b L) L
      clear hall HA ho
      go_upto_region 3 with (fail)
      refine wp_region_lit ?_
      refine ls_ex (some 12) (.bool false) rfl rfl (exec_lss _ _ _ _ rfl ((L + 1 : Nat)) (((L + 1 : Nat) : Int)) rfl rfl false (decide_eq_false (by omega))) ?_
      go_frame
      refine wpList_nil ?_
      go_upto_region 7 with (fail)
      refine wp_region_lit ?_
      refine ls_ex (some 29) (.slice (some ⟨b7, off7, none⟩) (valsF (mcF r (l1 + l2 + l3) n b L) (L + 1)).length c7) rfl rfl (exec_move _ rfl (.slice (some ⟨b7, off7, none⟩) (valsF (mcF r (l1 + l2 + l3) n b L) (L + 1)).length c7) rfl) ?_
      go_frame
      refine ls_ex (some 30) (.slice (some ⟨b7, off7, none⟩) (valsF (mcF r (l1 + l2 + l3) n b L) (L + 1)).length c7) rfl rfl (exec_move _ rfl (.slice (some ⟨b7, off7, none⟩) (valsF (mcF r (l1 + l2 + l3) n b L) (L + 1)).length c7) rfl) ?_
      go_frame
      refine ls_op rfl (fun K' hK' => ?_)
      have lz39 := hB.size
      have lz40 := h0.lt
      refine wp_call1 (some 31) rfl 67 _ _ rfl (fun args w => by kernel_rfl) _ rfl _ (sliceMin_c b7 off7 c7 (valsF (mcF r (l1 + l2 + l3) n b L) (L + 1)) _ hrd (by rw [hvl]; omega) (by rw [hvl]; omega)) (fun e Wz37 h => ?_)
      obtain ⟨rfl, rfl⟩ := h
      rw [hm]
      refine ⟨_, rfl, ?_⟩
      refine hK' _ _ ?_
      clear hK' K'
      go_frame
      refine ls_op rfl (fun K' hK' => ?_)
      have lz43 := hB.size
      have lz44 := h0.lt
      refine wp_call2 (some 32) rfl 66 _ _ _ rfl (fun args w => by kernel_rfl) _ _ rfl rfl _ (sliceIndex_c b7 off7 c7 (valsF (mcF r (l1 + l2 + l3) n b L) (L + 1)) (mnF (fun j => (mcF r (l1 + l2 + l3) n b L j).getD 0) L) (ixF (fun j => (mcF r (l1 + l2 + l3) n b L j).getD 0) L) _ hrd (by rw [hvl]; omega) (by rw [hvl]; omega) hia.1 hia.2) (fun e Wz41 h => ?_)
      obtain ⟨rfl, rfl⟩ := h
      refine ⟨_, rfl, ?_⟩
      refine hK' _ _ ?_
      clear hK' K'
      go_frame
      refine ls_ex (some 6) (.int .i64 (ixF (fun j => (mcF r (l1 + l2 + l3) n b L j).getD 0) L : Nat)) rfl rfl (exec_assign _ rfl (.int .i64 (ixF (fun j => (mcF r (l1 + l2 + l3) n b L j).getD 0) L : Nat)) rfl) ?_
      go_frame
      refine wpList_nil ?_
      go_wp2_with fail
      go_ret
      exact ⟨by rw [HE.out]; rfl, hB⟩
theorem bestO_some (n r l1 l2 l3 : Int) (L : Nat) (b : Int) (hn : 2 ≤ n ∧ n ≤ 3) (hr : 0 ≤ r ∧ r ≤ 30) (h1 : 0 ≤ l1 ∧ l1 ≤ 1000) (h2 : 0 ≤ l2 ∧ l2 ≤ 1000) (h3 : 0 ≤ l3 ∧ l3 ≤ 1000) (hL : L ≤ 8) (hb : 1 ≤ b ∧ b ≤ 1000) (w : World) (i : Nat) (h : blO r (l1 + l2 + l3) n b L = some i) : Calls Try.prog 46 #[.agg #[.int .i64 n, .int .i64 r, .int .i64 l1, .int .i64 l2, .int .i64 l3], .int .i64 (L : Int), .int .i64 b] w fun e w' => e = .returned (.int .i64 (i : Int)) ∧ Below w.heap.size w w' :=
  (bestLevels_c n r l1 l2 l3 L b hn hr h1 h2 h3 hL hb w).mono fun e w' he => by rw [h] at he; exact he
theorem bestO_none (n r l1 l2 l3 : Int) (L : Nat) (b : Int) (hn : 2 ≤ n ∧ n ≤ 3) (hr : 0 ≤ r ∧ r ≤ 30) (h1 : 0 ≤ l1 ∧ l1 ≤ 1000) (h2 : 0 ≤ l2 ∧ l2 ≤ 1000) (h3 : 0 ≤ l3 ∧ l3 ≤ 1000) (hL : L ≤ 8) (hb : 1 ≤ b ∧ b ≤ 1000) (w : World) (h : blO r (l1 + l2 + l3) n b L = none) : Calls Try.prog 46 #[.agg #[.int .i64 n, .int .i64 r, .int .i64 l1, .int .i64 l2, .int .i64 l3], .int .i64 (L : Int), .int .i64 b] w fun e w' => Fails e ∧ Below w.heap.size w w' :=
  (bestLevels_c n r l1 l2 l3 L b hn hr h1 h2 h3 hL hb w).mono fun e w' he => by rw [h] at he; exact he
set_option maxHeartbeats 6400000 in
theorem litB_some (p n m k : Int) (g c : Nat) (qs : List (List Nat)) (L : Nat) (b : Int) (w : World) (hR : Rd w (some ⟨g, 0, none⟩) qs) (hs : schemeB p n m k qs = true) (hn : 2 ≤ n ∧ n ≤ 3) (hL : L ≤ 8) (hb : 1 ≤ b ∧ b ≤ 1000) (g3 g4 g5 : Nat) (h3 : At w g3 (.cells #[.int .i64 p, .int .i64 n, .int .i64 m, .int .i64 k, .slice (some ⟨g, 0, none⟩) qs.length c] 31 (0, 0))) (h4 : At w g4 (.cells #[.int .i64 (L : Int)] 2 (0, 0))) (h5 : At w g5 (.cells #[.int .i64 b] 2 (0, 0))) (v : Nat) (ho : blO qs.length (coAdd qs) n b L = some v) :
    Calls Try.prog 45 #[.pointer (some ⟨g3, 0, none⟩), .pointer (some ⟨g4, 0, none⟩), .pointer (some ⟨g5, 0, none⟩)] w (fun e w' => e = .returned (.tuple #[.int .i64 (v : Int), .int .i64 0]) ∧ Below w.heap.size w w') := by
  have hB := Below.refl w.heap.size w
  have Hs := Lib.hid hs
  have Ho := Lib.hid ho
  have h30 := schemeB_len hs
  have hr : (0 : Int) ≤ qs.length ∧ (qs.length : Int) ≤ 30 := by omega
  have hc := co_bounds hs hR.good
  clear ho hs
  go_enter Try.func45, Try.ntmps45
  go_upto_region 0 with (fail)
  refine wp_region_lit ?_
  refine ls_ex (some 3) (.int .i64 0) rfl rfl (exec_assign _ rfl (.int .i64 0) rfl) ?_
  go_frame
  refine ls_ex (some 4) (.int .i64 0) rfl rfl (exec_assign _ rfl (.int .i64 0) rfl) ?_
  go_frame
  refine wpList_nil ?_
  go_upto_region 1 with (fail)
  refine wp_region_y (zs := []) (S := fun w' => Below w.heap.size w w' ∧ At w' g3 (.cells #[.int .i64 p, .int .i64 n, .int .i64 m, .int .i64 k, .slice (some ⟨g, 0, none⟩) qs.length c] 31 (0, 0)) ∧ At w' g4 (.cells #[.int .i64 (L : Int)] 2 (0, 0)) ∧ At w' g5 (.cells #[.int .i64 b] 2 (0, 0))) (S2 := fun w' => True) (by kernel_rfl) ?_
  change wpAnyY _ _ _ _ _ _ _ _ _ _ (World.drew _)
  generalize hwdz1 : World.drew _ = wdz1
  replace hB : Below w.heap.size w wdz1 := by rw [← hwdz1]; exact hB.drew
  replace h3 : At wdz1 g3 (.cells #[.int .i64 p, .int .i64 n, .int .i64 m, .int .i64 k, .slice (some ⟨g, 0, none⟩) qs.length c] 31 (0, 0)) := by rw [← hwdz1]; exact h3
  replace h4 : At wdz1 g4 (.cells #[.int .i64 (L : Int)] 2 (0, 0)) := by rw [← hwdz1]; exact h4
  replace h5 : At wdz1 g5 (.cells #[.int .i64 b] 2 (0, 0)) := by rw [← hwdz1]; exact h5
  clear hwdz1
  refine y_yield 0 (some 5) (.agg #[.int .i64 p, .int .i64 n, .int .i64 m, .int .i64 k, .slice (some ⟨g, 0, none⟩) qs.length c]) rfl (by kernel_rfl) (by kernel_rfl) (by kernel_rfl) (fun _ _ _ h => h) rfl rfl ⟨hB, h3, h4, h5⟩ (fun w' h' => exec_load_all 31 _ rfl g3 rfl _ _ _ h'.2.1 Try.underlying31 rfl 5 (by kernel_rfl) rfl) ?_
  go_frame
  refine y_yield 2 (some 7) (.int .i64 (L : Int)) rfl (by kernel_rfl) (by kernel_rfl) (by kernel_rfl) (fun _ _ _ h => h) rfl rfl ⟨hB, h3, h4, h5⟩ (fun w' h' => exec_load_one 2 _ rfl g4 0 rfl (.int .i64 (L : Int)) _ Try.underlying2 rfl (h'.2.2.1.at_ 0)) ?_
  go_frame
  refine y_yield 3 (some 8) (.int .i64 b) rfl (by kernel_rfl) (by kernel_rfl) (by kernel_rfl) (fun _ _ _ h => h) rfl rfl ⟨hB, h3, h4, h5⟩ (fun w' h' => exec_load_one 2 _ rfl g5 0 rfl (.int .i64 b) _ Try.underlying2 rfl (h'.2.2.2.at_ 0)) ?_
  go_frame
  refine y_oper 1 (by kernel_rfl) rfl rfl (fun K' hK' => ?_)
  have lz4 := hB.size
  have lz5 := h3.lt
  have lz6 := h4.lt
  have lz7 := h5.lt
  refine wp_call1 (some 6) rfl 37 _ _ rfl (fun args w => by kernel_rfl) _ rfl _ (repetitionOf_c p n m k g c qs _ (hR.keep hB) Hs.out) (fun e Wz2 h => ?_)
  obtain ⟨rfl, bz3⟩ := h
  replace hB := below_after hB bz3
  replace h3 := h3.after bz3
  replace h4 := h4.after bz3
  replace h5 := h5.after bz3
  clear bz3
  refine ⟨_, rfl, ?_⟩
  refine hK' _ _ ⟨hB, h3, h4, h5⟩ (fun _ => trivial) ?_
  clear hK' K'
  go_frame
  refine y_oper 4 (by kernel_rfl) rfl rfl (fun K' hK' => ?_)
  have lz10 := hB.size
  have lz11 := h3.lt
  have lz12 := h4.lt
  have lz13 := h5.lt
  refine wp_call3 (some 9) rfl 46 _ _ _ _ rfl (fun args w => by kernel_rfl) _ _ _ rfl rfl rfl _ (bestO_some n qs.length (wsI qs 0 qs.length) (wsI qs 9 qs.length) (lastI qs qs.length 9) L b hn hr hc.1 hc.2.1 hc.2.2 hL hb _ v Ho.out) (fun e Wz8 h => ?_)
  obtain ⟨rfl, bz9⟩ := h
  replace hB := below_after hB bz9
  replace h3 := h3.after bz9
  replace h4 := h4.after bz9
  replace h5 := h5.after bz9
  clear bz9
  refine ⟨_, rfl, ?_⟩
  refine hK' _ _ ⟨hB, h3, h4, h5⟩ (fun _ => trivial) ?_
  clear hK' K'
  go_frame
  refine y_oper 5 (by kernel_rfl) rfl rfl (fun K' hK' => ?_)
  refine wp_exec (some 3) rfl (.int .i64 (v : Int)) (exec_assign _ rfl (.int .i64 (v : Int)) rfl) ?_
  refine hK' _ _ ⟨hB, h3, h4, h5⟩ (fun _ => trivial) ?_
  clear hK' K'
  go_frame
  refine y_oper 6 (by kernel_rfl) rfl rfl (fun K' hK' => ?_)
  refine wp_exec (some 4) rfl (.int .i64 0) (exec_assign _ rfl (.int .i64 0) rfl) ?_
  refine hK' _ _ ⟨hB, h3, h4, h5⟩ (fun _ => trivial) ?_
  clear hK' K'
  go_frame
  refine y_done (by kernel_rfl) ?_ _
  go_wp2_with fail
  go_ret2
  exact ⟨rfl, hB⟩
set_option maxHeartbeats 6400000 in
theorem litB_none (p n m k : Int) (g c : Nat) (qs : List (List Nat)) (L : Nat) (b : Int) (w : World) (hR : Rd w (some ⟨g, 0, none⟩) qs) (hs : schemeB p n m k qs = true) (hn : 2 ≤ n ∧ n ≤ 3) (hL : L ≤ 8) (hb : 1 ≤ b ∧ b ≤ 1000) (g3 g4 g5 : Nat) (h3 : At w g3 (.cells #[.int .i64 p, .int .i64 n, .int .i64 m, .int .i64 k, .slice (some ⟨g, 0, none⟩) qs.length c] 31 (0, 0))) (h4 : At w g4 (.cells #[.int .i64 (L : Int)] 2 (0, 0))) (h5 : At w g5 (.cells #[.int .i64 b] 2 (0, 0))) (ho : blO qs.length (coAdd qs) n b L = none) :
    Calls Try.prog 45 #[.pointer (some ⟨g3, 0, none⟩), .pointer (some ⟨g4, 0, none⟩), .pointer (some ⟨g5, 0, none⟩)] w (fun e w' => Fails e ∧ Below w.heap.size w w') := by
  have hB := Below.refl w.heap.size w
  have Hs := Lib.hid hs
  have Ho := Lib.hid ho
  have h30 := schemeB_len hs
  have hr : (0 : Int) ≤ qs.length ∧ (qs.length : Int) ≤ 30 := by omega
  have hc := co_bounds hs hR.good
  clear ho hs
  go_enter Try.func45, Try.ntmps45
  go_upto_region 0 with (fail)
  refine wp_region_lit ?_
  refine ls_ex (some 3) (.int .i64 0) rfl rfl (exec_assign _ rfl (.int .i64 0) rfl) ?_
  go_frame
  refine ls_ex (some 4) (.int .i64 0) rfl rfl (exec_assign _ rfl (.int .i64 0) rfl) ?_
  go_frame
  refine wpList_nil ?_
  go_upto_region 1 with (fail)
  refine wp_region_y (zs := []) (S := fun w' => Below w.heap.size w w' ∧ At w' g3 (.cells #[.int .i64 p, .int .i64 n, .int .i64 m, .int .i64 k, .slice (some ⟨g, 0, none⟩) qs.length c] 31 (0, 0)) ∧ At w' g4 (.cells #[.int .i64 (L : Int)] 2 (0, 0)) ∧ At w' g5 (.cells #[.int .i64 b] 2 (0, 0))) (S2 := fun w' => True) (by kernel_rfl) ?_
  change wpAnyY _ _ _ _ _ _ _ _ _ _ (World.drew _)
  generalize hwdz1 : World.drew _ = wdz1
  replace hB : Below w.heap.size w wdz1 := by rw [← hwdz1]; exact hB.drew
  replace h3 : At wdz1 g3 (.cells #[.int .i64 p, .int .i64 n, .int .i64 m, .int .i64 k, .slice (some ⟨g, 0, none⟩) qs.length c] 31 (0, 0)) := by rw [← hwdz1]; exact h3
  replace h4 : At wdz1 g4 (.cells #[.int .i64 (L : Int)] 2 (0, 0)) := by rw [← hwdz1]; exact h4
  replace h5 : At wdz1 g5 (.cells #[.int .i64 b] 2 (0, 0)) := by rw [← hwdz1]; exact h5
  clear hwdz1
  refine y_yield 0 (some 5) (.agg #[.int .i64 p, .int .i64 n, .int .i64 m, .int .i64 k, .slice (some ⟨g, 0, none⟩) qs.length c]) rfl (by kernel_rfl) (by kernel_rfl) (by kernel_rfl) (fun _ _ _ h => h) rfl rfl ⟨hB, h3, h4, h5⟩ (fun w' h' => exec_load_all 31 _ rfl g3 rfl _ _ _ h'.2.1 Try.underlying31 rfl 5 (by kernel_rfl) rfl) ?_
  go_frame
  refine y_yield 2 (some 7) (.int .i64 (L : Int)) rfl (by kernel_rfl) (by kernel_rfl) (by kernel_rfl) (fun _ _ _ h => h) rfl rfl ⟨hB, h3, h4, h5⟩ (fun w' h' => exec_load_one 2 _ rfl g4 0 rfl (.int .i64 (L : Int)) _ Try.underlying2 rfl (h'.2.2.1.at_ 0)) ?_
  go_frame
  refine y_yield 3 (some 8) (.int .i64 b) rfl (by kernel_rfl) (by kernel_rfl) (by kernel_rfl) (fun _ _ _ h => h) rfl rfl ⟨hB, h3, h4, h5⟩ (fun w' h' => exec_load_one 2 _ rfl g5 0 rfl (.int .i64 b) _ Try.underlying2 rfl (h'.2.2.2.at_ 0)) ?_
  go_frame
  refine y_oper 1 (by kernel_rfl) rfl rfl (fun K' hK' => ?_)
  have lz4 := hB.size
  have lz5 := h3.lt
  have lz6 := h4.lt
  have lz7 := h5.lt
  refine wp_call1 (some 6) rfl 37 _ _ rfl (fun args w => by kernel_rfl) _ rfl _ (repetitionOf_c p n m k g c qs _ (hR.keep hB) Hs.out) (fun e Wz2 h => ?_)
  obtain ⟨rfl, bz3⟩ := h
  replace hB := below_after hB bz3
  replace h3 := h3.after bz3
  replace h4 := h4.after bz3
  replace h5 := h5.after bz3
  clear bz3
  refine ⟨_, rfl, ?_⟩
  refine hK' _ _ ⟨hB, h3, h4, h5⟩ (fun _ => trivial) ?_
  clear hK' K'
  go_frame
  refine y_oper 4 (by kernel_rfl) rfl rfl (fun K' hK' => ?_)
  have lz10 := hB.size
  have lz11 := h3.lt
  have lz12 := h4.lt
  have lz13 := h5.lt
  refine wp_call3_p 46 _ _ _ _ rfl (fun args w => by kernel_rfl) _ _ _ rfl rfl rfl _ (bestO_none n qs.length (wsI qs 0 qs.length) (wsI qs 9 qs.length) (lastI qs qs.length 9) L b hn hr hc.1 hc.2.1 hc.2.2 hL hb _ Ho.out) (fun e Wz8 h => ?_)
  obtain ⟨hf, bz9⟩ := h
  replace hB := below_after hB bz9
  replace h3 := h3.after bz9
  replace h4 := h4.after bz9
  replace h5 := h5.after bz9
  refine ⟨_, hf, ?_⟩
  exact ⟨rfl, rfl, hB⟩
set_option maxHeartbeats 6400000 in
theorem implBl_a (p n m k : Int) (g c : Nat) (qs : List (List Nat)) (l b : Int) (w : World) (hR : Rd w (some ⟨g, 0, none⟩) qs) (hlen : qs.length ≤ 1048576) (hl : (decide (0 ≤ l) && decide (l ≤ 8)) = false) :
    Calls Try.prog 21 #[.agg #[.int .i64 p, .int .i64 n, .int .i64 m, .int .i64 k, .slice (some ⟨g, 0, none⟩) qs.length c], .int .i64 l, .int .i64 b] w (fun e w' => e = .returned (.tuple #[.int .i64 (bcR p n m k qs l b), .int .i64 (bcCode p n m k qs l b)]) ∧ Below w.heap.size w w') := by
  have hB := Below.refl w.heap.size w
  have Hl := Lib.hid hl
  have hne := sqCode_ne p n m k qs
  have hcc : sqCode p n m k qs ((decide (0 ≤ l) && decide (l ≤ 8)) && (decide (1 ≤ b) && decide (b ≤ 1000))) = sqCode p n m k qs false := by rw [hl]; rfl
  have Hc : Hid (bcCode p n m k qs l b = sqCode p n m k qs false) := Lib.hid (by unfold bcCode; rw [hcc, if_neg hne])
  have Hr : Hid (bcR p n m k qs l b = 0) := Lib.hid (by unfold bcR; rw [hcc, if_neg hne])
  have Hne : Hid ((sqCode p n m k qs false != 0) = true) := Lib.hid (by simpa using hne)
  clear hl hne hcc
  go_enter Try.func21, Try.ntmps21
  go_upto_region 0 with (fail)
  refine wp_region_lit ?_
  refine ls_op rfl (fun K' hK' => ?_)
  have lz1 := hB.size
  refine wp_new (some 3) rfl (exec_box 31 _ rfl (#[.int .i64 p, .int .i64 n, .int .i64 m, .int .i64 k, .slice (some ⟨g, 0, none⟩) qs.length c]) rfl) (fun Wz2 nnz3 => ?_)
  have bz4 := nnz3.below (Below.refl _ _) (Nat.le_refl _)
  replace hB := below_after hB bz4
  have hz5 : At Wz2 w.heap.size (.cells #[.int .i64 p, .int .i64 n, .int .i64 m, .int .i64 k, .slice (some ⟨g, 0, none⟩) qs.length c] 31 (0, 0)) := nnz3.at_
  refine hK' _ _ ?_
  clear hK' K' nnz3 bz4
  go_frame
  refine ls_op rfl (fun K' hK' => ?_)
  have lz6 := hB.size
  have lz7 := hz5.lt
  refine wp_new (some 4) rfl (exec_box 2 _ rfl (#[.int .i64 l]) rfl) (fun Wz8 nnz9 => ?_)
  have bz10 := nnz9.below (Below.refl _ _) (Nat.le_refl _)
  replace hB := below_after hB bz10
  replace hz5 := hz5.after bz10
  have hz11 : At Wz8 Wz2.heap.size (.cells #[.int .i64 l] 2 (0, 0)) := nnz9.at_
  refine hK' _ _ ?_
  clear hK' K' nnz9 bz10
  go_frame
  refine ls_op rfl (fun K' hK' => ?_)
  have lz12 := hB.size
  have lz13 := hz5.lt
  have lz14 := hz11.lt
  refine wp_new (some 5) rfl (exec_box 2 _ rfl (#[.int .i64 b]) rfl) (fun Wz15 nnz16 => ?_)
  have bz17 := nnz16.below (Below.refl _ _) (Nat.le_refl _)
  replace hB := below_after hB bz17
  replace hz5 := hz5.after bz17
  replace hz11 := hz11.after bz17
  have hz18 : At Wz15 Wz8.heap.size (.cells #[.int .i64 b] 2 (0, 0)) := nnz16.at_
  refine hK' _ _ ?_
  clear hK' K' nnz16 bz17
  go_frame
  refine ls_ex (some 6) (.int .i64 0) rfl rfl (exec_assign _ rfl (.int .i64 0) rfl) ?_
  go_frame
  refine ls_ex (some 7) (.int .i64 0) rfl rfl (exec_assign _ rfl (.int .i64 0) rfl) ?_
  go_frame
  refine wpList_nil ?_
  go_upto_region 1 with (fail)
  refine wp_region_y (zs := []) (S := fun w' => Below w.heap.size w w' ∧ At w' w.heap.size (.cells #[.int .i64 p, .int .i64 n, .int .i64 m, .int .i64 k, .slice (some ⟨g, 0, none⟩) qs.length c] 31 (0, 0)) ∧ At w' Wz2.heap.size (.cells #[.int .i64 l] 2 (0, 0))) (S2 := fun w' => True) (by kernel_rfl) ?_
  change wpAnyY _ _ _ _ _ _ _ _ _ _ (World.drew _)
  generalize hwdz19 : World.drew _ = wdz19
  replace hB : Below w.heap.size w wdz19 := by rw [← hwdz19]; exact hB.drew
  replace hz5 : At wdz19 w.heap.size (.cells #[.int .i64 p, .int .i64 n, .int .i64 m, .int .i64 k, .slice (some ⟨g, 0, none⟩) qs.length c] 31 (0, 0)) := by rw [← hwdz19]; exact hz5
  replace hz11 : At wdz19 Wz2.heap.size (.cells #[.int .i64 l] 2 (0, 0)) := by rw [← hwdz19]; exact hz11
  replace hz18 : At wdz19 Wz8.heap.size (.cells #[.int .i64 b] 2 (0, 0)) := by rw [← hwdz19]; exact hz18
  clear hwdz19
  refine y_yield 0 (some 9) (.agg #[.int .i64 p, .int .i64 n, .int .i64 m, .int .i64 k, .slice (some ⟨g, 0, none⟩) qs.length c]) rfl (by kernel_rfl) (by kernel_rfl) (by kernel_rfl) (fun _ _ _ h => h) rfl rfl ⟨hB, hz5, hz11⟩ (fun w' h' => exec_load_all 31 _ rfl w.heap.size rfl _ _ _ h'.2.1 Try.underlying31 rfl 5 (by kernel_rfl) rfl) ?_
  go_frame
  refine y_yield 1 (some 10) (.int .i64 l) rfl (by kernel_rfl) (by kernel_rfl) (by kernel_rfl) (fun _ _ _ h => h) rfl rfl ⟨hB, hz5, hz11⟩ (fun w' h' => exec_load_one 2 _ rfl Wz2.heap.size 0 rfl (.int .i64 l) _ Try.underlying2 rfl (h'.2.2.at_ 0)) ?_
  go_frame
  refine y_oper 2 (by kernel_rfl) rfl rfl (fun K' hK' => ?_)
  have lz22 := hB.size
  have lz23 := hz5.lt
  have lz24 := hz11.lt
  have lz25 := hz18.lt
  refine wp_call1 (some 11) rfl 34 _ _ rfl (fun args w => by kernel_rfl) _ rfl _ (isLevels_c l _) (fun e Wz20 h => ?_)
  obtain ⟨rfl, rfl⟩ := h
  rw [Hl.out]
  refine ⟨_, rfl, ?_⟩
  refine hK' _ _ ⟨hB, hz5, hz11⟩ (fun _ => trivial) ?_
  clear hK' K'
  go_frame
  refine y_yield 3 (some 12) (.bool false) rfl (by kernel_rfl) (by kernel_rfl) (by kernel_rfl) (fun _ _ _ h => h) rfl rfl ⟨hB, hz5, hz11⟩ (fun w' h' => exec_move _ rfl (.bool false) rfl) ?_
  go_frame
  refine y_skip 4 (some 13) rfl (by kernel_rfl) (by kernel_rfl) (by kernel_rfl) (fun _ _ _ h => h) rfl rfl ⟨hB, hz5, hz11⟩ ?_
  go_frame
  refine y_pass 5 (some 14) (by kernel_rfl) rfl rfl rfl ⟨hB, hz5, hz11⟩ ?_
  go_frame
  refine y_yield 6 (some 15) (.bool false) rfl (by kernel_rfl) (by kernel_rfl) (by kernel_rfl) (fun _ _ _ h => h) rfl rfl ⟨hB, hz5, hz11⟩ (fun w' h' => exec_pick _ _ _ rfl false rfl (.bool false) rfl) ?_
  go_frame
  refine y_oper 7 (by kernel_rfl) rfl rfl (fun K' hK' => ?_)
  have lz28 := hB.size
  have lz29 := hz5.lt
  have lz30 := hz11.lt
  have lz31 := hz18.lt
  refine wp_call2 (some 16) rfl 33 _ _ _ rfl (fun args w => by kernel_rfl) _ _ rfl rfl _ (checkRepeated_c p n m k (some ⟨g, 0, none⟩) c qs false _ (hR.keep hB) hlen) (fun e Wz26 h => ?_)
  obtain ⟨rfl, bz27⟩ := h
  replace hB := below_after hB bz27
  replace hz5 := hz5.after bz27
  replace hz11 := hz11.after bz27
  replace hz18 := hz18.after bz27
  clear bz27
  refine ⟨_, rfl, ?_⟩
  refine hK' _ _ ⟨hB, hz5, hz11⟩ (fun _ => trivial) ?_
  clear hK' K'
  go_frame
  refine y_oper 8 (by kernel_rfl) rfl rfl (fun K' hK' => ?_)
  refine wp_exec (some 8) rfl (.int .i64 (sqCode p n m k qs false)) (exec_assign _ rfl (.int .i64 (sqCode p n m k qs false)) rfl) ?_
  refine hK' _ _ ⟨hB, hz5, hz11⟩ (fun _ => trivial) ?_
  clear hK' K'
  go_frame
  refine y_done (by kernel_rfl) ?_ _
  go_upto_region 2 with (fail)
  refine wp_region_lit ?_
  refine ls_ex (some 17) (.int .i64 (sqCode p n m k qs false)) rfl rfl (exec_move _ rfl (.int .i64 (sqCode p n m k qs false)) rfl) ?_
  go_frame
  refine ls_ex (some 18) (.bool true) rfl rfl (exec_neq _ _ _ _ rfl ((sqCode p n m k qs false)) 0 rfl rfl true Hne.out) ?_
  go_frame
  refine wpList_nil ?_
  go_upto_region 3 with (fail)
  refine wp_region_lit ?_
  refine ls_ex (some 19) (.int .i64 (sqCode p n m k qs false)) rfl rfl (exec_move _ rfl (.int .i64 (sqCode p n m k qs false)) rfl) ?_
  go_frame
  refine ls_ex (some 6) (.int .i64 0) rfl rfl (exec_assign _ rfl (.int .i64 0) rfl) ?_
  go_frame
  refine ls_ex (some 7) (.int .i64 (sqCode p n m k qs false)) rfl rfl (exec_assign _ rfl (.int .i64 (sqCode p n m k qs false)) rfl) ?_
  go_frame
  refine wpList_nil ?_
  go_wp2_with fail
  go_ret2
  exact ⟨by rw [Hr.out, Hc.out]; rfl, hB⟩
set_option maxHeartbeats 6400000 in
theorem implBl_b (p n m k : Int) (g c : Nat) (qs : List (List Nat)) (l b : Int) (w : World) (hR : Rd w (some ⟨g, 0, none⟩) qs) (hlen : qs.length ≤ 1048576) (hl : (decide (0 ≤ l) && decide (l ≤ 8)) = true) (hb : (decide (1 ≤ b) && decide (b ≤ 1000)) = false) :
    Calls Try.prog 21 #[.agg #[.int .i64 p, .int .i64 n, .int .i64 m, .int .i64 k, .slice (some ⟨g, 0, none⟩) qs.length c], .int .i64 l, .int .i64 b] w (fun e w' => e = .returned (.tuple #[.int .i64 (bcR p n m k qs l b), .int .i64 (bcCode p n m k qs l b)]) ∧ Below w.heap.size w w') := by
  have hB := Below.refl w.heap.size w
  have Hl := Lib.hid hl
  have Hb := Lib.hid hb
  have hne := sqCode_ne p n m k qs
  have hcc : sqCode p n m k qs ((decide (0 ≤ l) && decide (l ≤ 8)) && (decide (1 ≤ b) && decide (b ≤ 1000))) = sqCode p n m k qs false := by rw [hl, hb]; rfl
  have Hc : Hid (bcCode p n m k qs l b = sqCode p n m k qs false) := Lib.hid (by unfold bcCode; rw [hcc, if_neg hne])
  have Hr : Hid (bcR p n m k qs l b = 0) := Lib.hid (by unfold bcR; rw [hcc, if_neg hne])
  have Hne : Hid ((sqCode p n m k qs false != 0) = true) := Lib.hid (by simpa using hne)
  clear hl hb hne hcc
  go_enter Try.func21, Try.ntmps21
  go_upto_region 0 with (fail)
  refine wp_region_lit ?_
  refine ls_op rfl (fun K' hK' => ?_)
  have lz1 := hB.size
  refine wp_new (some 3) rfl (exec_box 31 _ rfl (#[.int .i64 p, .int .i64 n, .int .i64 m, .int .i64 k, .slice (some ⟨g, 0, none⟩) qs.length c]) rfl) (fun Wz2 nnz3 => ?_)
  have bz4 := nnz3.below (Below.refl _ _) (Nat.le_refl _)
  replace hB := below_after hB bz4
  have hz5 : At Wz2 w.heap.size (.cells #[.int .i64 p, .int .i64 n, .int .i64 m, .int .i64 k, .slice (some ⟨g, 0, none⟩) qs.length c] 31 (0, 0)) := nnz3.at_
  refine hK' _ _ ?_
  clear hK' K' nnz3 bz4
  go_frame
  refine ls_op rfl (fun K' hK' => ?_)
  have lz6 := hB.size
  have lz7 := hz5.lt
  refine wp_new (some 4) rfl (exec_box 2 _ rfl (#[.int .i64 l]) rfl) (fun Wz8 nnz9 => ?_)
  have bz10 := nnz9.below (Below.refl _ _) (Nat.le_refl _)
  replace hB := below_after hB bz10
  replace hz5 := hz5.after bz10
  have hz11 : At Wz8 Wz2.heap.size (.cells #[.int .i64 l] 2 (0, 0)) := nnz9.at_
  refine hK' _ _ ?_
  clear hK' K' nnz9 bz10
  go_frame
  refine ls_op rfl (fun K' hK' => ?_)
  have lz12 := hB.size
  have lz13 := hz5.lt
  have lz14 := hz11.lt
  refine wp_new (some 5) rfl (exec_box 2 _ rfl (#[.int .i64 b]) rfl) (fun Wz15 nnz16 => ?_)
  have bz17 := nnz16.below (Below.refl _ _) (Nat.le_refl _)
  replace hB := below_after hB bz17
  replace hz5 := hz5.after bz17
  replace hz11 := hz11.after bz17
  have hz18 : At Wz15 Wz8.heap.size (.cells #[.int .i64 b] 2 (0, 0)) := nnz16.at_
  refine hK' _ _ ?_
  clear hK' K' nnz16 bz17
  go_frame
  refine ls_ex (some 6) (.int .i64 0) rfl rfl (exec_assign _ rfl (.int .i64 0) rfl) ?_
  go_frame
  refine ls_ex (some 7) (.int .i64 0) rfl rfl (exec_assign _ rfl (.int .i64 0) rfl) ?_
  go_frame
  refine wpList_nil ?_
  go_upto_region 1 with (fail)
  refine wp_region_y (zs := []) (S := fun w' => Below w.heap.size w w' ∧ At w' w.heap.size (.cells #[.int .i64 p, .int .i64 n, .int .i64 m, .int .i64 k, .slice (some ⟨g, 0, none⟩) qs.length c] 31 (0, 0)) ∧ At w' Wz2.heap.size (.cells #[.int .i64 l] 2 (0, 0)) ∧ At w' Wz8.heap.size (.cells #[.int .i64 b] 2 (0, 0))) (S2 := fun w' => True) (by kernel_rfl) ?_
  change wpAnyY _ _ _ _ _ _ _ _ _ _ (World.drew _)
  generalize hwdz19 : World.drew _ = wdz19
  replace hB : Below w.heap.size w wdz19 := by rw [← hwdz19]; exact hB.drew
  replace hz5 : At wdz19 w.heap.size (.cells #[.int .i64 p, .int .i64 n, .int .i64 m, .int .i64 k, .slice (some ⟨g, 0, none⟩) qs.length c] 31 (0, 0)) := by rw [← hwdz19]; exact hz5
  replace hz11 : At wdz19 Wz2.heap.size (.cells #[.int .i64 l] 2 (0, 0)) := by rw [← hwdz19]; exact hz11
  replace hz18 : At wdz19 Wz8.heap.size (.cells #[.int .i64 b] 2 (0, 0)) := by rw [← hwdz19]; exact hz18
  clear hwdz19
  refine y_yield 0 (some 9) (.agg #[.int .i64 p, .int .i64 n, .int .i64 m, .int .i64 k, .slice (some ⟨g, 0, none⟩) qs.length c]) rfl (by kernel_rfl) (by kernel_rfl) (by kernel_rfl) (fun _ _ _ h => h) rfl rfl ⟨hB, hz5, hz11, hz18⟩ (fun w' h' => exec_load_all 31 _ rfl w.heap.size rfl _ _ _ h'.2.1 Try.underlying31 rfl 5 (by kernel_rfl) rfl) ?_
  go_frame
  refine y_yield 1 (some 10) (.int .i64 l) rfl (by kernel_rfl) (by kernel_rfl) (by kernel_rfl) (fun _ _ _ h => h) rfl rfl ⟨hB, hz5, hz11, hz18⟩ (fun w' h' => exec_load_one 2 _ rfl Wz2.heap.size 0 rfl (.int .i64 l) _ Try.underlying2 rfl (h'.2.2.1.at_ 0)) ?_
  go_frame
  refine y_oper 2 (by kernel_rfl) rfl rfl (fun K' hK' => ?_)
  have lz22 := hB.size
  have lz23 := hz5.lt
  have lz24 := hz11.lt
  have lz25 := hz18.lt
  refine wp_call1 (some 11) rfl 34 _ _ rfl (fun args w => by kernel_rfl) _ rfl _ (isLevels_c l _) (fun e Wz20 h => ?_)
  obtain ⟨rfl, rfl⟩ := h
  rw [Hl.out]
  refine ⟨_, rfl, ?_⟩
  refine hK' _ _ ⟨hB, hz5, hz11, hz18⟩ (fun _ => trivial) ?_
  clear hK' K'
  go_frame
  refine y_yield 3 (some 12) (.bool true) rfl (by kernel_rfl) (by kernel_rfl) (by kernel_rfl) (fun _ _ _ h => h) rfl rfl ⟨hB, hz5, hz11, hz18⟩ (fun w' h' => exec_move _ rfl (.bool true) rfl) ?_
  go_frame
  refine y_yield 4 (some 13) (.int .i64 b) rfl (by kernel_rfl) (by kernel_rfl) (by kernel_rfl) (fun _ _ _ h => h) rfl rfl ⟨hB, hz5, hz11, hz18⟩ (fun w' h' => exec_load_one 2 _ rfl Wz8.heap.size 0 rfl (.int .i64 b) _ Try.underlying2 rfl (h'.2.2.2.at_ 0)) ?_
  go_frame
  refine y_oper 5 (by kernel_rfl) rfl rfl (fun K' hK' => ?_)
  have lz28 := hB.size
  have lz29 := hz5.lt
  have lz30 := hz11.lt
  have lz31 := hz18.lt
  refine wp_call1 (some 14) rfl 41 _ _ rfl (fun args w => by kernel_rfl) _ rfl _ (isBase_c b _) (fun e Wz26 h => ?_)
  obtain ⟨rfl, rfl⟩ := h
  rw [Hb.out]
  refine ⟨_, rfl, ?_⟩
  refine hK' _ _ ⟨hB, hz5, hz11, hz18⟩ (fun _ => trivial) ?_
  clear hK' K'
  go_frame
  refine y_yield 6 (some 15) (.bool false) rfl (by kernel_rfl) (by kernel_rfl) (by kernel_rfl) (fun _ _ _ h => h) rfl rfl ⟨hB, hz5, hz11, hz18⟩ (fun w' h' => exec_pick _ _ _ rfl true rfl (.bool false) rfl) ?_
  go_frame
  refine y_oper 7 (by kernel_rfl) rfl rfl (fun K' hK' => ?_)
  have lz34 := hB.size
  have lz35 := hz5.lt
  have lz36 := hz11.lt
  have lz37 := hz18.lt
  refine wp_call2 (some 16) rfl 33 _ _ _ rfl (fun args w => by kernel_rfl) _ _ rfl rfl _ (checkRepeated_c p n m k (some ⟨g, 0, none⟩) c qs false _ (hR.keep hB) hlen) (fun e Wz32 h => ?_)
  obtain ⟨rfl, bz33⟩ := h
  replace hB := below_after hB bz33
  replace hz5 := hz5.after bz33
  replace hz11 := hz11.after bz33
  replace hz18 := hz18.after bz33
  clear bz33
  refine ⟨_, rfl, ?_⟩
  refine hK' _ _ ⟨hB, hz5, hz11, hz18⟩ (fun _ => trivial) ?_
  clear hK' K'
  go_frame
  refine y_oper 8 (by kernel_rfl) rfl rfl (fun K' hK' => ?_)
  refine wp_exec (some 8) rfl (.int .i64 (sqCode p n m k qs false)) (exec_assign _ rfl (.int .i64 (sqCode p n m k qs false)) rfl) ?_
  refine hK' _ _ ⟨hB, hz5, hz11, hz18⟩ (fun _ => trivial) ?_
  clear hK' K'
  go_frame
  refine y_done (by kernel_rfl) ?_ _
  go_upto_region 2 with (fail)
  refine wp_region_lit ?_
  refine ls_ex (some 17) (.int .i64 (sqCode p n m k qs false)) rfl rfl (exec_move _ rfl (.int .i64 (sqCode p n m k qs false)) rfl) ?_
  go_frame
  refine ls_ex (some 18) (.bool true) rfl rfl (exec_neq _ _ _ _ rfl ((sqCode p n m k qs false)) 0 rfl rfl true Hne.out) ?_
  go_frame
  refine wpList_nil ?_
  go_upto_region 3 with (fail)
  refine wp_region_lit ?_
  refine ls_ex (some 19) (.int .i64 (sqCode p n m k qs false)) rfl rfl (exec_move _ rfl (.int .i64 (sqCode p n m k qs false)) rfl) ?_
  go_frame
  refine ls_ex (some 6) (.int .i64 0) rfl rfl (exec_assign _ rfl (.int .i64 0) rfl) ?_
  go_frame
  refine ls_ex (some 7) (.int .i64 (sqCode p n m k qs false)) rfl rfl (exec_assign _ rfl (.int .i64 (sqCode p n m k qs false)) rfl) ?_
  go_frame
  refine wpList_nil ?_
  go_wp2_with fail
  go_ret2
  exact ⟨by rw [Hr.out, Hc.out]; rfl, hB⟩
set_option maxHeartbeats 6400000 in
theorem implBl_c (p n m k : Int) (g c : Nat) (qs : List (List Nat)) (l b : Int) (w : World) (hR : Rd w (some ⟨g, 0, none⟩) qs) (hlen : qs.length ≤ 1048576) (hl : (decide (0 ≤ l) && decide (l ≤ 8)) = true) (hb : (decide (1 ≤ b) && decide (b ≤ 1000)) = true) (hne : sqCode p n m k qs true ≠ 0) :
    Calls Try.prog 21 #[.agg #[.int .i64 p, .int .i64 n, .int .i64 m, .int .i64 k, .slice (some ⟨g, 0, none⟩) qs.length c], .int .i64 l, .int .i64 b] w (fun e w' => e = .returned (.tuple #[.int .i64 (bcR p n m k qs l b), .int .i64 (bcCode p n m k qs l b)]) ∧ Below w.heap.size w w') := by
  have hB := Below.refl w.heap.size w
  have Hl := Lib.hid hl
  have Hb := Lib.hid hb
  have hcc : sqCode p n m k qs ((decide (0 ≤ l) && decide (l ≤ 8)) && (decide (1 ≤ b) && decide (b ≤ 1000))) = sqCode p n m k qs true := by rw [hl, hb]; rfl
  have Hc : Hid (bcCode p n m k qs l b = sqCode p n m k qs true) := Lib.hid (by unfold bcCode; rw [hcc, if_neg hne])
  have Hr : Hid (bcR p n m k qs l b = 0) := Lib.hid (by unfold bcR; rw [hcc, if_neg hne])
  have Hne : Hid ((sqCode p n m k qs true != 0) = true) := Lib.hid (by simpa using hne)
  clear hl hb hne hcc
  go_enter Try.func21, Try.ntmps21
  go_upto_region 0 with (fail)
  refine wp_region_lit ?_
  refine ls_op rfl (fun K' hK' => ?_)
  have lz1 := hB.size
  refine wp_new (some 3) rfl (exec_box 31 _ rfl (#[.int .i64 p, .int .i64 n, .int .i64 m, .int .i64 k, .slice (some ⟨g, 0, none⟩) qs.length c]) rfl) (fun Wz2 nnz3 => ?_)
  have bz4 := nnz3.below (Below.refl _ _) (Nat.le_refl _)
  replace hB := below_after hB bz4
  have hz5 : At Wz2 w.heap.size (.cells #[.int .i64 p, .int .i64 n, .int .i64 m, .int .i64 k, .slice (some ⟨g, 0, none⟩) qs.length c] 31 (0, 0)) := nnz3.at_
  refine hK' _ _ ?_
  clear hK' K' nnz3 bz4
  go_frame
  refine ls_op rfl (fun K' hK' => ?_)
  have lz6 := hB.size
  have lz7 := hz5.lt
  refine wp_new (some 4) rfl (exec_box 2 _ rfl (#[.int .i64 l]) rfl) (fun Wz8 nnz9 => ?_)
  have bz10 := nnz9.below (Below.refl _ _) (Nat.le_refl _)
  replace hB := below_after hB bz10
  replace hz5 := hz5.after bz10
  have hz11 : At Wz8 Wz2.heap.size (.cells #[.int .i64 l] 2 (0, 0)) := nnz9.at_
  refine hK' _ _ ?_
  clear hK' K' nnz9 bz10
  go_frame
  refine ls_op rfl (fun K' hK' => ?_)
  have lz12 := hB.size
  have lz13 := hz5.lt
  have lz14 := hz11.lt
  refine wp_new (some 5) rfl (exec_box 2 _ rfl (#[.int .i64 b]) rfl) (fun Wz15 nnz16 => ?_)
  have bz17 := nnz16.below (Below.refl _ _) (Nat.le_refl _)
  replace hB := below_after hB bz17
  replace hz5 := hz5.after bz17
  replace hz11 := hz11.after bz17
  have hz18 : At Wz15 Wz8.heap.size (.cells #[.int .i64 b] 2 (0, 0)) := nnz16.at_
  refine hK' _ _ ?_
  clear hK' K' nnz16 bz17
  go_frame
  refine ls_ex (some 6) (.int .i64 0) rfl rfl (exec_assign _ rfl (.int .i64 0) rfl) ?_
  go_frame
  refine ls_ex (some 7) (.int .i64 0) rfl rfl (exec_assign _ rfl (.int .i64 0) rfl) ?_
  go_frame
  refine wpList_nil ?_
  go_upto_region 1 with (fail)
  refine wp_region_y (zs := []) (S := fun w' => Below w.heap.size w w' ∧ At w' w.heap.size (.cells #[.int .i64 p, .int .i64 n, .int .i64 m, .int .i64 k, .slice (some ⟨g, 0, none⟩) qs.length c] 31 (0, 0)) ∧ At w' Wz2.heap.size (.cells #[.int .i64 l] 2 (0, 0)) ∧ At w' Wz8.heap.size (.cells #[.int .i64 b] 2 (0, 0))) (S2 := fun w' => True) (by kernel_rfl) ?_
  change wpAnyY _ _ _ _ _ _ _ _ _ _ (World.drew _)
  generalize hwdz19 : World.drew _ = wdz19
  replace hB : Below w.heap.size w wdz19 := by rw [← hwdz19]; exact hB.drew
  replace hz5 : At wdz19 w.heap.size (.cells #[.int .i64 p, .int .i64 n, .int .i64 m, .int .i64 k, .slice (some ⟨g, 0, none⟩) qs.length c] 31 (0, 0)) := by rw [← hwdz19]; exact hz5
  replace hz11 : At wdz19 Wz2.heap.size (.cells #[.int .i64 l] 2 (0, 0)) := by rw [← hwdz19]; exact hz11
  replace hz18 : At wdz19 Wz8.heap.size (.cells #[.int .i64 b] 2 (0, 0)) := by rw [← hwdz19]; exact hz18
  clear hwdz19
  refine y_yield 0 (some 9) (.agg #[.int .i64 p, .int .i64 n, .int .i64 m, .int .i64 k, .slice (some ⟨g, 0, none⟩) qs.length c]) rfl (by kernel_rfl) (by kernel_rfl) (by kernel_rfl) (fun _ _ _ h => h) rfl rfl ⟨hB, hz5, hz11, hz18⟩ (fun w' h' => exec_load_all 31 _ rfl w.heap.size rfl _ _ _ h'.2.1 Try.underlying31 rfl 5 (by kernel_rfl) rfl) ?_
  go_frame
  refine y_yield 1 (some 10) (.int .i64 l) rfl (by kernel_rfl) (by kernel_rfl) (by kernel_rfl) (fun _ _ _ h => h) rfl rfl ⟨hB, hz5, hz11, hz18⟩ (fun w' h' => exec_load_one 2 _ rfl Wz2.heap.size 0 rfl (.int .i64 l) _ Try.underlying2 rfl (h'.2.2.1.at_ 0)) ?_
  go_frame
  refine y_oper 2 (by kernel_rfl) rfl rfl (fun K' hK' => ?_)
  have lz22 := hB.size
  have lz23 := hz5.lt
  have lz24 := hz11.lt
  have lz25 := hz18.lt
  refine wp_call1 (some 11) rfl 34 _ _ rfl (fun args w => by kernel_rfl) _ rfl _ (isLevels_c l _) (fun e Wz20 h => ?_)
  obtain ⟨rfl, rfl⟩ := h
  rw [Hl.out]
  refine ⟨_, rfl, ?_⟩
  refine hK' _ _ ⟨hB, hz5, hz11, hz18⟩ (fun _ => trivial) ?_
  clear hK' K'
  go_frame
  refine y_yield 3 (some 12) (.bool true) rfl (by kernel_rfl) (by kernel_rfl) (by kernel_rfl) (fun _ _ _ h => h) rfl rfl ⟨hB, hz5, hz11, hz18⟩ (fun w' h' => exec_move _ rfl (.bool true) rfl) ?_
  go_frame
  refine y_yield 4 (some 13) (.int .i64 b) rfl (by kernel_rfl) (by kernel_rfl) (by kernel_rfl) (fun _ _ _ h => h) rfl rfl ⟨hB, hz5, hz11, hz18⟩ (fun w' h' => exec_load_one 2 _ rfl Wz8.heap.size 0 rfl (.int .i64 b) _ Try.underlying2 rfl (h'.2.2.2.at_ 0)) ?_
  go_frame
  refine y_oper 5 (by kernel_rfl) rfl rfl (fun K' hK' => ?_)
  have lz28 := hB.size
  have lz29 := hz5.lt
  have lz30 := hz11.lt
  have lz31 := hz18.lt
  refine wp_call1 (some 14) rfl 41 _ _ rfl (fun args w => by kernel_rfl) _ rfl _ (isBase_c b _) (fun e Wz26 h => ?_)
  obtain ⟨rfl, rfl⟩ := h
  rw [Hb.out]
  refine ⟨_, rfl, ?_⟩
  refine hK' _ _ ⟨hB, hz5, hz11, hz18⟩ (fun _ => trivial) ?_
  clear hK' K'
  go_frame
  refine y_yield 6 (some 15) (.bool true) rfl (by kernel_rfl) (by kernel_rfl) (by kernel_rfl) (fun _ _ _ h => h) rfl rfl ⟨hB, hz5, hz11, hz18⟩ (fun w' h' => exec_pick _ _ _ rfl true rfl (.bool true) rfl) ?_
  go_frame
  refine y_oper 7 (by kernel_rfl) rfl rfl (fun K' hK' => ?_)
  have lz34 := hB.size
  have lz35 := hz5.lt
  have lz36 := hz11.lt
  have lz37 := hz18.lt
  refine wp_call2 (some 16) rfl 33 _ _ _ rfl (fun args w => by kernel_rfl) _ _ rfl rfl _ (checkRepeated_c p n m k (some ⟨g, 0, none⟩) c qs true _ (hR.keep hB) hlen) (fun e Wz32 h => ?_)
  obtain ⟨rfl, bz33⟩ := h
  replace hB := below_after hB bz33
  replace hz5 := hz5.after bz33
  replace hz11 := hz11.after bz33
  replace hz18 := hz18.after bz33
  clear bz33
  refine ⟨_, rfl, ?_⟩
  refine hK' _ _ ⟨hB, hz5, hz11, hz18⟩ (fun _ => trivial) ?_
  clear hK' K'
  go_frame
  refine y_oper 8 (by kernel_rfl) rfl rfl (fun K' hK' => ?_)
  refine wp_exec (some 8) rfl (.int .i64 (sqCode p n m k qs true)) (exec_assign _ rfl (.int .i64 (sqCode p n m k qs true)) rfl) ?_
  refine hK' _ _ ⟨hB, hz5, hz11, hz18⟩ (fun _ => trivial) ?_
  clear hK' K'
  go_frame
  refine y_done (by kernel_rfl) ?_ _
  go_upto_region 2 with (fail)
  refine wp_region_lit ?_
  refine ls_ex (some 17) (.int .i64 (sqCode p n m k qs true)) rfl rfl (exec_move _ rfl (.int .i64 (sqCode p n m k qs true)) rfl) ?_
  go_frame
  refine ls_ex (some 18) (.bool true) rfl rfl (exec_neq _ _ _ _ rfl ((sqCode p n m k qs true)) 0 rfl rfl true Hne.out) ?_
  go_frame
  refine wpList_nil ?_
  go_upto_region 3 with (fail)
  refine wp_region_lit ?_
  refine ls_ex (some 19) (.int .i64 (sqCode p n m k qs true)) rfl rfl (exec_move _ rfl (.int .i64 (sqCode p n m k qs true)) rfl) ?_
  go_frame
  refine ls_ex (some 6) (.int .i64 0) rfl rfl (exec_assign _ rfl (.int .i64 0) rfl) ?_
  go_frame
  refine ls_ex (some 7) (.int .i64 (sqCode p n m k qs true)) rfl rfl (exec_assign _ rfl (.int .i64 (sqCode p n m k qs true)) rfl) ?_
  go_frame
  refine wpList_nil ?_
  go_wp2_with fail
  go_ret2
  exact ⟨by rw [Hr.out, Hc.out]; rfl, hB⟩
set_option maxHeartbeats 6400000 in
theorem implBl_d (p n m k : Int) (g c : Nat) (qs : List (List Nat)) (L : Nat) (b : Int) (w : World) (hR : Rd w (some ⟨g, 0, none⟩) qs) (hlen : qs.length ≤ 1048576) (hl : (decide (0 ≤ (L : Int)) && decide ((L : Int) ≤ 8)) = true) (hb : (decide (1 ≤ b) && decide (b ≤ 1000)) = true) (h0 : sqCode p n m k qs true = 0) (ho : blO qs.length (coAdd qs) n b L = none) :
    Calls Try.prog 21 #[.agg #[.int .i64 p, .int .i64 n, .int .i64 m, .int .i64 k, .slice (some ⟨g, 0, none⟩) qs.length c], .int .i64 (L : Int), .int .i64 b] w (fun e w' => e = .returned (.tuple #[.int .i64 (bcR p n m k qs L b), .int .i64 (bcCode p n m k qs L b)]) ∧ Below w.heap.size w w') := by
  have hB := Below.refl w.heap.size w
  have hL : L ≤ 8 := by simp only [Bool.and_eq_true, decide_eq_true_eq] at hl; omega
  have hb1 : 1 ≤ b := by simp only [Bool.and_eq_true, decide_eq_true_eq] at hb; omega
  have hb5 : b ≤ 1000 := by simp only [Bool.and_eq_true, decide_eq_true_eq] at hb; omega
  have hf := sq_facts h0
  have hn : 2 ≤ n ∧ n ≤ 3 := ⟨hf.2.1, hf.2.2.1⟩
  have Hs := Lib.hid hf.1
  have H0 := Lib.hid h0
  have Hl := Lib.hid hl
  have Hb := Lib.hid hb
  have Ho := Lib.hid ho
  have hcc : sqCode p n m k qs ((decide (0 ≤ (L : Int)) && decide ((L : Int) ≤ 8)) && (decide (1 ≤ b) && decide (b ≤ 1000))) = 0 := by rw [hl, hb]; exact h0
  have Hc : Hid (bcCode p n m k qs L b = 3) := Lib.hid (by unfold bcCode; rw [if_pos hcc, Int.toNat_natCast, ho])
  have Hr : Hid (bcR p n m k qs L b = 0) := Lib.hid (by unfold bcR; rw [if_pos hcc, Int.toNat_natCast, ho])
  clear hl hb h0 hf ho hcc
  go_enter Try.func21, Try.ntmps21
  go_upto_region 0 with (fail)
  refine wp_region_lit ?_
  refine ls_op rfl (fun K' hK' => ?_)
  have lz1 := hB.size
  refine wp_new (some 3) rfl (exec_box 31 _ rfl (#[.int .i64 p, .int .i64 n, .int .i64 m, .int .i64 k, .slice (some ⟨g, 0, none⟩) qs.length c]) rfl) (fun Wz2 nnz3 => ?_)
  have bz4 := nnz3.below (Below.refl _ _) (Nat.le_refl _)
  replace hB := below_after hB bz4
  have hz5 : At Wz2 w.heap.size (.cells #[.int .i64 p, .int .i64 n, .int .i64 m, .int .i64 k, .slice (some ⟨g, 0, none⟩) qs.length c] 31 (0, 0)) := nnz3.at_
  refine hK' _ _ ?_
  clear hK' K' nnz3 bz4
  go_frame
  refine ls_op rfl (fun K' hK' => ?_)
  have lz6 := hB.size
  have lz7 := hz5.lt
  refine wp_new (some 4) rfl (exec_box 2 _ rfl (#[.int .i64 (L : Int)]) rfl) (fun Wz8 nnz9 => ?_)
  have bz10 := nnz9.below (Below.refl _ _) (Nat.le_refl _)
  replace hB := below_after hB bz10
  replace hz5 := hz5.after bz10
  have hz11 : At Wz8 Wz2.heap.size (.cells #[.int .i64 (L : Int)] 2 (0, 0)) := nnz9.at_
  refine hK' _ _ ?_
  clear hK' K' nnz9 bz10
  go_frame
  refine ls_op rfl (fun K' hK' => ?_)
  have lz12 := hB.size
  have lz13 := hz5.lt
  have lz14 := hz11.lt
  refine wp_new (some 5) rfl (exec_box 2 _ rfl (#[.int .i64 b]) rfl) (fun Wz15 nnz16 => ?_)
  have bz17 := nnz16.below (Below.refl _ _) (Nat.le_refl _)
  replace hB := below_after hB bz17
  replace hz5 := hz5.after bz17
  replace hz11 := hz11.after bz17
  have hz18 : At Wz15 Wz8.heap.size (.cells #[.int .i64 b] 2 (0, 0)) := nnz16.at_
  refine hK' _ _ ?_
  clear hK' K' nnz16 bz17
  go_frame
  refine ls_ex (some 6) (.int .i64 0) rfl rfl (exec_assign _ rfl (.int .i64 0) rfl) ?_
  go_frame
  refine ls_ex (some 7) (.int .i64 0) rfl rfl (exec_assign _ rfl (.int .i64 0) rfl) ?_
  go_frame
  refine wpList_nil ?_
  go_upto_region 1 with (fail)
  refine wp_region_y (zs := []) (S := fun w' => Below w.heap.size w w' ∧ At w' w.heap.size (.cells #[.int .i64 p, .int .i64 n, .int .i64 m, .int .i64 k, .slice (some ⟨g, 0, none⟩) qs.length c] 31 (0, 0)) ∧ At w' Wz2.heap.size (.cells #[.int .i64 (L : Int)] 2 (0, 0)) ∧ At w' Wz8.heap.size (.cells #[.int .i64 b] 2 (0, 0))) (S2 := fun w' => True) (by kernel_rfl) ?_
  change wpAnyY _ _ _ _ _ _ _ _ _ _ (World.drew _)
  generalize hwdz19 : World.drew _ = wdz19
  replace hB : Below w.heap.size w wdz19 := by rw [← hwdz19]; exact hB.drew
  replace hz5 : At wdz19 w.heap.size (.cells #[.int .i64 p, .int .i64 n, .int .i64 m, .int .i64 k, .slice (some ⟨g, 0, none⟩) qs.length c] 31 (0, 0)) := by rw [← hwdz19]; exact hz5
  replace hz11 : At wdz19 Wz2.heap.size (.cells #[.int .i64 (L : Int)] 2 (0, 0)) := by rw [← hwdz19]; exact hz11
  replace hz18 : At wdz19 Wz8.heap.size (.cells #[.int .i64 b] 2 (0, 0)) := by rw [← hwdz19]; exact hz18
  clear hwdz19
  refine y_yield 0 (some 9) (.agg #[.int .i64 p, .int .i64 n, .int .i64 m, .int .i64 k, .slice (some ⟨g, 0, none⟩) qs.length c]) rfl (by kernel_rfl) (by kernel_rfl) (by kernel_rfl) (fun _ _ _ h => h) rfl rfl ⟨hB, hz5, hz11, hz18⟩ (fun w' h' => exec_load_all 31 _ rfl w.heap.size rfl _ _ _ h'.2.1 Try.underlying31 rfl 5 (by kernel_rfl) rfl) ?_
  go_frame
  refine y_yield 1 (some 10) (.int .i64 (L : Int)) rfl (by kernel_rfl) (by kernel_rfl) (by kernel_rfl) (fun _ _ _ h => h) rfl rfl ⟨hB, hz5, hz11, hz18⟩ (fun w' h' => exec_load_one 2 _ rfl Wz2.heap.size 0 rfl (.int .i64 (L : Int)) _ Try.underlying2 rfl (h'.2.2.1.at_ 0)) ?_
  go_frame
  refine y_oper 2 (by kernel_rfl) rfl rfl (fun K' hK' => ?_)
  have lz22 := hB.size
  have lz23 := hz5.lt
  have lz24 := hz11.lt
  have lz25 := hz18.lt
  refine wp_call1 (some 11) rfl 34 _ _ rfl (fun args w => by kernel_rfl) _ rfl _ (isLevels_c (L : Int) _) (fun e Wz20 h => ?_)
  obtain ⟨rfl, rfl⟩ := h
  rw [Hl.out]
  refine ⟨_, rfl, ?_⟩
  refine hK' _ _ ⟨hB, hz5, hz11, hz18⟩ (fun _ => trivial) ?_
  clear hK' K'
  go_frame
  refine y_yield 3 (some 12) (.bool true) rfl (by kernel_rfl) (by kernel_rfl) (by kernel_rfl) (fun _ _ _ h => h) rfl rfl ⟨hB, hz5, hz11, hz18⟩ (fun w' h' => exec_move _ rfl (.bool true) rfl) ?_
  go_frame
  refine y_yield 4 (some 13) (.int .i64 b) rfl (by kernel_rfl) (by kernel_rfl) (by kernel_rfl) (fun _ _ _ h => h) rfl rfl ⟨hB, hz5, hz11, hz18⟩ (fun w' h' => exec_load_one 2 _ rfl Wz8.heap.size 0 rfl (.int .i64 b) _ Try.underlying2 rfl (h'.2.2.2.at_ 0)) ?_
  go_frame
  refine y_oper 5 (by kernel_rfl) rfl rfl (fun K' hK' => ?_)
  have lz28 := hB.size
  have lz29 := hz5.lt
  have lz30 := hz11.lt
  have lz31 := hz18.lt
  refine wp_call1 (some 14) rfl 41 _ _ rfl (fun args w => by kernel_rfl) _ rfl _ (isBase_c b _) (fun e Wz26 h => ?_)
  obtain ⟨rfl, rfl⟩ := h
  rw [Hb.out]
  refine ⟨_, rfl, ?_⟩
  refine hK' _ _ ⟨hB, hz5, hz11, hz18⟩ (fun _ => trivial) ?_
  clear hK' K'
  go_frame
  refine y_yield 6 (some 15) (.bool true) rfl (by kernel_rfl) (by kernel_rfl) (by kernel_rfl) (fun _ _ _ h => h) rfl rfl ⟨hB, hz5, hz11, hz18⟩ (fun w' h' => exec_pick _ _ _ rfl true rfl (.bool true) rfl) ?_
  go_frame
  refine y_oper 7 (by kernel_rfl) rfl rfl (fun K' hK' => ?_)
  have lz34 := hB.size
  have lz35 := hz5.lt
  have lz36 := hz11.lt
  have lz37 := hz18.lt
  refine wp_call2 (some 16) rfl 33 _ _ _ rfl (fun args w => by kernel_rfl) _ _ rfl rfl _ (checkRepeated_c p n m k (some ⟨g, 0, none⟩) c qs true _ (hR.keep hB) hlen) (fun e Wz32 h => ?_)
  obtain ⟨rfl, bz33⟩ := h
  replace hB := below_after hB bz33
  replace hz5 := hz5.after bz33
  replace hz11 := hz11.after bz33
  replace hz18 := hz18.after bz33
  rw [H0.out]
  clear bz33
  refine ⟨_, rfl, ?_⟩
  refine hK' _ _ ⟨hB, hz5, hz11, hz18⟩ (fun _ => trivial) ?_
  clear hK' K'
  go_frame
  refine y_oper 8 (by kernel_rfl) rfl rfl (fun K' hK' => ?_)
  refine wp_exec (some 8) rfl (.int .i64 0) (exec_assign _ rfl (.int .i64 0) rfl) ?_
  refine hK' _ _ ⟨hB, hz5, hz11, hz18⟩ (fun _ => trivial) ?_
  clear hK' K'
  go_frame
  refine y_done (by kernel_rfl) ?_ _
  go_upto_region 2 with (fail)
  refine wp_region_lit ?_
  refine ls_ex (some 17) (.int .i64 0) rfl rfl (exec_move _ rfl (.int .i64 0) rfl) ?_
  go_frame
  refine ls_ex (some 18) (.bool false) rfl rfl (exec_neq _ _ _ _ rfl 0 0 rfl rfl false rfl) ?_
  go_frame
  refine wpList_nil ?_
  go_upto_region 4 with (fail)
  refine wp_region_lit ?_
  refine ls_ex (some 20) (.func (.func 45) #[] #[.pointer (some ⟨w.heap.size, 0, none⟩), .pointer (some ⟨Wz2.heap.size, 0, none⟩), .pointer (some ⟨Wz8.heap.size, 0, none⟩)]) rfl rfl (exec_mkf3 _ _ _ _ rfl _ _ _ rfl rfl rfl) ?_
  go_frame
  refine ls_op rfl (fun K' hK' => ?_)
  have lz40 := hB.size
  have lz41 := hz5.lt
  have lz42 := hz11.lt
  have lz43 := hz18.lt
  refine wp_call1 (some 21) rfl 42 _ _ rfl (fun args w => by kernel_rfl) _ rfl _ (doorI_no 45 #[.pointer (some ⟨w.heap.size, 0, none⟩), .pointer (some ⟨Wz2.heap.size, 0, none⟩), .pointer (some ⟨Wz8.heap.size, 0, none⟩)] _ (fun w => by kernel_rfl) (fun w' hb => litB_none p n m k g c qs L b w' ((hR.keep hB).keep hb) Hs.out hn hL ⟨hb1, hb5⟩ w.heap.size Wz2.heap.size Wz8.heap.size (At.after hz5 hb) (At.after hz11 hb) (At.after hz18 hb) Ho.out)) (fun e Wz38 h => ?_)
  obtain ⟨rfl, bz39⟩ := h
  replace hB := below_after hB bz39
  replace hz5 := hz5.after bz39
  replace hz11 := hz11.after bz39
  replace hz18 := hz18.after bz39
  clear bz39
  refine ⟨_, rfl, ?_⟩
  refine hK' _ _ ?_
  clear hK' K'
  go_frame
  refine ls_ex (some 22) (.int .i64 0) rfl rfl (exec_extract _ 0 rfl #[.int .i64 0, .int .i64 3] (by rfl) _ rfl) ?_
  go_frame
  refine ls_ex (some 23) (.int .i64 3) rfl rfl (exec_extract _ 1 rfl #[.int .i64 0, .int .i64 3] (by rfl) _ rfl) ?_
  go_frame
  refine ls_ex (some 6) (.int .i64 0) rfl rfl (exec_assign _ rfl (.int .i64 0) rfl) ?_
  go_frame
  refine ls_ex (some 7) (.int .i64 3) rfl rfl (exec_assign _ rfl (.int .i64 3) rfl) ?_
  go_frame
  refine wpList_nil ?_
  go_wp2_with fail
  go_ret2
  exact ⟨by rw [Hr.out, Hc.out]; rfl, hB⟩
set_option maxHeartbeats 6400000 in
theorem implBl_e (p n m k : Int) (g c : Nat) (qs : List (List Nat)) (L : Nat) (b : Int) (w : World) (hR : Rd w (some ⟨g, 0, none⟩) qs) (hlen : qs.length ≤ 1048576) (hl : (decide (0 ≤ (L : Int)) && decide ((L : Int) ≤ 8)) = true) (hb : (decide (1 ≤ b) && decide (b ≤ 1000)) = true) (h0 : sqCode p n m k qs true = 0) (v : Nat) (ho : blO qs.length (coAdd qs) n b L = some v) :
    Calls Try.prog 21 #[.agg #[.int .i64 p, .int .i64 n, .int .i64 m, .int .i64 k, .slice (some ⟨g, 0, none⟩) qs.length c], .int .i64 (L : Int), .int .i64 b] w (fun e w' => e = .returned (.tuple #[.int .i64 (bcR p n m k qs L b), .int .i64 (bcCode p n m k qs L b)]) ∧ Below w.heap.size w w') := by
  have hB := Below.refl w.heap.size w
  have hL : L ≤ 8 := by simp only [Bool.and_eq_true, decide_eq_true_eq] at hl; omega
  have hb1 : 1 ≤ b := by simp only [Bool.and_eq_true, decide_eq_true_eq] at hb; omega
  have hb5 : b ≤ 1000 := by simp only [Bool.and_eq_true, decide_eq_true_eq] at hb; omega
  have hf := sq_facts h0
  have hn : 2 ≤ n ∧ n ≤ 3 := ⟨hf.2.1, hf.2.2.1⟩
  have Hs := Lib.hid hf.1
  have H0 := Lib.hid h0
  have Hl := Lib.hid hl
  have Hb := Lib.hid hb
  have Ho := Lib.hid ho
  have hcc : sqCode p n m k qs ((decide (0 ≤ (L : Int)) && decide ((L : Int) ≤ 8)) && (decide (1 ≤ b) && decide (b ≤ 1000))) = 0 := by rw [hl, hb]; exact h0
  have Hc : Hid (bcCode p n m k qs L b = 0) := Lib.hid (by unfold bcCode; rw [if_pos hcc, Int.toNat_natCast, ho])
  have Hr : Hid (bcR p n m k qs L b = (v : Int)) := Lib.hid (by unfold bcR; rw [if_pos hcc, Int.toNat_natCast, ho])
  clear hl hb h0 hf ho hcc
  go_enter Try.func21, Try.ntmps21
  go_upto_region 0 with (fail)
  refine wp_region_lit ?_
  refine ls_op rfl (fun K' hK' => ?_)
  have lz1 := hB.size
  refine wp_new (some 3) rfl (exec_box 31 _ rfl (#[.int .i64 p, .int .i64 n, .int .i64 m, .int .i64 k, .slice (some ⟨g, 0, none⟩) qs.length c]) rfl) (fun Wz2 nnz3 => ?_)
  have bz4 := nnz3.below (Below.refl _ _) (Nat.le_refl _)
  replace hB := below_after hB bz4
  have hz5 : At Wz2 w.heap.size (.cells #[.int .i64 p, .int .i64 n, .int .i64 m, .int .i64 k, .slice (some ⟨g, 0, none⟩) qs.length c] 31 (0, 0)) := nnz3.at_
  refine hK' _ _ ?_
  clear hK' K' nnz3 bz4
  go_frame
  refine ls_op rfl (fun K' hK' => ?_)
  have lz6 := hB.size
  have lz7 := hz5.lt
  refine wp_new (some 4) rfl (exec_box 2 _ rfl (#[.int .i64 (L : Int)]) rfl) (fun Wz8 nnz9 => ?_)
  have bz10 := nnz9.below (Below.refl _ _) (Nat.le_refl _)
  replace hB := below_after hB bz10
  replace hz5 := hz5.after bz10
  have hz11 : At Wz8 Wz2.heap.size (.cells #[.int .i64 (L : Int)] 2 (0, 0)) := nnz9.at_
  refine hK' _ _ ?_
  clear hK' K' nnz9 bz10
  go_frame
  refine ls_op rfl (fun K' hK' => ?_)
  have lz12 := hB.size
  have lz13 := hz5.lt
  have lz14 := hz11.lt
  refine wp_new (some 5) rfl (exec_box 2 _ rfl (#[.int .i64 b]) rfl) (fun Wz15 nnz16 => ?_)
  have bz17 := nnz16.below (Below.refl _ _) (Nat.le_refl _)
  replace hB := below_after hB bz17
  replace hz5 := hz5.after bz17
  replace hz11 := hz11.after bz17
  have hz18 : At Wz15 Wz8.heap.size (.cells #[.int .i64 b] 2 (0, 0)) := nnz16.at_
  refine hK' _ _ ?_
  clear hK' K' nnz16 bz17
  go_frame
  refine ls_ex (some 6) (.int .i64 0) rfl rfl (exec_assign _ rfl (.int .i64 0) rfl) ?_
  go_frame
  refine ls_ex (some 7) (.int .i64 0) rfl rfl (exec_assign _ rfl (.int .i64 0) rfl) ?_
  go_frame
  refine wpList_nil ?_
  go_upto_region 1 with (fail)
  refine wp_region_y (zs := []) (S := fun w' => Below w.heap.size w w' ∧ At w' w.heap.size (.cells #[.int .i64 p, .int .i64 n, .int .i64 m, .int .i64 k, .slice (some ⟨g, 0, none⟩) qs.length c] 31 (0, 0)) ∧ At w' Wz2.heap.size (.cells #[.int .i64 (L : Int)] 2 (0, 0)) ∧ At w' Wz8.heap.size (.cells #[.int .i64 b] 2 (0, 0))) (S2 := fun w' => True) (by kernel_rfl) ?_
  change wpAnyY _ _ _ _ _ _ _ _ _ _ (World.drew _)
  generalize hwdz19 : World.drew _ = wdz19
  replace hB : Below w.heap.size w wdz19 := by rw [← hwdz19]; exact hB.drew
  replace hz5 : At wdz19 w.heap.size (.cells #[.int .i64 p, .int .i64 n, .int .i64 m, .int .i64 k, .slice (some ⟨g, 0, none⟩) qs.length c] 31 (0, 0)) := by rw [← hwdz19]; exact hz5
  replace hz11 : At wdz19 Wz2.heap.size (.cells #[.int .i64 (L : Int)] 2 (0, 0)) := by rw [← hwdz19]; exact hz11
  replace hz18 : At wdz19 Wz8.heap.size (.cells #[.int .i64 b] 2 (0, 0)) := by rw [← hwdz19]; exact hz18
  clear hwdz19
  refine y_yield 0 (some 9) (.agg #[.int .i64 p, .int .i64 n, .int .i64 m, .int .i64 k, .slice (some ⟨g, 0, none⟩) qs.length c]) rfl (by kernel_rfl) (by kernel_rfl) (by kernel_rfl) (fun _ _ _ h => h) rfl rfl ⟨hB, hz5, hz11, hz18⟩ (fun w' h' => exec_load_all 31 _ rfl w.heap.size rfl _ _ _ h'.2.1 Try.underlying31 rfl 5 (by kernel_rfl) rfl) ?_
  go_frame
  refine y_yield 1 (some 10) (.int .i64 (L : Int)) rfl (by kernel_rfl) (by kernel_rfl) (by kernel_rfl) (fun _ _ _ h => h) rfl rfl ⟨hB, hz5, hz11, hz18⟩ (fun w' h' => exec_load_one 2 _ rfl Wz2.heap.size 0 rfl (.int .i64 (L : Int)) _ Try.underlying2 rfl (h'.2.2.1.at_ 0)) ?_
  go_frame
  refine y_oper 2 (by kernel_rfl) rfl rfl (fun K' hK' => ?_)
  have lz22 := hB.size
  have lz23 := hz5.lt
  have lz24 := hz11.lt
  have lz25 := hz18.lt
  refine wp_call1 (some 11) rfl 34 _ _ rfl (fun args w => by kernel_rfl) _ rfl _ (isLevels_c (L : Int) _) (fun e Wz20 h => ?_)
  obtain ⟨rfl, rfl⟩ := h
  rw [Hl.out]
  refine ⟨_, rfl, ?_⟩
  refine hK' _ _ ⟨hB, hz5, hz11, hz18⟩ (fun _ => trivial) ?_
  clear hK' K'
  go_frame
  refine y_yield 3 (some 12) (.bool true) rfl (by kernel_rfl) (by kernel_rfl) (by kernel_rfl) (fun _ _ _ h => h) rfl rfl ⟨hB, hz5, hz11, hz18⟩ (fun w' h' => exec_move _ rfl (.bool true) rfl) ?_
  go_frame
  refine y_yield 4 (some 13) (.int .i64 b) rfl (by kernel_rfl) (by kernel_rfl) (by kernel_rfl) (fun _ _ _ h => h) rfl rfl ⟨hB, hz5, hz11, hz18⟩ (fun w' h' => exec_load_one 2 _ rfl Wz8.heap.size 0 rfl (.int .i64 b) _ Try.underlying2 rfl (h'.2.2.2.at_ 0)) ?_
  go_frame
  refine y_oper 5 (by kernel_rfl) rfl rfl (fun K' hK' => ?_)
  have lz28 := hB.size
  have lz29 := hz5.lt
  have lz30 := hz11.lt
  have lz31 := hz18.lt
  refine wp_call1 (some 14) rfl 41 _ _ rfl (fun args w => by kernel_rfl) _ rfl _ (isBase_c b _) (fun e Wz26 h => ?_)
  obtain ⟨rfl, rfl⟩ := h
  rw [Hb.out]
  refine ⟨_, rfl, ?_⟩
  refine hK' _ _ ⟨hB, hz5, hz11, hz18⟩ (fun _ => trivial) ?_
  clear hK' K'
  go_frame
  refine y_yield 6 (some 15) (.bool true) rfl (by kernel_rfl) (by kernel_rfl) (by kernel_rfl) (fun _ _ _ h => h) rfl rfl ⟨hB, hz5, hz11, hz18⟩ (fun w' h' => exec_pick _ _ _ rfl true rfl (.bool true) rfl) ?_
  go_frame
  refine y_oper 7 (by kernel_rfl) rfl rfl (fun K' hK' => ?_)
  have lz34 := hB.size
  have lz35 := hz5.lt
  have lz36 := hz11.lt
  have lz37 := hz18.lt
  refine wp_call2 (some 16) rfl 33 _ _ _ rfl (fun args w => by kernel_rfl) _ _ rfl rfl _ (checkRepeated_c p n m k (some ⟨g, 0, none⟩) c qs true _ (hR.keep hB) hlen) (fun e Wz32 h => ?_)
  obtain ⟨rfl, bz33⟩ := h
  replace hB := below_after hB bz33
  replace hz5 := hz5.after bz33
  replace hz11 := hz11.after bz33
  replace hz18 := hz18.after bz33
  rw [H0.out]
  clear bz33
  refine ⟨_, rfl, ?_⟩
  refine hK' _ _ ⟨hB, hz5, hz11, hz18⟩ (fun _ => trivial) ?_
  clear hK' K'
  go_frame
  refine y_oper 8 (by kernel_rfl) rfl rfl (fun K' hK' => ?_)
  refine wp_exec (some 8) rfl (.int .i64 0) (exec_assign _ rfl (.int .i64 0) rfl) ?_
  refine hK' _ _ ⟨hB, hz5, hz11, hz18⟩ (fun _ => trivial) ?_
  clear hK' K'
  go_frame
  refine y_done (by kernel_rfl) ?_ _
  go_upto_region 2 with (fail)
  refine wp_region_lit ?_
  refine ls_ex (some 17) (.int .i64 0) rfl rfl (exec_move _ rfl (.int .i64 0) rfl) ?_
  go_frame
  refine ls_ex (some 18) (.bool false) rfl rfl (exec_neq _ _ _ _ rfl 0 0 rfl rfl false rfl) ?_
  go_frame
  refine wpList_nil ?_
  go_upto_region 4 with (fail)
  refine wp_region_lit ?_
  refine ls_ex (some 20) (.func (.func 45) #[] #[.pointer (some ⟨w.heap.size, 0, none⟩), .pointer (some ⟨Wz2.heap.size, 0, none⟩), .pointer (some ⟨Wz8.heap.size, 0, none⟩)]) rfl rfl (exec_mkf3 _ _ _ _ rfl _ _ _ rfl rfl rfl) ?_
  go_frame
  refine ls_op rfl (fun K' hK' => ?_)
  have lz40 := hB.size
  have lz41 := hz5.lt
  have lz42 := hz11.lt
  have lz43 := hz18.lt
  refine wp_call1 (some 21) rfl 42 _ _ rfl (fun args w => by kernel_rfl) _ rfl _ (doorI_ok 45 #[.pointer (some ⟨w.heap.size, 0, none⟩), .pointer (some ⟨Wz2.heap.size, 0, none⟩), .pointer (some ⟨Wz8.heap.size, 0, none⟩)] (v : Int) 0 _ (fun w => by kernel_rfl) (fun w' hb => litB_some p n m k g c qs L b w' ((hR.keep hB).keep hb) Hs.out hn hL ⟨hb1, hb5⟩ w.heap.size Wz2.heap.size Wz8.heap.size (At.after hz5 hb) (At.after hz11 hb) (At.after hz18 hb) v Ho.out)) (fun e Wz38 h => ?_)
  obtain ⟨rfl, bz39⟩ := h
  replace hB := below_after hB bz39
  replace hz5 := hz5.after bz39
  replace hz11 := hz11.after bz39
  replace hz18 := hz18.after bz39
  clear bz39
  refine ⟨_, rfl, ?_⟩
  refine hK' _ _ ?_
  clear hK' K'
  go_frame
  refine ls_ex (some 22) (.int .i64 (v : Int)) rfl rfl (exec_extract _ 0 rfl #[.int .i64 (v : Int), .int .i64 0] (by rfl) _ rfl) ?_
  go_frame
  refine ls_ex (some 23) (.int .i64 0) rfl rfl (exec_extract _ 1 rfl #[.int .i64 (v : Int), .int .i64 0] (by rfl) _ rfl) ?_
  go_frame
  refine ls_ex (some 6) (.int .i64 (v : Int)) rfl rfl (exec_assign _ rfl (.int .i64 (v : Int)) rfl) ?_
  go_frame
  refine ls_ex (some 7) (.int .i64 0) rfl rfl (exec_assign _ rfl (.int .i64 0) rfl) ?_
  go_frame
  refine wpList_nil ?_
  go_wp2_with fail
  go_ret2
  exact ⟨by rw [Hr.out, Hc.out]; rfl, hB⟩
set_option maxHeartbeats 6400000 in
theorem specBl_a (p n m k : Int) (g c : Nat) (qs : List (List Nat)) (l b : Int) (w : World) (hR : Rd w (some ⟨g, 0, none⟩) qs) (hlen : qs.length ≤ 1048576) (hne : sqCode p n m k qs ((decide (0 ≤ l) && decide (l ≤ 8)) && (decide (1 ≤ b) && decide (b ≤ 1000))) ≠ 0) :
    Calls Try.prog 20 #[.agg #[.int .i64 p, .int .i64 n, .int .i64 m, .int .i64 k, .slice (some ⟨g, 0, none⟩) qs.length c], .int .i64 l, .int .i64 b] w (fun e w' => e = .returned (.tuple #[.int .i64 (bcR p n m k qs l b), .int .i64 (bcCode p n m k qs l b)]) ∧ Below w.heap.size w w') := by
  have hB := Below.refl w.heap.size w
  have Hc : Hid (bcCode p n m k qs l b = sqCode p n m k qs ((decide (0 ≤ l) && decide (l ≤ 8)) && (decide (1 ≤ b) && decide (b ≤ 1000)))) := Lib.hid (by unfold bcCode; rw [if_neg hne])
  have Hr : Hid (bcR p n m k qs l b = 0) := Lib.hid (by unfold bcR; rw [if_neg hne])
  have Hne : Hid ((sqCode p n m k qs ((decide (0 ≤ l) && decide (l ≤ 8)) && (decide (1 ≤ b) && decide (b ≤ 1000))) != 0) = true) := Lib.hid (by simpa using hne)
  clear hne
  go_enter Try.func20, Try.ntmps20
  go_upto_region 0 with (fail)
  refine wp_region_lit ?_
  refine ls_op rfl (fun K' hK' => ?_)
  have lz1 := hB.size
  refine wp_new (some 3) rfl (exec_box 31 _ rfl (#[.int .i64 p, .int .i64 n, .int .i64 m, .int .i64 k, .slice (some ⟨g, 0, none⟩) qs.length c]) rfl) (fun Wz2 nnz3 => ?_)
  have bz4 := nnz3.below (Below.refl _ _) (Nat.le_refl _)
  replace hB := below_after hB bz4
  have hz5 : At Wz2 w.heap.size (.cells #[.int .i64 p, .int .i64 n, .int .i64 m, .int .i64 k, .slice (some ⟨g, 0, none⟩) qs.length c] 31 (0, 0)) := nnz3.at_
  refine hK' _ _ ?_
  clear hK' K' nnz3 bz4
  go_frame
  refine ls_ex (some 6) (.int .i64 0) rfl rfl (exec_assign _ rfl (.int .i64 0) rfl) ?_
  go_frame
  refine ls_ex (some 7) (.int .i64 0) rfl rfl (exec_assign _ rfl (.int .i64 0) rfl) ?_
  go_frame
  refine wpList_nil ?_
  go_upto_region 1 with (fail)
  refine wp_region_lit ?_
  refine ls_ex (some 16) (.agg #[.int .i64 p, .int .i64 n, .int .i64 m, .int .i64 k, .slice (some ⟨g, 0, none⟩) qs.length c]) rfl rfl (exec_load_all 31 _ rfl w.heap.size rfl _ _ _ hz5 Try.underlying31 rfl 5 (by kernel_rfl) rfl) ?_
  go_frame
  refine ls_ex (some 17) (.int .i64 l) rfl rfl (exec_move _ rfl (.int .i64 l) rfl) ?_
  go_frame
  refine ls_ex (some 18) (.int .i64 b) rfl rfl (exec_move _ rfl (.int .i64 b) rfl) ?_
  go_frame
  refine ls_op rfl (fun K' hK' => ?_)
  have lz8 := hB.size
  have lz9 := hz5.lt
  refine wp_call3 (some 19) rfl 39 _ _ _ _ rfl (fun args w => by kernel_rfl) _ _ _ rfl rfl rfl _ (l06Code_c p n m k (some ⟨g, 0, none⟩) c qs l b _ (hR.keep hB) hlen) (fun e Wz6 h => ?_)
  obtain ⟨rfl, bz7⟩ := h
  replace hB := below_after hB bz7
  replace hz5 := hz5.after bz7
  clear bz7
  refine ⟨_, rfl, ?_⟩
  refine hK' _ _ ?_
  clear hK' K'
  go_frame
  refine ls_ex (some 8) (.int .i64 (sqCode p n m k qs ((decide (0 ≤ l) && decide (l ≤ 8)) && (decide (1 ≤ b) && decide (b ≤ 1000))))) rfl rfl (exec_assign _ rfl (.int .i64 (sqCode p n m k qs ((decide (0 ≤ l) && decide (l ≤ 8)) && (decide (1 ≤ b) && decide (b ≤ 1000))))) rfl) ?_
  go_frame
  refine wpList_nil ?_
  go_upto_region 2 with (fail)
  refine wp_region_lit ?_
  refine ls_ex (some 20) (.int .i64 (sqCode p n m k qs ((decide (0 ≤ l) && decide (l ≤ 8)) && (decide (1 ≤ b) && decide (b ≤ 1000))))) rfl rfl (exec_move _ rfl (.int .i64 (sqCode p n m k qs ((decide (0 ≤ l) && decide (l ≤ 8)) && (decide (1 ≤ b) && decide (b ≤ 1000))))) rfl) ?_
  go_frame
  refine ls_ex (some 21) (.bool true) rfl rfl (exec_neq _ _ _ _ rfl ((sqCode p n m k qs ((decide (0 ≤ l) && decide (l ≤ 8)) && (decide (1 ≤ b) && decide (b ≤ 1000))))) 0 rfl rfl true Hne.out) ?_
  go_frame
  refine wpList_nil ?_
  go_upto_region 3 with (fail)
  refine wp_region_lit ?_
  refine ls_ex (some 22) (.int .i64 (sqCode p n m k qs ((decide (0 ≤ l) && decide (l ≤ 8)) && (decide (1 ≤ b) && decide (b ≤ 1000))))) rfl rfl (exec_move _ rfl (.int .i64 (sqCode p n m k qs ((decide (0 ≤ l) && decide (l ≤ 8)) && (decide (1 ≤ b) && decide (b ≤ 1000))))) rfl) ?_
  go_frame
  refine ls_ex (some 6) (.int .i64 0) rfl rfl (exec_assign _ rfl (.int .i64 0) rfl) ?_
  go_frame
  refine ls_ex (some 7) (.int .i64 (sqCode p n m k qs ((decide (0 ≤ l) && decide (l ≤ 8)) && (decide (1 ≤ b) && decide (b ≤ 1000))))) rfl rfl (exec_assign _ rfl (.int .i64 (sqCode p n m k qs ((decide (0 ≤ l) && decide (l ≤ 8)) && (decide (1 ≤ b) && decide (b ≤ 1000))))) rfl) ?_
  go_frame
  refine wpList_nil ?_
  go_wp2_with fail
  go_ret2
  exact ⟨by rw [Hr.out, Hc.out]; rfl, hB⟩
set_option maxHeartbeats 25600000 in
theorem specBl_d (p n m k : Int) (g c : Nat) (qs : List (List Nat)) (L : Nat) (b : Int) (w : World) (hR : Rd w (some ⟨g, 0, none⟩) qs) (hlen : qs.length ≤ 1048576) (hl : (decide (0 ≤ (L : Int)) && decide ((L : Int) ≤ 8)) = true) (hb : (decide (1 ≤ b) && decide (b ≤ 1000)) = true) (h0 : sqCode p n m k qs true = 0) :
    Calls Try.prog 20 #[.agg #[.int .i64 p, .int .i64 n, .int .i64 m, .int .i64 k, .slice (some ⟨g, 0, none⟩) qs.length c], .int .i64 (L : Int), .int .i64 b] w (fun e w' => e = .returned (.tuple #[.int .i64 (bcR p n m k qs L b), .int .i64 (bcCode p n m k qs L b)]) ∧ Below w.heap.size w w') := by
  have hB := Below.refl w.heap.size w
  have hL : L ≤ 8 := by simp only [Bool.and_eq_true, decide_eq_true_eq] at hl; omega
  have hb1 : 1 ≤ b := by simp only [Bool.and_eq_true, decide_eq_true_eq] at hb; omega
  have hb5 : b ≤ 1000 := by simp only [Bool.and_eq_true, decide_eq_true_eq] at hb; omega
  have hf := sq_facts h0
  have hn : 2 ≤ n ∧ n ≤ 3 := ⟨hf.2.1, hf.2.2.1⟩
  have Hs := Lib.hid hf.1
  have H0 := Lib.hid h0
  have Hl := Lib.hid hl
  have Hb := Lib.hid hb
  have hcc : sqCode p n m k qs ((decide (0 ≤ (L : Int)) && decide ((L : Int) ≤ 8)) && (decide (1 ≤ b) && decide (b ≤ 1000))) = 0 := by rw [hl, hb]; exact h0
  have HC0 := Lib.hid hcc
  have hb2 : 1 ≤ b ∧ b ≤ 1000 := ⟨hb1, hb5⟩
  have Hc : Hid (bcCode p n m k qs L b = blC (blO qs.length (coAdd qs) n b L)) := Lib.hid (by unfold bcCode; rw [if_pos hcc, Int.toNat_natCast]; cases blO qs.length (coAdd qs) n b L <;> rfl)
  have Hr : Hid (bcR p n m k qs L b = blV (blO qs.length (coAdd qs) n b L)) := Lib.hid (by unfold bcR; rw [if_pos hcc, Int.toNat_natCast]; cases blO qs.length (coAdd qs) n b L <;> rfl)
  clear hl hb h0 hf hcc
  go_enter Try.func20, Try.ntmps20
  go_upto_region 0 with (fail)
  refine wp_region_lit ?_
  refine ls_op rfl (fun K' hK' => ?_)
  have lz1 := hB.size
  refine wp_new (some 3) rfl (exec_box 31 _ rfl (#[.int .i64 p, .int .i64 n, .int .i64 m, .int .i64 k, .slice (some ⟨g, 0, none⟩) qs.length c]) rfl) (fun Wz2 nnz3 => ?_)
  have bz4 := nnz3.below (Below.refl _ _) (Nat.le_refl _)
  replace hB := below_after hB bz4
  have hz5 : At Wz2 w.heap.size (.cells #[.int .i64 p, .int .i64 n, .int .i64 m, .int .i64 k, .slice (some ⟨g, 0, none⟩) qs.length c] 31 (0, 0)) := nnz3.at_
  refine hK' _ _ ?_
  clear hK' K' nnz3 bz4
  go_frame
  refine ls_ex (some 6) (.int .i64 0) rfl rfl (exec_assign _ rfl (.int .i64 0) rfl) ?_
  go_frame
  refine ls_ex (some 7) (.int .i64 0) rfl rfl (exec_assign _ rfl (.int .i64 0) rfl) ?_
  go_frame
  refine wpList_nil ?_
  go_upto_region 1 with (fail)
  refine wp_region_lit ?_
  refine ls_ex (some 16) (.agg #[.int .i64 p, .int .i64 n, .int .i64 m, .int .i64 k, .slice (some ⟨g, 0, none⟩) qs.length c]) rfl rfl (exec_load_all 31 _ rfl w.heap.size rfl _ _ _ hz5 Try.underlying31 rfl 5 (by kernel_rfl) rfl) ?_
  go_frame
  refine ls_ex (some 17) (.int .i64 (L : Int)) rfl rfl (exec_move _ rfl (.int .i64 (L : Int)) rfl) ?_
  go_frame
  refine ls_ex (some 18) (.int .i64 b) rfl rfl (exec_move _ rfl (.int .i64 b) rfl) ?_
  go_frame
  refine ls_op rfl (fun K' hK' => ?_)
  have lz8 := hB.size
  have lz9 := hz5.lt
  refine wp_call3 (some 19) rfl 39 _ _ _ _ rfl (fun args w => by kernel_rfl) _ _ _ rfl rfl rfl _ (l06Code_c p n m k (some ⟨g, 0, none⟩) c qs (L : Int) b _ (hR.keep hB) hlen) (fun e Wz6 h => ?_)
  obtain ⟨rfl, bz7⟩ := h
  replace hB := below_after hB bz7
  replace hz5 := hz5.after bz7
  rw [HC0.out]
  clear bz7
  refine ⟨_, rfl, ?_⟩
  refine hK' _ _ ?_
  clear hK' K'
  go_frame
  refine ls_ex (some 8) (.int .i64 0) rfl rfl (exec_assign _ rfl (.int .i64 0) rfl) ?_
  go_frame
  refine wpList_nil ?_
  go_upto_region 2 with (fail)
  refine wp_region_lit ?_
  refine ls_ex (some 20) (.int .i64 0) rfl rfl (exec_move _ rfl (.int .i64 0) rfl) ?_
  go_frame
  refine ls_ex (some 21) (.bool false) rfl rfl (exec_neq _ _ _ _ rfl 0 0 rfl rfl false rfl) ?_
  go_frame
  refine wpList_nil ?_
  go_upto_region 4 with (fail)
  refine wp_region_lit ?_
  refine ls_ex (some 23) (.int .i64 b) rfl rfl (exec_move _ rfl (.int .i64 b) rfl) ?_
  go_frame
  refine ls_ex (some 9) (.int .i64 0) rfl rfl (exec_assign _ rfl (.int .i64 0) rfl) ?_
  go_frame
  refine ls_ex (some 10) (.int .i64 0) rfl rfl (exec_assign _ rfl (.int .i64 0) rfl) ?_
  go_frame
  refine ls_ex (some 11) (.int .i64 b) rfl rfl (exec_assign _ rfl (.int .i64 b) rfl) ?_
  go_frame
  refine wpList_nil ?_
  go_upto_region 5 with (fail)
  refine wp_region_lit ?_
  refine ls_ex (some 12) (.int .i64 0) rfl rfl (exec_assign _ rfl (.int .i64 0) rfl) ?_
  go_frame
  refine wpList_nil ?_
  go_wp2_with fail
  go_loopw [12, 11] (fun s12 s11 wr => ∃ a : Nat, a ≤ L ∧ s12 = .int .i64 a ∧ s11 = .int .i64 (powI n a * b) ∧ Below w.heap.size w wr ∧ At wr w.heap.size (.cells #[.int .i64 p, .int .i64 n, .int .i64 m, .int .i64 k, .slice (some ⟨g, 0, none⟩) qs.length c] 31 (0, 0))) (fun s12 _ _ => L - (intOf s12).toNat)
  case atStart => exact ⟨0, by omega, rfl, by rw [show powI n 0 * b = b from Int.one_mul b], hB, hz5⟩
  case round =>
    clear hB hz5
    obtain ⟨a, ha, rfl, rfl, hB, h0⟩ := hrel
    by_cases hlt : a < L
    · have hz := fg_size2 hn hb2 (show a + 1 ≤ 8 by omega)
      have HM : Hid (IntKind.i64.wrap (powI n a * b * n) = powI n (a + 1) * b) := Lib.hid (by rw [Int.mul_right_comm]; exact IntWalk.i64_in _ (by simp only [powI] at hz; omega))
      go_upto_region 6 with (fail)
      refine wp_region_lit ?_
      refine ls_ex (some 24) (.int .i64 a) rfl rfl (exec_move _ rfl (.int .i64 a) rfl) ?_
      go_frame
      refine ls_ex (some 25) (.int .i64 (L : Int)) rfl rfl (exec_move _ rfl (.int .i64 (L : Int)) rfl) ?_
      go_frame
      refine ls_ex (some 26) (.bool true) rfl rfl (exec_lss _ _ _ _ rfl a ((L : Int)) rfl rfl true (decide_eq_true (by omega))) ?_
      go_frame
      refine wpList_nil ?_
      go_upto_region 8 with (fail)
      refine wp_region_lit ?_
      refine ls_ex (some 29) (.int .i64 (powI n a * b)) rfl rfl (exec_move _ rfl (.int .i64 (powI n a * b)) rfl) ?_
      go_frame
      refine ls_ex (some 30) (.pointer (some ⟨w.heap.size, 1, none⟩)) rfl rfl (exec_fieldAddr 31 _ 1 rfl _ (by kernel_rfl)) ?_
      go_frame
      refine ls_ex (some 31) (.int .i64 n) rfl rfl (exec_load_one 2 _ rfl w.heap.size 1 rfl (.int .i64 n) _ Try.underlying2 rfl (h0.at_ 1)) ?_
      go_frame
      refine ls_ex (some 32) (.int .i64 (powI n (a + 1) * b)) rfl rfl (exec_mul _ _ _ _ rfl (powI n a * b) n _ rfl rfl HM.out) ?_
      go_frame
      refine ls_ex (some 11) (.int .i64 (powI n (a + 1) * b)) rfl rfl (exec_assign _ rfl (.int .i64 (powI n (a + 1) * b)) rfl) ?_
      go_frame
      refine wpList_nil ?_
      go_upto_region 7 with (fail)
      refine wp_region_lit ?_
      refine ls_ex (some 27) (.int .i64 a) rfl rfl (exec_move _ rfl (.int .i64 a) rfl) ?_
      go_frame
      refine ls_ex (some 28) (.int .i64 (a + 1)) rfl rfl (exec_add _ _ _ _ rfl a 1 (a + 1) rfl rfl (IntWalk.i64_in _ (by omega))) ?_
      go_frame
      refine ls_ex (some 12) (.int .i64 (a + 1)) rfl rfl (exec_assign _ rfl (.int .i64 (a + 1)) rfl) ?_
      go_frame
      refine wpList_nil ?_
      go_wp2_with fail
      go_roundw
      case rel => exact ⟨a + 1, by omega, by go_num, rfl, hB, h0⟩
      case measure => simp [intOf]; omega
    · have HEa : Hid (a = L) := Lib.hid (by omega)
      rw [HEa.out]
      clear ha hlt HEa
      go_upto_region 6 with (fail)
      refine wp_region_lit ?_
      refine ls_ex (some 24) (.int .i64 L) rfl rfl (exec_move _ rfl (.int .i64 L) rfl) ?_
      go_frame
      refine ls_ex (some 25) (.int .i64 (L : Int)) rfl rfl (exec_move _ rfl (.int .i64 (L : Int)) rfl) ?_
      go_frame
      refine ls_ex (some 26) (.bool false) rfl rfl (exec_lss _ _ _ _ rfl L ((L : Int)) rfl rfl false (decide_eq_false (by omega))) ?_
      go_frame
      refine wpList_nil ?_
      go_upto_region 9 with (fail)
      refine wp_region_lit ?_
      refine ls_ex (some 13) (.int .i64 0) rfl rfl (exec_assign _ rfl (.int .i64 0) rfl) ?_
      go_frame
      refine wpList_nil ?_
      go_wp2_with fail
      obtain ⟨wc, rfl⟩ : ∃ x : World, x = wr := ⟨_, rfl⟩
      go_loopw [13, 9, 10, 11] (fun s13 s9 s10 s11 wr => ∃ (a : Nat) (B least S : Int), a ≤ L + 1 ∧ s13 = .int .i64 a ∧ s9 = .int .i64 B ∧ s10 = .int .i64 least ∧ s11 = .int .i64 S ∧ Hid (a ≤ L → S = powI n (L - a) * b) ∧ (0 ≤ S ∧ S ≤ 6561000) ∧ Hid (0 < a → B = (ixF (fun j => (mcF qs.length (coAdd qs) n b L j).getD 0) (a - 1) : Nat) ∧ least = mnF (fun j => (mcF qs.length (coAdd qs) n b L j).getD 0) (a - 1)) ∧ Hid (∀ j, j < a → (mcF qs.length (coAdd qs) n b L j).isSome = true) ∧ Below w.heap.size w wr ∧ At wr w.heap.size (.cells #[.int .i64 p, .int .i64 n, .int .i64 m, .int .i64 k, .slice (some ⟨g, 0, none⟩) qs.length c] 31 (0, 0))) (fun s13 _ _ _ _ => L + 1 - (intOf s13).toNat)
      case atStart => exact ⟨0, 0, 0, powI n L * b, by omega, rfl, rfl, rfl, rfl, Lib.hid (fun _ => rfl), by have := fg_size2 hn hb2 hL; omega, Lib.hid (fun h => absurd h (by omega)), Lib.hid (fun j hj => absurd hj (by omega)), hB, h0⟩
      case round =>
        clear hB h0
        obtain ⟨a, B, least, S, ha, rfl, rfl, rfl, rfl, HS, hSb, HBL, HA, hB, h0⟩ := hrel
        by_cases hlt : a < L + 1
        · have hS := HS.out (show a ≤ L by omega)
          have HSe := Lib.hid hS
          have hz := bl_size hn hb2 hL (show a ≤ L by omega)
          rw [← hS] at hz
          have hQ0 : 0 ≤ Int.tdiv S n ∧ Int.tdiv S n ≤ S := by rw [Int.tdiv_eq_ediv_of_nonneg (by omega)]; exact ⟨Int.ediv_nonneg (by omega) (by omega), Int.ediv_le_self _ (by omega)⟩
          have HQ : Hid (IntKind.i64.wrap (Int.tdiv S n) = Int.tdiv S n) := Lib.hid (IntWalk.i64_in _ (by omega))
          have HSN : Hid (a + 1 ≤ L → Int.tdiv S n = powI n (L - (a + 1)) * b) := Lib.hid (fun h => by rw [hS]; exact bl_div (by omega) h)
          have hne : n ≠ 0 := by omega
          clear hS
          obtain ⟨S2, hS2⟩ : ∃ S2, S2 = Int.tdiv S n := ⟨_, rfl⟩
          rw [← hS2] at hQ0 HSN
          have HQ2 : Hid (IntKind.i64.wrap (Int.tdiv S n) = S2) := Lib.hid (by rw [HQ.out, hS2])
          clear hS2 HQ
          by_cases hbig : 100000 < S
          · have HE : Hid (blO qs.length (coAdd qs) n b L = none) := Lib.hid (bl_none (show a ≤ L by omega) (by unfold mcF; rw [← HSe.out, cO_big hbig]; rfl))
            go_upto_region 10 with (fail)
            refine wp_region_lit ?_
            refine ls_ex (some 33) (.int .i64 a) rfl rfl (exec_move _ rfl (.int .i64 a) rfl) ?_
            go_frame
            refine ls_ex (some 34) (.int .i64 (L : Int)) rfl rfl (exec_move _ rfl (.int .i64 (L : Int)) rfl) ?_
            go_frame
            refine ls_ex (some 35) (.bool true) rfl rfl (exec_leq _ _ _ _ rfl a ((L : Int)) rfl rfl true (decide_eq_true (by omega))) ?_
            go_frame
            refine wpList_nil ?_
            go_upto_region 12 with (fail)
            refine wp_region_lit ?_
            refine ls_ex (some 38) (.int .i64 S) rfl rfl (exec_move _ rfl (.int .i64 S) rfl) ?_
            go_frame
            refine ls_ex (some 39) (.bool true) rfl rfl (exec_gtr _ _ _ _ rfl S 100000 rfl rfl true (decide_eq_true (by omega))) ?_
            go_frame
            refine wpList_nil ?_
            go_upto_region 13 with (fail)
            refine wp_region_lit ?_
            refine ls_ex (some 6) (.int .i64 0) rfl rfl (exec_assign _ rfl (.int .i64 0) rfl) ?_
            go_frame
            refine ls_ex (some 7) (.int .i64 3) rfl rfl (exec_assign _ rfl (.int .i64 3) rfl) ?_
            go_frame
            refine wpList_nil ?_
            go_wp2_with fail
            go_ret2
            exact ⟨by rw [Hr.out, Hc.out, HE.out]; rfl, hB⟩
          · have hS1 : 1 ≤ S ∧ S ≤ 100000 := by omega
            rcases ho2 : mcF qs.length (coAdd qs) n b L a with _ | v
            · have HE : Hid (blO qs.length (coAdd qs) n b L = none) := Lib.hid (bl_none (show a ≤ L by omega) ho2)
              have Ho : Hid (mxO (countsO qs.length (coAdd qs) n a S) = none) := Lib.hid (by rw [HSe.out]; exact ho2)
              clear ho2
              go_upto_region 10 with (fail)
              refine wp_region_lit ?_
              refine ls_ex (some 33) (.int .i64 a) rfl rfl (exec_move _ rfl (.int .i64 a) rfl) ?_
              go_frame
              refine ls_ex (some 34) (.int .i64 (L : Int)) rfl rfl (exec_move _ rfl (.int .i64 (L : Int)) rfl) ?_
              go_frame
              refine ls_ex (some 35) (.bool true) rfl rfl (exec_leq _ _ _ _ rfl a ((L : Int)) rfl rfl true (decide_eq_true (by omega))) ?_
              go_frame
              refine wpList_nil ?_
              go_upto_region 12 with (fail)
              refine wp_region_lit ?_
              refine ls_ex (some 38) (.int .i64 S) rfl rfl (exec_move _ rfl (.int .i64 S) rfl) ?_
              go_frame
              refine ls_ex (some 39) (.bool false) rfl rfl (exec_gtr _ _ _ _ rfl S 100000 rfl rfl false (decide_eq_false (by omega))) ?_
              go_frame
              refine wpList_nil ?_
              go_upto_region 14 with (fail)
              refine wp_region_lit ?_
              refine ls_ex (some 41) (.agg #[.int .i64 p, .int .i64 n, .int .i64 m, .int .i64 k, .slice (some ⟨g, 0, none⟩) qs.length c]) rfl rfl (exec_load_all 31 _ rfl w.heap.size rfl _ _ _ h0 Try.underlying31 rfl 5 (by kernel_rfl) rfl) ?_
              go_frame
              refine ls_ex (some 42) (.int .i64 a) rfl rfl (exec_move _ rfl (.int .i64 a) rfl) ?_
              go_frame
              refine ls_ex (some 43) (.int .i64 S) rfl rfl (exec_move _ rfl (.int .i64 S) rfl) ?_
              go_frame
              refine ls_op rfl (fun K' hK' => ?_)
              have lz12 := hB.size
              have lz13 := h0.lt
              refine wp_call3 (some 44) rfl 40 _ _ _ _ rfl (fun args w => by kernel_rfl) _ _ _ rfl rfl rfl _ (lmixedO_none p n m k g c qs a S _ (hR.keep hB) Hs.out hn (by omega) hS1 Ho.out) (fun e Wz10 h => ?_)
              obtain ⟨rfl, bz11⟩ := h
              replace hB := below_after hB bz11
              replace h0 := h0.after bz11
              clear bz11
              refine ⟨_, rfl, ?_⟩
              refine hK' _ _ ?_
              clear hK' K'
              go_frame
              refine ls_ex (some 40) (.tuple #[.int .i64 0, .bool false]) rfl rfl (exec_move _ rfl (.tuple #[.int .i64 0, .bool false]) rfl) ?_
              go_frame
              refine ls_ex (some 45) (.int .i64 0) rfl rfl (exec_extract _ 0 rfl #[.int .i64 0, .bool false] (by rfl) _ rfl) ?_
              go_frame
              refine ls_ex (some 46) (.bool false) rfl rfl (exec_extract _ 1 rfl #[.int .i64 0, .bool false] (by rfl) _ rfl) ?_
              go_frame
              refine ls_ex (some 14) (.int .i64 0) rfl rfl (exec_assign _ rfl (.int .i64 0) rfl) ?_
              go_frame
              refine ls_ex (some 15) (.bool false) rfl rfl (exec_assign _ rfl (.bool false) rfl) ?_
              go_frame
              refine wpList_nil ?_
              go_upto_region 15 with (fail)
              refine wp_region_lit ?_
              refine ls_ex (some 47) (.bool false) rfl rfl (exec_move _ rfl (.bool false) rfl) ?_
              go_frame
              refine ls_ex (some 48) (.bool true) rfl rfl (exec_not _ _ rfl false rfl) ?_
              go_frame
              refine wpList_nil ?_
              go_upto_region 16 with (fail)
              refine wp_region_lit ?_
              refine ls_ex (some 6) (.int .i64 0) rfl rfl (exec_assign _ rfl (.int .i64 0) rfl) ?_
              go_frame
              refine ls_ex (some 7) (.int .i64 3) rfl rfl (exec_assign _ rfl (.int .i64 3) rfl) ?_
              go_frame
              refine wpList_nil ?_
              go_wp2_with fail
              go_ret2
              exact ⟨by rw [Hr.out, Hc.out, HE.out]; rfl, hB⟩
            · have HA2 : Hid (∀ j, j < a + 1 → (mcF qs.length (coAdd qs) n b L j).isSome = true) := Lib.hid (fun j hj => by by_cases e : j = a; rw [e, ho2]; rfl; exact HA.out j (by omega))
              have HF : Hid ((mcF qs.length (coAdd qs) n b L a).getD 0 = v) := Lib.hid (by rw [ho2]; rfl)
              have Ho : Hid (mxO (countsO qs.length (coAdd qs) n a S) = some v) := Lib.hid (by rw [HSe.out]; exact ho2)
              clear ho2
              by_cases hz0 : a = 0
              · have HZ : Hid ((a : Int) = (ixF (fun j => (mcF qs.length (coAdd qs) n b L j).getD 0) a : Nat) ∧ v = mnF (fun j => (mcF qs.length (coAdd qs) n b L j).getD 0) a) := Lib.hid (by rw [hz0] at HF ⊢; exact ⟨rfl, HF.out.symm⟩)
                have H0a : Hid (((a : Int) == 0) = true) := Lib.hid (by simp; omega)
                go_upto_region 10 with (fail)
                refine wp_region_lit ?_
                refine ls_ex (some 33) (.int .i64 a) rfl rfl (exec_move _ rfl (.int .i64 a) rfl) ?_
                go_frame
                refine ls_ex (some 34) (.int .i64 (L : Int)) rfl rfl (exec_move _ rfl (.int .i64 (L : Int)) rfl) ?_
                go_frame
                refine ls_ex (some 35) (.bool true) rfl rfl (exec_leq _ _ _ _ rfl a ((L : Int)) rfl rfl true (decide_eq_true (by omega))) ?_
                go_frame
                refine wpList_nil ?_
                go_upto_region 12 with (fail)
                refine wp_region_lit ?_
                refine ls_ex (some 38) (.int .i64 S) rfl rfl (exec_move _ rfl (.int .i64 S) rfl) ?_
                go_frame
                refine ls_ex (some 39) (.bool false) rfl rfl (exec_gtr _ _ _ _ rfl S 100000 rfl rfl false (decide_eq_false (by omega))) ?_
                go_frame
                refine wpList_nil ?_
                go_upto_region 14 with (fail)
                refine wp_region_lit ?_
                refine ls_ex (some 41) (.agg #[.int .i64 p, .int .i64 n, .int .i64 m, .int .i64 k, .slice (some ⟨g, 0, none⟩) qs.length c]) rfl rfl (exec_load_all 31 _ rfl w.heap.size rfl _ _ _ h0 Try.underlying31 rfl 5 (by kernel_rfl) rfl) ?_
                go_frame
                refine ls_ex (some 42) (.int .i64 a) rfl rfl (exec_move _ rfl (.int .i64 a) rfl) ?_
                go_frame
                refine ls_ex (some 43) (.int .i64 S) rfl rfl (exec_move _ rfl (.int .i64 S) rfl) ?_
                go_frame
                refine ls_op rfl (fun K' hK' => ?_)
                have lz16 := hB.size
                have lz17 := h0.lt
                refine wp_call3 (some 44) rfl 40 _ _ _ _ rfl (fun args w => by kernel_rfl) _ _ _ rfl rfl rfl _ (lmixedO_some p n m k g c qs a S _ (hR.keep hB) Hs.out hn (by omega) hS1 v Ho.out) (fun e Wz14 h => ?_)
                obtain ⟨rfl, bz15⟩ := h
                replace hB := below_after hB bz15
                replace h0 := h0.after bz15
                clear bz15
                refine ⟨_, rfl, ?_⟩
                refine hK' _ _ ?_
                clear hK' K'
                go_frame
                refine ls_ex (some 40) (.tuple #[.int .i64 v, .bool true]) rfl rfl (exec_move _ rfl (.tuple #[.int .i64 v, .bool true]) rfl) ?_
                go_frame
                refine ls_ex (some 45) (.int .i64 v) rfl rfl (exec_extract _ 0 rfl #[.int .i64 v, .bool true] (by rfl) _ rfl) ?_
                go_frame
                refine ls_ex (some 46) (.bool true) rfl rfl (exec_extract _ 1 rfl #[.int .i64 v, .bool true] (by rfl) _ rfl) ?_
                go_frame
                refine ls_ex (some 14) (.int .i64 v) rfl rfl (exec_assign _ rfl (.int .i64 v) rfl) ?_
                go_frame
                refine ls_ex (some 15) (.bool true) rfl rfl (exec_assign _ rfl (.bool true) rfl) ?_
                go_frame
                refine wpList_nil ?_
                go_upto_region 15 with (fail)
                refine wp_region_lit ?_
                refine ls_ex (some 47) (.bool true) rfl rfl (exec_move _ rfl (.bool true) rfl) ?_
                go_frame
                refine ls_ex (some 48) (.bool false) rfl rfl (exec_not _ _ rfl true rfl) ?_
                go_frame
                refine wpList_nil ?_
                go_upto_region 17 with (fail)
                refine wp_region_lit ?_
                refine ls_ex (some 49) (.int .i64 a) rfl rfl (exec_move _ rfl (.int .i64 a) rfl) ?_
                go_frame
                refine ls_ex (some 50) (.bool true) rfl rfl (exec_eql _ _ _ _ rfl a 0 rfl rfl true H0a.out) ?_
                go_frame
                refine ls_ex (some 51) (.bool true) rfl rfl (exec_move _ rfl (.bool true) rfl) ?_
                go_frame
                refine ls_skip_g (some 52) rfl rfl ?_
                go_frame
                refine ls_skip_g (some 53) rfl rfl ?_
                go_frame
                refine ls_skip_g (some 54) rfl rfl ?_
                go_frame
                refine ls_ex (some 55) (.bool true) rfl rfl (exec_pick _ _ _ rfl true rfl (.bool true) rfl) ?_
                go_frame
                refine wpList_nil ?_
                go_upto_region 18 with (fail)
                refine wp_region_lit ?_
                refine ls_ex (some 56) (.int .i64 a) rfl rfl (exec_move _ rfl (.int .i64 a) rfl) ?_
                go_frame
                refine ls_ex (some 9) (.int .i64 a) rfl rfl (exec_assign _ rfl (.int .i64 a) rfl) ?_
                go_frame
                refine wpList_nil ?_
                go_upto_region 19 with (fail)
                refine wp_region_lit ?_
                refine ls_ex (some 57) (.int .i64 v) rfl rfl (exec_move _ rfl (.int .i64 v) rfl) ?_
                go_frame
                refine ls_ex (some 10) (.int .i64 v) rfl rfl (exec_assign _ rfl (.int .i64 v) rfl) ?_
                go_frame
                refine wpList_nil ?_
                go_upto_region 20 with (fail)
                refine wp_region_lit ?_
                refine ls_ex (some 58) (.int .i64 S) rfl rfl (exec_move _ rfl (.int .i64 S) rfl) ?_
                go_frame
                refine ls_ex (some 59) (.pointer (some ⟨w.heap.size, 1, none⟩)) rfl rfl (exec_fieldAddr 31 _ 1 rfl _ (by kernel_rfl)) ?_
                go_frame
                refine ls_ex (some 60) (.int .i64 n) rfl rfl (exec_load_one 2 _ rfl w.heap.size 1 rfl (.int .i64 n) _ Try.underlying2 rfl (h0.at_ 1)) ?_
                go_frame
                refine ls_ex (some 61) (.int .i64 S2) rfl rfl (exec_quo _ _ _ _ rfl S n S2 rfl rfl hne HQ2.out) ?_
                go_frame
                refine ls_ex (some 11) (.int .i64 S2) rfl rfl (exec_assign _ rfl (.int .i64 S2) rfl) ?_
                go_frame
                refine wpList_nil ?_
                go_upto_region 11 with (fail)
                refine wp_region_lit ?_
                refine ls_ex (some 36) (.int .i64 a) rfl rfl (exec_move _ rfl (.int .i64 a) rfl) ?_
                go_frame
                refine ls_ex (some 37) (.int .i64 (a + 1)) rfl rfl (exec_add _ _ _ _ rfl a 1 (a + 1) rfl rfl (IntWalk.i64_in _ (by omega))) ?_
                go_frame
                refine ls_ex (some 13) (.int .i64 (a + 1)) rfl rfl (exec_assign _ rfl (.int .i64 (a + 1)) rfl) ?_
                go_frame
                refine wpList_nil ?_
                go_wp2_with fail
                go_roundw
                case rel => exact ⟨a + 1, a, v, S2, by omega, by go_num, rfl, rfl, rfl, HSN, by omega, Lib.hid (fun _ => by rw [Nat.add_sub_cancel]; exact HZ.out), HA2, hB, h0⟩
                case measure => simp [intOf]; omega
              · have H0a : Hid (((a : Int) == 0) = false) := Lib.hid (by simp; omega)
                have hbl := HBL.out (by omega)
                by_cases hlt2 : v < least
                · have HZ : Hid ((a : Int) = (ixF (fun j => (mcF qs.length (coAdd qs) n b L j).getD 0) a : Nat) ∧ v = mnF (fun j => (mcF qs.length (coAdd qs) n b L j).getD 0) a) := Lib.hid (by have h := bs_lt (f := (fun j => (mcF qs.length (coAdd qs) n b L j).getD 0)) (show 0 < a by omega) (by rw [HF.out, ← hbl.2]; exact hlt2); rw [h.1, h.2]; exact ⟨rfl, HF.out.symm⟩)
                  clear hbl
                  go_upto_region 10 with (fail)
                  refine wp_region_lit ?_
                  refine ls_ex (some 33) (.int .i64 a) rfl rfl (exec_move _ rfl (.int .i64 a) rfl) ?_
                  go_frame
                  refine ls_ex (some 34) (.int .i64 (L : Int)) rfl rfl (exec_move _ rfl (.int .i64 (L : Int)) rfl) ?_
                  go_frame
                  refine ls_ex (some 35) (.bool true) rfl rfl (exec_leq _ _ _ _ rfl a ((L : Int)) rfl rfl true (decide_eq_true (by omega))) ?_
                  go_frame
                  refine wpList_nil ?_
                  go_upto_region 12 with (fail)
                  refine wp_region_lit ?_
                  refine ls_ex (some 38) (.int .i64 S) rfl rfl (exec_move _ rfl (.int .i64 S) rfl) ?_
                  go_frame
                  refine ls_ex (some 39) (.bool false) rfl rfl (exec_gtr _ _ _ _ rfl S 100000 rfl rfl false (decide_eq_false (by omega))) ?_
                  go_frame
                  refine wpList_nil ?_
                  go_upto_region 14 with (fail)
                  refine wp_region_lit ?_
                  refine ls_ex (some 41) (.agg #[.int .i64 p, .int .i64 n, .int .i64 m, .int .i64 k, .slice (some ⟨g, 0, none⟩) qs.length c]) rfl rfl (exec_load_all 31 _ rfl w.heap.size rfl _ _ _ h0 Try.underlying31 rfl 5 (by kernel_rfl) rfl) ?_
                  go_frame
                  refine ls_ex (some 42) (.int .i64 a) rfl rfl (exec_move _ rfl (.int .i64 a) rfl) ?_
                  go_frame
                  refine ls_ex (some 43) (.int .i64 S) rfl rfl (exec_move _ rfl (.int .i64 S) rfl) ?_
                  go_frame
                  refine ls_op rfl (fun K' hK' => ?_)
                  have lz20 := hB.size
                  have lz21 := h0.lt
                  refine wp_call3 (some 44) rfl 40 _ _ _ _ rfl (fun args w => by kernel_rfl) _ _ _ rfl rfl rfl _ (lmixedO_some p n m k g c qs a S _ (hR.keep hB) Hs.out hn (by omega) hS1 v Ho.out) (fun e Wz18 h => ?_)
                  obtain ⟨rfl, bz19⟩ := h
                  replace hB := below_after hB bz19
                  replace h0 := h0.after bz19
                  clear bz19
                  refine ⟨_, rfl, ?_⟩
                  refine hK' _ _ ?_
                  clear hK' K'
                  go_frame
                  refine ls_ex (some 40) (.tuple #[.int .i64 v, .bool true]) rfl rfl (exec_move _ rfl (.tuple #[.int .i64 v, .bool true]) rfl) ?_
                  go_frame
                  refine ls_ex (some 45) (.int .i64 v) rfl rfl (exec_extract _ 0 rfl #[.int .i64 v, .bool true] (by rfl) _ rfl) ?_
                  go_frame
                  refine ls_ex (some 46) (.bool true) rfl rfl (exec_extract _ 1 rfl #[.int .i64 v, .bool true] (by rfl) _ rfl) ?_
                  go_frame
                  refine ls_ex (some 14) (.int .i64 v) rfl rfl (exec_assign _ rfl (.int .i64 v) rfl) ?_
                  go_frame
                  refine ls_ex (some 15) (.bool true) rfl rfl (exec_assign _ rfl (.bool true) rfl) ?_
                  go_frame
                  refine wpList_nil ?_
                  go_upto_region 15 with (fail)
                  refine wp_region_lit ?_
                  refine ls_ex (some 47) (.bool true) rfl rfl (exec_move _ rfl (.bool true) rfl) ?_
                  go_frame
                  refine ls_ex (some 48) (.bool false) rfl rfl (exec_not _ _ rfl true rfl) ?_
                  go_frame
                  refine wpList_nil ?_
                  go_upto_region 17 with (fail)
                  refine wp_region_lit ?_
                  refine ls_ex (some 49) (.int .i64 a) rfl rfl (exec_move _ rfl (.int .i64 a) rfl) ?_
                  go_frame
                  refine ls_ex (some 50) (.bool false) rfl rfl (exec_eql _ _ _ _ rfl a 0 rfl rfl false H0a.out) ?_
                  go_frame
                  refine ls_ex (some 51) (.bool false) rfl rfl (exec_move _ rfl (.bool false) rfl) ?_
                  go_frame
                  refine ls_ex_g (some 52) (.int .i64 v) rfl rfl (exec_move _ rfl (.int .i64 v) rfl) ?_
                  go_frame
                  refine ls_ex_g (some 53) (.int .i64 least) rfl rfl (exec_move _ rfl (.int .i64 least) rfl) ?_
                  go_frame
                  refine ls_ex_g (some 54) (.bool true) rfl rfl (exec_lss _ _ _ _ rfl v least rfl rfl true (decide_eq_true hlt2)) ?_
                  go_frame
                  refine ls_ex (some 55) (.bool true) rfl rfl (exec_pick _ _ _ rfl false rfl (.bool true) rfl) ?_
                  go_frame
                  refine wpList_nil ?_
                  go_upto_region 18 with (fail)
                  refine wp_region_lit ?_
                  refine ls_ex (some 56) (.int .i64 a) rfl rfl (exec_move _ rfl (.int .i64 a) rfl) ?_
                  go_frame
                  refine ls_ex (some 9) (.int .i64 a) rfl rfl (exec_assign _ rfl (.int .i64 a) rfl) ?_
                  go_frame
                  refine wpList_nil ?_
                  go_upto_region 19 with (fail)
                  refine wp_region_lit ?_
                  refine ls_ex (some 57) (.int .i64 v) rfl rfl (exec_move _ rfl (.int .i64 v) rfl) ?_
                  go_frame
                  refine ls_ex (some 10) (.int .i64 v) rfl rfl (exec_assign _ rfl (.int .i64 v) rfl) ?_
                  go_frame
                  refine wpList_nil ?_
                  go_upto_region 20 with (fail)
                  refine wp_region_lit ?_
                  refine ls_ex (some 58) (.int .i64 S) rfl rfl (exec_move _ rfl (.int .i64 S) rfl) ?_
                  go_frame
                  refine ls_ex (some 59) (.pointer (some ⟨w.heap.size, 1, none⟩)) rfl rfl (exec_fieldAddr 31 _ 1 rfl _ (by kernel_rfl)) ?_
                  go_frame
                  refine ls_ex (some 60) (.int .i64 n) rfl rfl (exec_load_one 2 _ rfl w.heap.size 1 rfl (.int .i64 n) _ Try.underlying2 rfl (h0.at_ 1)) ?_
                  go_frame
                  refine ls_ex (some 61) (.int .i64 S2) rfl rfl (exec_quo _ _ _ _ rfl S n S2 rfl rfl hne HQ2.out) ?_
                  go_frame
                  refine ls_ex (some 11) (.int .i64 S2) rfl rfl (exec_assign _ rfl (.int .i64 S2) rfl) ?_
                  go_frame
                  refine wpList_nil ?_
                  go_upto_region 11 with (fail)
                  refine wp_region_lit ?_
                  refine ls_ex (some 36) (.int .i64 a) rfl rfl (exec_move _ rfl (.int .i64 a) rfl) ?_
                  go_frame
                  refine ls_ex (some 37) (.int .i64 (a + 1)) rfl rfl (exec_add _ _ _ _ rfl a 1 (a + 1) rfl rfl (IntWalk.i64_in _ (by omega))) ?_
                  go_frame
                  refine ls_ex (some 13) (.int .i64 (a + 1)) rfl rfl (exec_assign _ rfl (.int .i64 (a + 1)) rfl) ?_
                  go_frame
                  refine wpList_nil ?_
                  go_wp2_with fail
                  go_roundw
                  case rel => exact ⟨a + 1, a, v, S2, by omega, by go_num, rfl, rfl, rfl, HSN, by omega, Lib.hid (fun _ => by rw [Nat.add_sub_cancel]; exact HZ.out), HA2, hB, h0⟩
                  case measure => simp [intOf]; omega
                · have HZ : Hid (B = (ixF (fun j => (mcF qs.length (coAdd qs) n b L j).getD 0) a : Nat) ∧ least = mnF (fun j => (mcF qs.length (coAdd qs) n b L j).getD 0) a) := Lib.hid (by have h := bs_ge (f := (fun j => (mcF qs.length (coAdd qs) n b L j).getD 0)) (show 0 < a by omega) (by rw [HF.out, ← hbl.2]; exact hlt2); rw [h.1, h.2]; exact hbl)
                  clear hbl
                  go_upto_region 10 with (fail)
                  refine wp_region_lit ?_
                  refine ls_ex (some 33) (.int .i64 a) rfl rfl (exec_move _ rfl (.int .i64 a) rfl) ?_
                  go_frame
                  refine ls_ex (some 34) (.int .i64 (L : Int)) rfl rfl (exec_move _ rfl (.int .i64 (L : Int)) rfl) ?_
                  go_frame
                  refine ls_ex (some 35) (.bool true) rfl rfl (exec_leq _ _ _ _ rfl a ((L : Int)) rfl rfl true (decide_eq_true (by omega))) ?_
                  go_frame
                  refine wpList_nil ?_
                  go_upto_region 12 with (fail)
                  refine wp_region_lit ?_
                  refine ls_ex (some 38) (.int .i64 S) rfl rfl (exec_move _ rfl (.int .i64 S) rfl) ?_
                  go_frame
                  refine ls_ex (some 39) (.bool false) rfl rfl (exec_gtr _ _ _ _ rfl S 100000 rfl rfl false (decide_eq_false (by omega))) ?_
                  go_frame
                  refine wpList_nil ?_
                  go_upto_region 14 with (fail)
                  refine wp_region_lit ?_
                  refine ls_ex (some 41) (.agg #[.int .i64 p, .int .i64 n, .int .i64 m, .int .i64 k, .slice (some ⟨g, 0, none⟩) qs.length c]) rfl rfl (exec_load_all 31 _ rfl w.heap.size rfl _ _ _ h0 Try.underlying31 rfl 5 (by kernel_rfl) rfl) ?_
                  go_frame
                  refine ls_ex (some 42) (.int .i64 a) rfl rfl (exec_move _ rfl (.int .i64 a) rfl) ?_
                  go_frame
                  refine ls_ex (some 43) (.int .i64 S) rfl rfl (exec_move _ rfl (.int .i64 S) rfl) ?_
                  go_frame
                  refine ls_op rfl (fun K' hK' => ?_)
                  have lz24 := hB.size
                  have lz25 := h0.lt
                  refine wp_call3 (some 44) rfl 40 _ _ _ _ rfl (fun args w => by kernel_rfl) _ _ _ rfl rfl rfl _ (lmixedO_some p n m k g c qs a S _ (hR.keep hB) Hs.out hn (by omega) hS1 v Ho.out) (fun e Wz22 h => ?_)
                  obtain ⟨rfl, bz23⟩ := h
                  replace hB := below_after hB bz23
                  replace h0 := h0.after bz23
                  clear bz23
                  refine ⟨_, rfl, ?_⟩
                  refine hK' _ _ ?_
                  clear hK' K'
                  go_frame
                  refine ls_ex (some 40) (.tuple #[.int .i64 v, .bool true]) rfl rfl (exec_move _ rfl (.tuple #[.int .i64 v, .bool true]) rfl) ?_
                  go_frame
                  refine ls_ex (some 45) (.int .i64 v) rfl rfl (exec_extract _ 0 rfl #[.int .i64 v, .bool true] (by rfl) _ rfl) ?_
                  go_frame
                  refine ls_ex (some 46) (.bool true) rfl rfl (exec_extract _ 1 rfl #[.int .i64 v, .bool true] (by rfl) _ rfl) ?_
                  go_frame
                  refine ls_ex (some 14) (.int .i64 v) rfl rfl (exec_assign _ rfl (.int .i64 v) rfl) ?_
                  go_frame
                  refine ls_ex (some 15) (.bool true) rfl rfl (exec_assign _ rfl (.bool true) rfl) ?_
                  go_frame
                  refine wpList_nil ?_
                  go_upto_region 15 with (fail)
                  refine wp_region_lit ?_
                  refine ls_ex (some 47) (.bool true) rfl rfl (exec_move _ rfl (.bool true) rfl) ?_
                  go_frame
                  refine ls_ex (some 48) (.bool false) rfl rfl (exec_not _ _ rfl true rfl) ?_
                  go_frame
                  refine wpList_nil ?_
                  go_upto_region 17 with (fail)
                  refine wp_region_lit ?_
                  refine ls_ex (some 49) (.int .i64 a) rfl rfl (exec_move _ rfl (.int .i64 a) rfl) ?_
                  go_frame
                  refine ls_ex (some 50) (.bool false) rfl rfl (exec_eql _ _ _ _ rfl a 0 rfl rfl false H0a.out) ?_
                  go_frame
                  refine ls_ex (some 51) (.bool false) rfl rfl (exec_move _ rfl (.bool false) rfl) ?_
                  go_frame
                  refine ls_ex_g (some 52) (.int .i64 v) rfl rfl (exec_move _ rfl (.int .i64 v) rfl) ?_
                  go_frame
                  refine ls_ex_g (some 53) (.int .i64 least) rfl rfl (exec_move _ rfl (.int .i64 least) rfl) ?_
                  go_frame
                  refine ls_ex_g (some 54) (.bool false) rfl rfl (exec_lss _ _ _ _ rfl v least rfl rfl false (decide_eq_false hlt2)) ?_
                  go_frame
                  refine ls_ex (some 55) (.bool false) rfl rfl (exec_pick _ _ _ rfl false rfl (.bool false) rfl) ?_
                  go_frame
                  refine wpList_nil ?_
                  go_upto_region 20 with (fail)
                  refine wp_region_lit ?_
                  refine ls_ex (some 58) (.int .i64 S) rfl rfl (exec_move _ rfl (.int .i64 S) rfl) ?_
                  go_frame
                  refine ls_ex (some 59) (.pointer (some ⟨w.heap.size, 1, none⟩)) rfl rfl (exec_fieldAddr 31 _ 1 rfl _ (by kernel_rfl)) ?_
                  go_frame
                  refine ls_ex (some 60) (.int .i64 n) rfl rfl (exec_load_one 2 _ rfl w.heap.size 1 rfl (.int .i64 n) _ Try.underlying2 rfl (h0.at_ 1)) ?_
                  go_frame
                  refine ls_ex (some 61) (.int .i64 S2) rfl rfl (exec_quo _ _ _ _ rfl S n S2 rfl rfl hne HQ2.out) ?_
                  go_frame
                  refine ls_ex (some 11) (.int .i64 S2) rfl rfl (exec_assign _ rfl (.int .i64 S2) rfl) ?_
                  go_frame
                  refine wpList_nil ?_
                  go_upto_region 11 with (fail)
                  refine wp_region_lit ?_
                  refine ls_ex (some 36) (.int .i64 a) rfl rfl (exec_move _ rfl (.int .i64 a) rfl) ?_
                  go_frame
                  refine ls_ex (some 37) (.int .i64 (a + 1)) rfl rfl (exec_add _ _ _ _ rfl a 1 (a + 1) rfl rfl (IntWalk.i64_in _ (by omega))) ?_
                  go_frame
                  refine ls_ex (some 13) (.int .i64 (a + 1)) rfl rfl (exec_assign _ rfl (.int .i64 (a + 1)) rfl) ?_
                  go_frame
                  refine wpList_nil ?_
                  go_wp2_with fail
                  go_roundw
                  case rel => exact ⟨a + 1, B, least, S2, by omega, by go_num, rfl, rfl, rfl, HSN, by omega, Lib.hid (fun _ => by rw [Nat.add_sub_cancel]; exact HZ.out), HA2, hB, h0⟩
                  case measure => simp [intOf]; omega
        · have hbl := HBL.out (by omega)
          have HE : Hid (blO qs.length (coAdd qs) n b L = some (ixF (fun j => (mcF qs.length (coAdd qs) n b L j).getD 0) L)) := Lib.hid (bl_some (fun j hj => HA.out j (by omega)))
          have HBe : Hid (B = (ixF (fun j => (mcF qs.length (coAdd qs) n b L j).getD 0) L : Nat)) := Lib.hid (by rw [hbl.1, show a - 1 = L by omega])
          have HVe : Hid (blV (blO qs.length (coAdd qs) n b L) = B) := Lib.hid (by rw [HE.out, HBe.out]; rfl)
          have HCe : Hid (blC (blO qs.length (coAdd qs) n b L) = 0) := Lib.hid (by rw [HE.out]; rfl)
          clear hbl
          go_upto_region 10 with (fail)
          refine wp_region_lit ?_
          refine ls_ex (some 33) (.int .i64 a) rfl rfl (exec_move _ rfl (.int .i64 a) rfl) ?_
          go_frame
          refine ls_ex (some 34) (.int .i64 (L : Int)) rfl rfl (exec_move _ rfl (.int .i64 (L : Int)) rfl) ?_
          go_frame
          refine ls_ex (some 35) (.bool false) rfl rfl (exec_leq _ _ _ _ rfl a ((L : Int)) rfl rfl false (decide_eq_false (by omega))) ?_
          go_frame
          refine wpList_nil ?_
          go_upto_region 21 with (fail)
          refine wp_region_lit ?_
          refine ls_ex (some 62) (.int .i64 B) rfl rfl (exec_move _ rfl (.int .i64 B) rfl) ?_
          go_frame
          refine ls_ex (some 6) (.int .i64 B) rfl rfl (exec_assign _ rfl (.int .i64 B) rfl) ?_
          go_frame
          refine ls_ex (some 7) (.int .i64 0) rfl rfl (exec_assign _ rfl (.int .i64 0) rfl) ?_
          go_frame
          refine wpList_nil ?_
          go_wp2_with fail
          go_ret2
          exact ⟨by rw [Hr.out, Hc.out, HVe.out, HCe.out]; rfl, hB⟩
theorem implBestLevels_c (p n m k : Int) (g c : Nat) (qs : List (List Nat)) (l b : Int) (w : World) (hR : Rd w (some ⟨g, 0, none⟩) qs) (hlen : qs.length ≤ 1048576) : Calls Try.prog 21 #[.agg #[.int .i64 p, .int .i64 n, .int .i64 m, .int .i64 k, .slice (some ⟨g, 0, none⟩) qs.length c], .int .i64 l, .int .i64 b] w (fun e w' => e = .returned (.tuple #[.int .i64 (bcR p n m k qs l b), .int .i64 (bcCode p n m k qs l b)]) ∧ Below w.heap.size w w') := by
  by_cases hl : (decide (0 ≤ l) && decide (l ≤ 8)) = true
  · by_cases hb : (decide (1 ≤ b) && decide (b ≤ 1000)) = true
    · by_cases h0 : sqCode p n m k qs true = 0
      · obtain ⟨L, rfl⟩ := Int.eq_ofNat_of_zero_le (show 0 ≤ l by simp only [Bool.and_eq_true, decide_eq_true_eq] at hl; omega)
        cases ho : blO qs.length (coAdd qs) n b L with
        | none => exact implBl_d p n m k g c qs L b w hR hlen hl hb h0 ho
        | some v => exact implBl_e p n m k g c qs L b w hR hlen hl hb h0 v ho
      · exact implBl_c p n m k g c qs l b w hR hlen hl hb h0
    · exact implBl_b p n m k g c qs l b w hR hlen hl (eq_false_of_ne_true hb)
  · exact implBl_a p n m k g c qs l b w hR hlen (eq_false_of_ne_true hl)
theorem specBestLevels_c (p n m k : Int) (g c : Nat) (qs : List (List Nat)) (l b : Int) (w : World) (hR : Rd w (some ⟨g, 0, none⟩) qs) (hlen : qs.length ≤ 1048576) : Calls Try.prog 20 #[.agg #[.int .i64 p, .int .i64 n, .int .i64 m, .int .i64 k, .slice (some ⟨g, 0, none⟩) qs.length c], .int .i64 l, .int .i64 b] w (fun e w' => e = .returned (.tuple #[.int .i64 (bcR p n m k qs l b), .int .i64 (bcCode p n m k qs l b)]) ∧ Below w.heap.size w w') := by
  by_cases h0 : sqCode p n m k qs ((decide (0 ≤ l) && decide (l ≤ 8)) && (decide (1 ≤ b) && decide (b ≤ 1000))) = 0
  · have hq := (sq_facts h0).2.2.2.2.2
    have hl : (decide (0 ≤ l) && decide (l ≤ 8)) = true := by rw [Bool.and_eq_true] at hq; exact hq.1
    have hb : (decide (1 ≤ b) && decide (b ≤ 1000)) = true := by rw [Bool.and_eq_true] at hq; exact hq.2
    rw [hl, hb] at h0
    obtain ⟨L, rfl⟩ := Int.eq_ofNat_of_zero_le (show 0 ≤ l by simp only [Bool.and_eq_true, decide_eq_true_eq] at hl; omega)
    exact specBl_d p n m k g c qs L b w hR hlen hl hb h0
  · exact specBl_a p n m k g c qs l b w hR hlen h0
end Go.Proofs.Ytbpapkpdlplfcaa
