/-
  FirstGain of both sides. (Made by mkcsb.py.)
-/
import Derived.Test.YtphccbilldfdpaaCsA
namespace Go.Proofs.Ytphccbilldfdpaa
open Go.RowKit
set_option maxRecDepth 100000
attribute [local irreducible] wpList
/-- The first number of levels, from a on, of f numbers, that gains, and the code. -/
def fgF (r ad n b : Int) : Nat → Nat → Int × Int
  | 0, _ => (0, 4)
  | f + 1, a => match mxO (countsO r ad n a b) with
    | none => (0, 3)
    | some v => if v < (powI n a * b) * (powI n a * b) * (2 * (powI n a * b) - 1) then ((a : Int), 0) else fgF r ad n b f (a + 1)
theorem fgF_step (r ad n b : Int) {a : Nat} (h : a < 9) : fgF r ad n b (9 - a) a = match mxO (countsO r ad n a b) with
    | none => (0, 3)
    | some v => if v < (powI n a * b) * (powI n a * b) * (2 * (powI n a * b) - 1) then ((a : Int), 0) else fgF r ad n b (9 - (a + 1)) (a + 1) := by
  rw [show 9 - a = (9 - (a + 1)) + 1 by omega]
  rfl
theorem fg_none {r ad n b : Int} {a : Nat} (h : a < 9) (hg : fgF r ad n b (9 - a) a = fgF r ad n b 8 1) (ho : mxO (countsO r ad n a b) = none) : fgF r ad n b 8 1 = (0, 3) := by
  rw [← hg, fgF_step r ad n b h, ho]
theorem fg_yes {r ad n b v : Int} {a : Nat} (h : a < 9) (hg : fgF r ad n b (9 - a) a = fgF r ad n b 8 1) (ho : mxO (countsO r ad n a b) = some v) (hv : v < (powI n a * b) * (powI n a * b) * (2 * (powI n a * b) - 1)) : fgF r ad n b 8 1 = ((a : Int), 0) := by
  rw [← hg, fgF_step r ad n b h, ho]
  exact if_pos hv
theorem fg_next {r ad n b v : Int} {a : Nat} (h : a < 9) (hg : fgF r ad n b (9 - a) a = fgF r ad n b 8 1) (ho : mxO (countsO r ad n a b) = some v) (hv : ¬ v < (powI n a * b) * (powI n a * b) * (2 * (powI n a * b) - 1)) : fgF r ad n b (9 - (a + 1)) (a + 1) = fgF r ad n b 8 1 := by
  rw [← hg, fgF_step r ad n b h, ho]
  exact (if_neg hv).symm
theorem fg_end {r ad n b : Int} {a : Nat} (h : 9 ≤ a) (hg : fgF r ad n b (9 - a) a = fgF r ad n b 8 1) : fgF r ad n b 8 1 = (0, 4) := by
  rw [← hg, show 9 - a = 0 by omega]
  rfl
theorem fg_zero (r ad n : Int) {b : Int} : ∀ {f a : Nat}, (fgF r ad n b f a).2 = 3 → (fgF r ad n b f a).1 = 0 := by
  intro f
  induction f with
  | zero => intro a h; rfl
  | succ f ih =>
    intro a h
    unfold fgF at h ⊢
    cases ho : mxO (countsO r ad n a b) with
    | none => rfl
    | some v =>
      rw [ho] at h
      simp only at h ⊢
      split at h
      · simp at h
      · rename_i hv; rw [if_neg hv]; exact ih h
def FEnd (x : Int × Int) (e : Ending) : Prop := if x.2 = 3 then Fails e else e = .returned (.tuple #[.int .i64 x.1, .int .i64 x.2])
theorem fend_ok {x c : Int} (h : c ≠ 3) : FEnd (x, c) (.returned (.tuple #[.int .i64 x, .int .i64 c])) := by
  unfold FEnd
  rw [if_neg h]
theorem fend_no {x : Int} {e : Ending} (h : Fails e) : FEnd (x, 3) e := by
  unfold FEnd
  rw [if_pos rfl]
  exact h
theorem mxO_b {r add n b v : Int} {L : Nat} (hr : 0 ≤ r) (ha : 0 ≤ add) (hb : 1 ≤ b) (h : mxO (countsO r add n L b) = some v) : 0 ≤ v ∧ v ≤ 1000000000000000 := by
  cases ho : countsO r add n L b with
  | none => rw [ho] at h; cases h
  | some x =>
    obtain ⟨t, s⟩ := x
    have hv := countsO_b hr ha hb ho
    rw [ho] at h
    simp only [mxO] at h
    split at h
    · simp only [Option.some.injEq] at h
      omega
    · cases h
theorem fg_size {n b : Int} {a : Nat} (hn : 2 ≤ n ∧ n ≤ 3) (hb : 1 ≤ b ∧ b ≤ 1000) (_ : 1 ≤ a) (ha : a ≤ 8) : 1 ≤ powI n a * b ∧ powI n a * b ≤ 6561000 := by
  have h1 := powI_pos (show 1 ≤ n by omega) a
  have h2 := powI_up (show 1 ≤ n by omega) ha
  have h3 := powI_le (show 1 ≤ n by omega) hn.2 8
  have h4 : powI 3 8 = 6561 := by decide
  have h5 : 1 * 1 ≤ powI n a * b := Int.mul_le_mul h1 hb.1 (by omega) (by omega)
  have h6 : powI n a * b ≤ 6561 * 1000 := Int.mul_le_mul (by omega) hb.2 (by omega) (by omega)
  omega
theorem fg_start (n b : Int) : b * n = powI n 1 * b := by
  simp only [powI, Int.one_mul]
  exact Int.mul_comm _ _
theorem plain_eq (Z : Int) : 2 * Z * Z * Z - Z * Z = Z * Z * (2 * Z - 1) := by
  rw [Int.mul_sub, Int.mul_one, Int.mul_assoc 2 Z Z, Int.mul_assoc 2 (Z * Z) Z, Int.mul_left_comm]
theorem fg_big {Z v : Int} (hv : v ≤ 1000000000000000) (h : 80000 < Z) : v < Z * Z * (2 * Z - 1) := by
  have h1 : 80001 * 80001 ≤ Z * Z := Int.mul_le_mul (by omega) (by omega) (by omega) (by omega)
  have h2 : 80001 * 80001 * 160001 ≤ Z * Z * (2 * Z - 1) := Int.mul_le_mul h1 (by omega) (by omega) (by omega)
  omega
def fgCode (p n m k : Int) (qs : List (List Nat)) (b : Int) : Int := if sqCode p n m k qs (decide (1 ≤ b) && decide (b ≤ 1000)) = 0 then (fgF qs.length (coAdd qs) n b 8 1).2 else sqCode p n m k qs (decide (1 ≤ b) && decide (b ≤ 1000))
def fgR (p n m k : Int) (qs : List (List Nat)) (b : Int) : Int := if sqCode p n m k qs (decide (1 ≤ b) && decide (b ≤ 1000)) = 0 then (fgF qs.length (coAdd qs) n b 8 1).1 else 0
set_option maxHeartbeats 6400000 in
theorem isBelowPlain_c (v s : Int) (hs : 1 ≤ s ∧ s ≤ 6561000) (hv : 0 ≤ v ∧ v ≤ 1000000000000000) (w : World) :
    Calls Try.prog 42 #[.int .i64 v, .int .i64 s] w (fun e w' => e = .returned (.bool (decide (v < s * s * (2 * s - 1)))) ∧ Below w.heap.size w w') := by
  have hB := Below.refl w.heap.size w
  have hss : 1 * 1 ≤ s * s ∧ s * s ≤ 6561000 * 6561000 := ⟨Int.mul_le_mul hs.1 hs.1 (by omega) (by omega), Int.mul_le_mul hs.2 hs.2 (by omega) (by omega)⟩
  have hne : s * s ≠ 0 := by omega
  obtain ⟨Q, hQ⟩ : ∃ Q, Q = Int.tdiv v (s * s) := ⟨_, rfl⟩
  have hQe : Q = v / (s * s) := by rw [hQ, Int.tdiv_eq_ediv_of_nonneg hv.1]
  have hQ0 : 0 ≤ Q := by rw [hQe]; exact Int.ediv_nonneg hv.1 (by omega)
  have hQ1 : Q ≤ v := by rw [hQe]; exact Int.ediv_le_self _ hv.1
  have HQ : Hid (IntKind.i64.wrap (Int.tdiv v (s * s)) = Q) := Lib.hid (by rw [← hQ]; exact IntWalk.i64_in _ (by omega))
  have HD : Hid (decide (v < s * s * (2 * s - 1)) = decide (Q < 2 * s - 1)) := Lib.hid (decide_eq_decide.2 (by rw [hQe, Int.ediv_lt_iff_lt_mul (by omega), Int.mul_comm]))
  clear hQ hQe hQ1 hQ0
  go_enter Try.func42, Try.ntmps42
  go_upto_region 0 with (fail)
  refine wp_region_lit ?_
  refine ls_ex (some 4) (.bool false) rfl rfl (exec_assign _ rfl (.bool false) rfl) ?_
  go_frame
  refine wpList_nil ?_
  go_upto_region 1 with (fail)
  refine wp_region_lit ?_
  refine ls_ex (some 5) (.int .i64 v) rfl rfl (exec_move _ rfl (.int .i64 v) rfl) ?_
  go_frame
  refine ls_ex (some 6) (.int .i64 s) rfl rfl (exec_move _ rfl (.int .i64 s) rfl) ?_
  go_frame
  refine ls_ex (some 7) (.int .i64 s) rfl rfl (exec_move _ rfl (.int .i64 s) rfl) ?_
  go_frame
  refine ls_ex (some 8) (.int .i64 (s * s)) rfl rfl (exec_mul _ _ _ _ rfl s s (s * s) rfl rfl (IntWalk.i64_in _ (by omega))) ?_
  go_frame
  refine ls_ex (some 9) (.int .i64 Q) rfl rfl (exec_quo _ _ _ _ rfl v (s * s) Q rfl rfl hne HQ.out) ?_
  go_frame
  refine ls_ex (some 10) (.int .i64 s) rfl rfl (exec_move _ rfl (.int .i64 s) rfl) ?_
  go_frame
  refine ls_ex (some 11) (.int .i64 (2 * s)) rfl rfl (exec_mul _ _ _ _ rfl 2 s (2 * s) rfl rfl (IntWalk.i64_in _ (by omega))) ?_
  go_frame
  refine ls_ex (some 12) (.int .i64 ((2 * s) - 1)) rfl rfl (exec_sub _ _ _ _ rfl ((2 * s)) 1 ((2 * s) - 1) rfl rfl (IntWalk.i64_in _ (by omega))) ?_
  go_frame
  refine ls_ex (some 13) (.bool (decide (Q < ((2 * s) - 1)))) rfl rfl (exec_lss _ _ _ _ rfl _ _ rfl rfl _ rfl) ?_
  go_frame
  refine ls_ex (some 4) (.bool (decide (Q < ((2 * s) - 1)))) rfl rfl (exec_assign _ rfl (.bool (decide (Q < ((2 * s) - 1)))) rfl) ?_
  go_frame
  refine wpList_nil ?_
  go_wp2_with fail
  go_ret
  exact ⟨by rw [HD.out]; rfl, hB⟩
set_option maxHeartbeats 12800000 in
theorem firstGain_c (n r l1 l2 l3 b : Int) (hn : 2 ≤ n ∧ n ≤ 3) (hr : 0 ≤ r ∧ r ≤ 30) (h1 : 0 ≤ l1 ∧ l1 ≤ 1000) (h2 : 0 ≤ l2 ∧ l2 ≤ 1000) (h3 : 0 ≤ l3 ∧ l3 ≤ 1000) (hb : 1 ≤ b ∧ b ≤ 1000) (w : World) :
    Calls Try.prog 27 #[.agg #[.int .i64 n, .int .i64 r, .int .i64 l1, .int .i64 l2, .int .i64 l3], .int .i64 b] w (fun e w' => FEnd (fgF r (l1 + l2 + l3) n b 8 1) e ∧ Below w.heap.size w w') := by
  have hB := Below.refl w.heap.size w
  have HP := Lib.hid (fun a (ha : a ≤ 8) j (hj : j ≤ a) => powI_in (show (1 : Int) ≤ n by omega) hn.2 8 (by decide) (show j ≤ 8 by omega))
  go_enter Try.func27, Try.ntmps27
  go_upto_region 0 with (fail)
  refine wp_region_lit ?_
  refine ls_op rfl (fun K' hK' => ?_)
  have lz1 := hB.size
  refine wp_new (some 2) rfl (exec_box 50 _ rfl (#[.int .i64 n, .int .i64 r, .int .i64 l1, .int .i64 l2, .int .i64 l3]) rfl) (fun Wz2 nnz3 => ?_)
  have bz4 := nnz3.below (Below.refl _ _) (Nat.le_refl _)
  replace hB := below_after hB bz4
  have hz5 : At Wz2 w.heap.size (.cells #[.int .i64 n, .int .i64 r, .int .i64 l1, .int .i64 l2, .int .i64 l3] 50 (0, 0)) := nnz3.at_
  refine hK' _ _ ?_
  clear hK' K' nnz3 bz4
  go_frame
  refine ls_ex (some 4) (.int .i64 0) rfl rfl (exec_assign _ rfl (.int .i64 0) rfl) ?_
  go_frame
  refine ls_ex (some 5) (.int .i64 0) rfl rfl (exec_assign _ rfl (.int .i64 0) rfl) ?_
  go_frame
  refine wpList_nil ?_
  go_upto_region 1 with (fail)
  refine wp_region_lit ?_
  refine ls_ex (some 6) (.int .i64 1) rfl rfl (exec_assign _ rfl (.int .i64 1) rfl) ?_
  go_frame
  refine wpList_nil ?_
  go_wp2_with fail
  go_loopw [6] (fun s6 wr => ∃ a : Nat, 1 ≤ a ∧ a ≤ 9 ∧ s6 = .int .i64 a ∧ Below w.heap.size w wr ∧ At wr w.heap.size (.cells #[.int .i64 n, .int .i64 r, .int .i64 l1, .int .i64 l2, .int .i64 l3] 50 (0, 0)) ∧ Hid (fgF r (l1 + l2 + l3) n b (9 - a) a = fgF r (l1 + l2 + l3) n b 8 1)) (fun s6 _ => 9 - (intOf s6).toNat)
  case atStart => exact ⟨1, by omega, by omega, rfl, hB, hz5, Lib.hid rfl⟩
  case round =>
    clear hB hz5
    obtain ⟨a, ha, ha9, rfl, hB, h0, HG⟩ := hrel
    by_cases hlt : a < 9
    · have hz := fg_size hn hb ha (show a ≤ 8 by omega)
      rcases ho : mxO (countsO r (l1 + l2 + l3) n a b) with _ | v
      · have HE := Lib.hid (fg_none (by omega) HG.out ho)
        have Ho := Lib.hid ho
        clear ho
        go_upto_region 2 with (fail)
        refine wp_region_lit ?_
        refine ls_ex (some 7) (.int .i64 a) rfl rfl (exec_move _ rfl (.int .i64 a) rfl) ?_
        go_frame
        refine ls_ex (some 8) (.bool true) rfl rfl (exec_leq _ _ _ _ rfl a 8 rfl rfl true (decide_eq_true (by omega))) ?_
        go_frame
        refine wpList_nil ?_
        go_upto_region 4 with (fail)
        refine wp_region_y (zs := []) (S := fun w' => Below w.heap.size w w' ∧ At w' w.heap.size (.cells #[.int .i64 n, .int .i64 r, .int .i64 l1, .int .i64 l2, .int .i64 l3] 50 (0, 0))) (S2 := fun w' => True) (by kernel_rfl) ?_
        change wpAnyY _ _ _ _ _ _ _ _ _ _ (World.drew _)
        generalize hwdz6 : World.drew _ = wdz6
        replace hB : Below w.heap.size w wdz6 := by rw [← hwdz6]; exact hB.drew
        replace h0 : At wdz6 w.heap.size (.cells #[.int .i64 n, .int .i64 r, .int .i64 l1, .int .i64 l2, .int .i64 l3] 50 (0, 0)) := by rw [← hwdz6]; exact h0
        clear hwdz6
        refine y_yield 0 (some 11) (.agg #[.int .i64 n, .int .i64 r, .int .i64 l1, .int .i64 l2, .int .i64 l3]) rfl (by kernel_rfl) (by kernel_rfl) (by kernel_rfl) (fun _ _ _ h => h) rfl rfl ⟨hB, h0⟩ (fun w' h' => exec_load_all 50 _ rfl w.heap.size rfl _ _ _ h'.2 Try.underlying50 rfl 5 (by kernel_rfl) rfl) ?_
        go_frame
        refine y_yield 1 (some 12) (.int .i64 a) rfl (by kernel_rfl) (by kernel_rfl) (by kernel_rfl) (fun _ _ _ h => h) rfl rfl ⟨hB, h0⟩ (fun w' h' => exec_move _ rfl (.int .i64 a) rfl) ?_
        go_frame
        refine y_yield 2 (some 13) (.int .i64 b) rfl (by kernel_rfl) (by kernel_rfl) (by kernel_rfl) (fun _ _ _ h => h) rfl rfl ⟨hB, h0⟩ (fun w' h' => exec_move _ rfl (.int .i64 b) rfl) ?_
        go_frame
        refine y_yield 4 (some 15) (.pointer (some ⟨w.heap.size, 0, none⟩)) rfl (by kernel_rfl) (by kernel_rfl) (by kernel_rfl) (fun _ _ _ h => h) rfl rfl ⟨hB, h0⟩ (fun w' h' => exec_fieldAddr 50 _ 0 rfl _ (by kernel_rfl)) ?_
        go_frame
        refine y_yield 5 (some 16) (.int .i64 n) rfl (by kernel_rfl) (by kernel_rfl) (by kernel_rfl) (fun _ _ _ h => h) rfl rfl ⟨hB, h0⟩ (fun w' h' => exec_load_one 2 _ rfl w.heap.size 0 rfl (.int .i64 n) _ Try.underlying2 rfl (h'.2.at_ 0)) ?_
        go_frame
        refine y_yield 6 (some 17) (.int .i64 a) rfl (by kernel_rfl) (by kernel_rfl) (by kernel_rfl) (fun _ _ _ h => h) rfl rfl ⟨hB, h0⟩ (fun w' h' => exec_move _ rfl (.int .i64 a) rfl) ?_
        go_frame
        refine y_yield 8 (some 19) (.int .i64 b) rfl (by kernel_rfl) (by kernel_rfl) (by kernel_rfl) (fun _ _ _ h => h) rfl rfl ⟨hB, h0⟩ (fun w' h' => exec_move _ rfl (.int .i64 b) rfl) ?_
        go_frame
        refine y_oper 3 (by kernel_rfl) rfl rfl (fun K' hK' => ?_)
        have lz9 := hB.size
        have lz10 := h0.lt
        refine wp_call3_p 43 _ _ _ _ rfl (fun args w => by kernel_rfl) _ _ _ rfl rfl rfl _ (mixedO_none n r l1 l2 l3 a b hn hr h1 h2 h3 (by omega) hb.1 _ Ho.out) (fun e Wz7 h => ?_)
        obtain ⟨hf, bz8⟩ := h
        replace hB := below_after hB bz8
        replace h0 := h0.after bz8
        refine ⟨_, hf, ?_⟩
        exact ⟨rfl, by rw [HE.out]; exact fend_no rfl, hB⟩
      · have hv := mxO_b (show 0 ≤ r by omega) (show 0 ≤ l1 + l2 + l3 by omega) hb.1 ho
        by_cases hlt2 : v < (powI n a * b) * (powI n a * b) * (2 * (powI n a * b) - 1)
        · have Hd := Lib.hid (decide_eq_true hlt2)
          have HE := Lib.hid (fg_yes (by omega) HG.out ho hlt2)
          have Ho := Lib.hid ho
          clear ho hlt2
          go_upto_region 2 with (fail)
          refine wp_region_lit ?_
          refine ls_ex (some 7) (.int .i64 a) rfl rfl (exec_move _ rfl (.int .i64 a) rfl) ?_
          go_frame
          refine ls_ex (some 8) (.bool true) rfl rfl (exec_leq _ _ _ _ rfl a 8 rfl rfl true (decide_eq_true (by omega))) ?_
          go_frame
          refine wpList_nil ?_
          go_upto_region 4 with (fail)
          refine wp_region_y (zs := []) (S := fun w' => Below w.heap.size w w' ∧ At w' w.heap.size (.cells #[.int .i64 n, .int .i64 r, .int .i64 l1, .int .i64 l2, .int .i64 l3] 50 (0, 0))) (S2 := fun w' => True) (by kernel_rfl) ?_
          change wpAnyY _ _ _ _ _ _ _ _ _ _ (World.drew _)
          generalize hwdz11 : World.drew _ = wdz11
          replace hB : Below w.heap.size w wdz11 := by rw [← hwdz11]; exact hB.drew
          replace h0 : At wdz11 w.heap.size (.cells #[.int .i64 n, .int .i64 r, .int .i64 l1, .int .i64 l2, .int .i64 l3] 50 (0, 0)) := by rw [← hwdz11]; exact h0
          clear hwdz11
          refine y_yield 0 (some 11) (.agg #[.int .i64 n, .int .i64 r, .int .i64 l1, .int .i64 l2, .int .i64 l3]) rfl (by kernel_rfl) (by kernel_rfl) (by kernel_rfl) (fun _ _ _ h => h) rfl rfl ⟨hB, h0⟩ (fun w' h' => exec_load_all 50 _ rfl w.heap.size rfl _ _ _ h'.2 Try.underlying50 rfl 5 (by kernel_rfl) rfl) ?_
          go_frame
          refine y_yield 1 (some 12) (.int .i64 a) rfl (by kernel_rfl) (by kernel_rfl) (by kernel_rfl) (fun _ _ _ h => h) rfl rfl ⟨hB, h0⟩ (fun w' h' => exec_move _ rfl (.int .i64 a) rfl) ?_
          go_frame
          refine y_yield 2 (some 13) (.int .i64 b) rfl (by kernel_rfl) (by kernel_rfl) (by kernel_rfl) (fun _ _ _ h => h) rfl rfl ⟨hB, h0⟩ (fun w' h' => exec_move _ rfl (.int .i64 b) rfl) ?_
          go_frame
          refine y_yield 4 (some 15) (.pointer (some ⟨w.heap.size, 0, none⟩)) rfl (by kernel_rfl) (by kernel_rfl) (by kernel_rfl) (fun _ _ _ h => h) rfl rfl ⟨hB, h0⟩ (fun w' h' => exec_fieldAddr 50 _ 0 rfl _ (by kernel_rfl)) ?_
          go_frame
          refine y_yield 5 (some 16) (.int .i64 n) rfl (by kernel_rfl) (by kernel_rfl) (by kernel_rfl) (fun _ _ _ h => h) rfl rfl ⟨hB, h0⟩ (fun w' h' => exec_load_one 2 _ rfl w.heap.size 0 rfl (.int .i64 n) _ Try.underlying2 rfl (h'.2.at_ 0)) ?_
          go_frame
          refine y_yield 6 (some 17) (.int .i64 a) rfl (by kernel_rfl) (by kernel_rfl) (by kernel_rfl) (fun _ _ _ h => h) rfl rfl ⟨hB, h0⟩ (fun w' h' => exec_move _ rfl (.int .i64 a) rfl) ?_
          go_frame
          refine y_yield 8 (some 19) (.int .i64 b) rfl (by kernel_rfl) (by kernel_rfl) (by kernel_rfl) (fun _ _ _ h => h) rfl rfl ⟨hB, h0⟩ (fun w' h' => exec_move _ rfl (.int .i64 b) rfl) ?_
          go_frame
          refine y_oper 3 (by kernel_rfl) rfl rfl (fun K' hK' => ?_)
          have lz14 := hB.size
          have lz15 := h0.lt
          refine wp_call3 (some 14) rfl 43 _ _ _ _ rfl (fun args w => by kernel_rfl) _ _ _ rfl rfl rfl _ (mixedO_some n r l1 l2 l3 a b hn hr h1 h2 h3 (by omega) hb.1 _ v Ho.out) (fun e Wz12 h => ?_)
          obtain ⟨rfl, bz13⟩ := h
          replace hB := below_after hB bz13
          replace h0 := h0.after bz13
          clear bz13
          refine ⟨_, rfl, ?_⟩
          refine hK' _ _ ⟨hB, h0⟩ (fun _ => trivial) ?_
          clear hK' K'
          go_frame
          refine y_oper 7 (by kernel_rfl) rfl rfl (fun K' hK' => ?_)
          have lz18 := hB.size
          have lz19 := h0.lt
          refine wp_call2 (some 18) rfl 32 _ _ _ rfl (fun args w => by kernel_rfl) _ _ rfl rfl _ (powerOf_c n a (by omega) (HP.out a (by omega)) _) (fun e Wz16 h => ?_)
          obtain ⟨rfl, rfl⟩ := h
          refine ⟨_, rfl, ?_⟩
          refine hK' _ _ ⟨hB, h0⟩ (fun _ => trivial) ?_
          clear hK' K'
          go_frame
          refine y_yield 9 (some 20) (.int .i64 (powI n a * b)) rfl (by kernel_rfl) (by kernel_rfl) (by kernel_rfl) (fun _ _ _ h => h) rfl rfl ⟨hB, h0⟩ (fun w' h' => exec_mul _ _ _ _ rfl (powI n a) b _ rfl rfl (IntWalk.i64_in _ (by omega))) ?_
          go_frame
          refine y_oper 10 (by kernel_rfl) rfl rfl (fun K' hK' => ?_)
          have lz22 := hB.size
          have lz23 := h0.lt
          refine wp_call2 (some 21) rfl 42 _ _ _ rfl (fun args w => by kernel_rfl) _ _ rfl rfl _ (isBelowPlain_c v (powI n a * b) hz hv _) (fun e Wz20 h => ?_)
          obtain ⟨rfl, bz21⟩ := h
          replace hB := below_after hB bz21
          replace h0 := h0.after bz21
          rw [Hd.out]
          clear bz21
          refine ⟨_, rfl, ?_⟩
          refine hK' _ _ ⟨hB, h0⟩ (fun _ => trivial) ?_
          clear hK' K'
          go_frame
          refine y_done (by kernel_rfl) ?_ _
          go_upto_region 5 with (fail)
          refine wp_region_lit ?_
          refine ls_ex (some 22) (.int .i64 a) rfl rfl (exec_move _ rfl (.int .i64 a) rfl) ?_
          go_frame
          refine ls_ex (some 4) (.int .i64 a) rfl rfl (exec_assign _ rfl (.int .i64 a) rfl) ?_
          go_frame
          refine ls_ex (some 5) (.int .i64 0) rfl rfl (exec_assign _ rfl (.int .i64 0) rfl) ?_
          go_frame
          refine wpList_nil ?_
          go_wp2_with fail
          go_ret2
          exact ⟨by rw [HE.out]; exact fend_ok (by decide), hB⟩
        · have Hd := Lib.hid (decide_eq_false hlt2)
          have HN := Lib.hid (fg_next (by omega) HG.out ho hlt2)
          have Ho := Lib.hid ho
          clear ho hlt2
          go_upto_region 2 with (fail)
          refine wp_region_lit ?_
          refine ls_ex (some 7) (.int .i64 a) rfl rfl (exec_move _ rfl (.int .i64 a) rfl) ?_
          go_frame
          refine ls_ex (some 8) (.bool true) rfl rfl (exec_leq _ _ _ _ rfl a 8 rfl rfl true (decide_eq_true (by omega))) ?_
          go_frame
          refine wpList_nil ?_
          go_upto_region 4 with (fail)
          refine wp_region_y (zs := []) (S := fun w' => Below w.heap.size w w' ∧ At w' w.heap.size (.cells #[.int .i64 n, .int .i64 r, .int .i64 l1, .int .i64 l2, .int .i64 l3] 50 (0, 0))) (S2 := fun w' => True) (by kernel_rfl) ?_
          change wpAnyY _ _ _ _ _ _ _ _ _ _ (World.drew _)
          generalize hwdz24 : World.drew _ = wdz24
          replace hB : Below w.heap.size w wdz24 := by rw [← hwdz24]; exact hB.drew
          replace h0 : At wdz24 w.heap.size (.cells #[.int .i64 n, .int .i64 r, .int .i64 l1, .int .i64 l2, .int .i64 l3] 50 (0, 0)) := by rw [← hwdz24]; exact h0
          clear hwdz24
          refine y_yield 0 (some 11) (.agg #[.int .i64 n, .int .i64 r, .int .i64 l1, .int .i64 l2, .int .i64 l3]) rfl (by kernel_rfl) (by kernel_rfl) (by kernel_rfl) (fun _ _ _ h => h) rfl rfl ⟨hB, h0⟩ (fun w' h' => exec_load_all 50 _ rfl w.heap.size rfl _ _ _ h'.2 Try.underlying50 rfl 5 (by kernel_rfl) rfl) ?_
          go_frame
          refine y_yield 1 (some 12) (.int .i64 a) rfl (by kernel_rfl) (by kernel_rfl) (by kernel_rfl) (fun _ _ _ h => h) rfl rfl ⟨hB, h0⟩ (fun w' h' => exec_move _ rfl (.int .i64 a) rfl) ?_
          go_frame
          refine y_yield 2 (some 13) (.int .i64 b) rfl (by kernel_rfl) (by kernel_rfl) (by kernel_rfl) (fun _ _ _ h => h) rfl rfl ⟨hB, h0⟩ (fun w' h' => exec_move _ rfl (.int .i64 b) rfl) ?_
          go_frame
          refine y_yield 4 (some 15) (.pointer (some ⟨w.heap.size, 0, none⟩)) rfl (by kernel_rfl) (by kernel_rfl) (by kernel_rfl) (fun _ _ _ h => h) rfl rfl ⟨hB, h0⟩ (fun w' h' => exec_fieldAddr 50 _ 0 rfl _ (by kernel_rfl)) ?_
          go_frame
          refine y_yield 5 (some 16) (.int .i64 n) rfl (by kernel_rfl) (by kernel_rfl) (by kernel_rfl) (fun _ _ _ h => h) rfl rfl ⟨hB, h0⟩ (fun w' h' => exec_load_one 2 _ rfl w.heap.size 0 rfl (.int .i64 n) _ Try.underlying2 rfl (h'.2.at_ 0)) ?_
          go_frame
          refine y_yield 6 (some 17) (.int .i64 a) rfl (by kernel_rfl) (by kernel_rfl) (by kernel_rfl) (fun _ _ _ h => h) rfl rfl ⟨hB, h0⟩ (fun w' h' => exec_move _ rfl (.int .i64 a) rfl) ?_
          go_frame
          refine y_yield 8 (some 19) (.int .i64 b) rfl (by kernel_rfl) (by kernel_rfl) (by kernel_rfl) (fun _ _ _ h => h) rfl rfl ⟨hB, h0⟩ (fun w' h' => exec_move _ rfl (.int .i64 b) rfl) ?_
          go_frame
          refine y_oper 3 (by kernel_rfl) rfl rfl (fun K' hK' => ?_)
          have lz27 := hB.size
          have lz28 := h0.lt
          refine wp_call3 (some 14) rfl 43 _ _ _ _ rfl (fun args w => by kernel_rfl) _ _ _ rfl rfl rfl _ (mixedO_some n r l1 l2 l3 a b hn hr h1 h2 h3 (by omega) hb.1 _ v Ho.out) (fun e Wz25 h => ?_)
          obtain ⟨rfl, bz26⟩ := h
          replace hB := below_after hB bz26
          replace h0 := h0.after bz26
          clear bz26
          refine ⟨_, rfl, ?_⟩
          refine hK' _ _ ⟨hB, h0⟩ (fun _ => trivial) ?_
          clear hK' K'
          go_frame
          refine y_oper 7 (by kernel_rfl) rfl rfl (fun K' hK' => ?_)
          have lz31 := hB.size
          have lz32 := h0.lt
          refine wp_call2 (some 18) rfl 32 _ _ _ rfl (fun args w => by kernel_rfl) _ _ rfl rfl _ (powerOf_c n a (by omega) (HP.out a (by omega)) _) (fun e Wz29 h => ?_)
          obtain ⟨rfl, rfl⟩ := h
          refine ⟨_, rfl, ?_⟩
          refine hK' _ _ ⟨hB, h0⟩ (fun _ => trivial) ?_
          clear hK' K'
          go_frame
          refine y_yield 9 (some 20) (.int .i64 (powI n a * b)) rfl (by kernel_rfl) (by kernel_rfl) (by kernel_rfl) (fun _ _ _ h => h) rfl rfl ⟨hB, h0⟩ (fun w' h' => exec_mul _ _ _ _ rfl (powI n a) b _ rfl rfl (IntWalk.i64_in _ (by omega))) ?_
          go_frame
          refine y_oper 10 (by kernel_rfl) rfl rfl (fun K' hK' => ?_)
          have lz35 := hB.size
          have lz36 := h0.lt
          refine wp_call2 (some 21) rfl 42 _ _ _ rfl (fun args w => by kernel_rfl) _ _ rfl rfl _ (isBelowPlain_c v (powI n a * b) hz hv _) (fun e Wz33 h => ?_)
          obtain ⟨rfl, bz34⟩ := h
          replace hB := below_after hB bz34
          replace h0 := h0.after bz34
          rw [Hd.out]
          clear bz34
          refine ⟨_, rfl, ?_⟩
          refine hK' _ _ ⟨hB, h0⟩ (fun _ => trivial) ?_
          clear hK' K'
          go_frame
          refine y_done (by kernel_rfl) ?_ _
          go_upto_region 3 with (fail)
          refine wp_region_lit ?_
          refine ls_ex (some 9) (.int .i64 a) rfl rfl (exec_move _ rfl (.int .i64 a) rfl) ?_
          go_frame
          refine ls_ex (some 10) (.int .i64 (a + 1)) rfl rfl (exec_add _ _ _ _ rfl a 1 (a + 1) rfl rfl (IntWalk.i64_in _ (by omega))) ?_
          go_frame
          refine ls_ex (some 6) (.int .i64 (a + 1)) rfl rfl (exec_assign _ rfl (.int .i64 (a + 1)) rfl) ?_
          go_frame
          refine wpList_nil ?_
          go_wp2_with fail
          go_roundw
          case rel => exact ⟨a + 1, by omega, by omega, by go_num, hB, h0, HN⟩
          case measure => simp [intOf]; omega
    · have HE := Lib.hid (fg_end (by omega) HG.out)
      go_upto_region 2 with (fail)
      refine wp_region_lit ?_
      refine ls_ex (some 7) (.int .i64 a) rfl rfl (exec_move _ rfl (.int .i64 a) rfl) ?_
      go_frame
      refine ls_ex (some 8) (.bool false) rfl rfl (exec_leq _ _ _ _ rfl a 8 rfl rfl false (decide_eq_false (by omega))) ?_
      go_frame
      refine wpList_nil ?_
      go_upto_region 6 with (fail)
      refine wp_region_lit ?_
      refine ls_ex (some 4) (.int .i64 0) rfl rfl (exec_assign _ rfl (.int .i64 0) rfl) ?_
      go_frame
      refine ls_ex (some 5) (.int .i64 4) rfl rfl (exec_assign _ rfl (.int .i64 4) rfl) ?_
      go_frame
      refine wpList_nil ?_
      go_wp2_with fail
      go_ret2
      exact ⟨by rw [HE.out]; exact fend_ok (by decide), hB⟩
theorem gain_ok (n r l1 l2 l3 b : Int) (hn : 2 ≤ n ∧ n ≤ 3) (hr : 0 ≤ r ∧ r ≤ 30) (h1 : 0 ≤ l1 ∧ l1 ≤ 1000) (h2 : 0 ≤ l2 ∧ l2 ≤ 1000) (h3 : 0 ≤ l3 ∧ l3 ≤ 1000) (hb : 1 ≤ b ∧ b ≤ 1000) (w : World) (h : (fgF r (l1 + l2 + l3) n b 8 1).2 ≠ 3) : Calls Try.prog 27 #[.agg #[.int .i64 n, .int .i64 r, .int .i64 l1, .int .i64 l2, .int .i64 l3], .int .i64 b] w fun e w' => e = .returned (.tuple #[.int .i64 (fgF r (l1 + l2 + l3) n b 8 1).1, .int .i64 (fgF r (l1 + l2 + l3) n b 8 1).2]) ∧ Below w.heap.size w w' :=
  (firstGain_c n r l1 l2 l3 b hn hr h1 h2 h3 hb w).mono fun e w' he => ⟨by have := he.1; unfold FEnd at this; rwa [if_neg h] at this, he.2⟩
theorem gain_no (n r l1 l2 l3 b : Int) (hn : 2 ≤ n ∧ n ≤ 3) (hr : 0 ≤ r ∧ r ≤ 30) (h1 : 0 ≤ l1 ∧ l1 ≤ 1000) (h2 : 0 ≤ l2 ∧ l2 ≤ 1000) (h3 : 0 ≤ l3 ∧ l3 ≤ 1000) (hb : 1 ≤ b ∧ b ≤ 1000) (w : World) (h : (fgF r (l1 + l2 + l3) n b 8 1).2 = 3) : Calls Try.prog 27 #[.agg #[.int .i64 n, .int .i64 r, .int .i64 l1, .int .i64 l2, .int .i64 l3], .int .i64 b] w fun e w' => Fails e ∧ Below w.heap.size w w' :=
  (firstGain_c n r l1 l2 l3 b hn hr h1 h2 h3 hb w).mono fun e w' he => ⟨by have := he.1; unfold FEnd at this; rwa [if_pos h] at this, he.2⟩
set_option maxHeartbeats 6400000 in
theorem litG_ok (p n m k : Int) (g c : Nat) (qs : List (List Nat)) (b : Int) (w : World) (hR : Rd w (some ⟨g, 0, none⟩) qs) (hs : schemeB p n m k qs = true) (hn : 2 ≤ n ∧ n ≤ 3) (hb : 1 ≤ b ∧ b ≤ 1000) (g3 g4 : Nat) (h3 : At w g3 (.cells #[.int .i64 p, .int .i64 n, .int .i64 m, .int .i64 k, .slice (some ⟨g, 0, none⟩) qs.length c] 30 (0, 0))) (h4 : At w g4 (.cells #[.int .i64 b] 2 (0, 0))) (h5 : (fgF qs.length (coAdd qs) n b 8 1).2 ≠ 3) :
    Calls Try.prog 25 #[.pointer (some ⟨g3, 0, none⟩), .pointer (some ⟨g4, 0, none⟩)] w (fun e w' => e = .returned (.tuple #[.int .i64 (fgF qs.length (coAdd qs) n b 8 1).1, .int .i64 (fgF qs.length (coAdd qs) n b 8 1).2]) ∧ Below w.heap.size w w') := by
  have hB := Below.refl w.heap.size w
  have Hs := Lib.hid hs
  have H3 := Lib.hid h5
  have h30 := schemeB_len hs
  have hr : (0 : Int) ≤ qs.length ∧ (qs.length : Int) ≤ 30 := by omega
  have hc := co_bounds hs hR.good
  clear h5 hs
  go_enter Try.func25, Try.ntmps25
  go_upto_region 0 with (fail)
  refine wp_region_lit ?_
  refine ls_ex (some 2) (.int .i64 0) rfl rfl (exec_assign _ rfl (.int .i64 0) rfl) ?_
  go_frame
  refine ls_ex (some 3) (.int .i64 0) rfl rfl (exec_assign _ rfl (.int .i64 0) rfl) ?_
  go_frame
  refine wpList_nil ?_
  go_upto_region 1 with (fail)
  refine wp_region_y (zs := []) (S := fun w' => Below w.heap.size w w' ∧ At w' g3 (.cells #[.int .i64 p, .int .i64 n, .int .i64 m, .int .i64 k, .slice (some ⟨g, 0, none⟩) qs.length c] 30 (0, 0)) ∧ At w' g4 (.cells #[.int .i64 b] 2 (0, 0))) (S2 := fun w' => True) (by kernel_rfl) ?_
  change wpAnyY _ _ _ _ _ _ _ _ _ _ (World.drew _)
  generalize hwdz1 : World.drew _ = wdz1
  replace hB : Below w.heap.size w wdz1 := by rw [← hwdz1]; exact hB.drew
  replace h3 : At wdz1 g3 (.cells #[.int .i64 p, .int .i64 n, .int .i64 m, .int .i64 k, .slice (some ⟨g, 0, none⟩) qs.length c] 30 (0, 0)) := by rw [← hwdz1]; exact h3
  replace h4 : At wdz1 g4 (.cells #[.int .i64 b] 2 (0, 0)) := by rw [← hwdz1]; exact h4
  clear hwdz1
  refine y_yield 0 (some 4) (.agg #[.int .i64 p, .int .i64 n, .int .i64 m, .int .i64 k, .slice (some ⟨g, 0, none⟩) qs.length c]) rfl (by kernel_rfl) (by kernel_rfl) (by kernel_rfl) (fun _ _ _ h => h) rfl rfl ⟨hB, h3, h4⟩ (fun w' h' => exec_load_all 30 _ rfl g3 rfl _ _ _ h'.2.1 Try.underlying30 rfl 5 (by kernel_rfl) rfl) ?_
  go_frame
  refine y_yield 2 (some 6) (.int .i64 b) rfl (by kernel_rfl) (by kernel_rfl) (by kernel_rfl) (fun _ _ _ h => h) rfl rfl ⟨hB, h3, h4⟩ (fun w' h' => exec_load_one 2 _ rfl g4 0 rfl (.int .i64 b) _ Try.underlying2 rfl (h'.2.2.at_ 0)) ?_
  go_frame
  refine y_oper 1 (by kernel_rfl) rfl rfl (fun K' hK' => ?_)
  have lz4 := hB.size
  have lz5 := h3.lt
  have lz6 := h4.lt
  refine wp_call1 (some 5) rfl 26 _ _ rfl (fun args w => by kernel_rfl) _ rfl _ (repetitionOf_c p n m k g c qs _ (hR.keep hB) Hs.out) (fun e Wz2 h => ?_)
  obtain ⟨rfl, bz3⟩ := h
  replace hB := below_after hB bz3
  replace h3 := h3.after bz3
  replace h4 := h4.after bz3
  clear bz3
  refine ⟨_, rfl, ?_⟩
  refine hK' _ _ ⟨hB, h3, h4⟩ (fun _ => trivial) ?_
  clear hK' K'
  go_frame
  refine y_oper 3 (by kernel_rfl) rfl rfl (fun K' hK' => ?_)
  have lz9 := hB.size
  have lz10 := h3.lt
  have lz11 := h4.lt
  refine wp_call2 (some 7) rfl 27 _ _ _ rfl (fun args w => by kernel_rfl) _ _ rfl rfl _ (gain_ok n qs.length (wsI qs 0 qs.length) (wsI qs 9 qs.length) (lastI qs qs.length 9) b hn hr hc.1 hc.2.1 hc.2.2 hb _ H3.out) (fun e Wz7 h => ?_)
  obtain ⟨rfl, bz8⟩ := h
  replace hB := below_after hB bz8
  replace h3 := h3.after bz8
  replace h4 := h4.after bz8
  clear bz8
  refine ⟨_, rfl, ?_⟩
  refine hK' _ _ ⟨hB, h3, h4⟩ (fun _ => trivial) ?_
  clear hK' K'
  go_frame
  refine y_yield 4 (some 8) (.int .i64 (fgF qs.length (coAdd qs) n b 8 1).1) rfl (by kernel_rfl) (by kernel_rfl) (by kernel_rfl) (fun _ _ _ h => h) rfl rfl ⟨hB, h3, h4⟩ (fun w' h' => exec_extract _ 0 rfl #[.int .i64 (fgF qs.length (coAdd qs) n b 8 1).1, .int .i64 (fgF qs.length (coAdd qs) n b 8 1).2] (by rfl) _ rfl) ?_
  go_frame
  refine y_yield 5 (some 9) (.int .i64 (fgF qs.length (coAdd qs) n b 8 1).2) rfl (by kernel_rfl) (by kernel_rfl) (by kernel_rfl) (fun _ _ _ h => h) rfl rfl ⟨hB, h3, h4⟩ (fun w' h' => exec_extract _ 1 rfl #[.int .i64 (fgF qs.length (coAdd qs) n b 8 1).1, .int .i64 (fgF qs.length (coAdd qs) n b 8 1).2] (by rfl) _ rfl) ?_
  go_frame
  refine y_oper 6 (by kernel_rfl) rfl rfl (fun K' hK' => ?_)
  refine wp_exec (some 2) rfl (.int .i64 (fgF qs.length (coAdd qs) n b 8 1).1) (exec_assign _ rfl (.int .i64 (fgF qs.length (coAdd qs) n b 8 1).1) rfl) ?_
  refine hK' _ _ ⟨hB, h3, h4⟩ (fun _ => trivial) ?_
  clear hK' K'
  go_frame
  refine y_oper 7 (by kernel_rfl) rfl rfl (fun K' hK' => ?_)
  refine wp_exec (some 3) rfl (.int .i64 (fgF qs.length (coAdd qs) n b 8 1).2) (exec_assign _ rfl (.int .i64 (fgF qs.length (coAdd qs) n b 8 1).2) rfl) ?_
  refine hK' _ _ ⟨hB, h3, h4⟩ (fun _ => trivial) ?_
  clear hK' K'
  go_frame
  refine y_done (by kernel_rfl) ?_ _
  go_wp2_with fail
  go_ret2
  exact ⟨rfl, hB⟩
set_option maxHeartbeats 6400000 in
theorem litG_no (p n m k : Int) (g c : Nat) (qs : List (List Nat)) (b : Int) (w : World) (hR : Rd w (some ⟨g, 0, none⟩) qs) (hs : schemeB p n m k qs = true) (hn : 2 ≤ n ∧ n ≤ 3) (hb : 1 ≤ b ∧ b ≤ 1000) (g3 g4 : Nat) (h3 : At w g3 (.cells #[.int .i64 p, .int .i64 n, .int .i64 m, .int .i64 k, .slice (some ⟨g, 0, none⟩) qs.length c] 30 (0, 0))) (h4 : At w g4 (.cells #[.int .i64 b] 2 (0, 0))) (h5 : (fgF qs.length (coAdd qs) n b 8 1).2 = 3) :
    Calls Try.prog 25 #[.pointer (some ⟨g3, 0, none⟩), .pointer (some ⟨g4, 0, none⟩)] w (fun e w' => Fails e ∧ Below w.heap.size w w') := by
  have hB := Below.refl w.heap.size w
  have Hs := Lib.hid hs
  have H3 := Lib.hid h5
  have h30 := schemeB_len hs
  have hr : (0 : Int) ≤ qs.length ∧ (qs.length : Int) ≤ 30 := by omega
  have hc := co_bounds hs hR.good
  clear h5 hs
  go_enter Try.func25, Try.ntmps25
  go_upto_region 0 with (fail)
  refine wp_region_lit ?_
  refine ls_ex (some 2) (.int .i64 0) rfl rfl (exec_assign _ rfl (.int .i64 0) rfl) ?_
  go_frame
  refine ls_ex (some 3) (.int .i64 0) rfl rfl (exec_assign _ rfl (.int .i64 0) rfl) ?_
  go_frame
  refine wpList_nil ?_
  go_upto_region 1 with (fail)
  refine wp_region_y (zs := []) (S := fun w' => Below w.heap.size w w' ∧ At w' g3 (.cells #[.int .i64 p, .int .i64 n, .int .i64 m, .int .i64 k, .slice (some ⟨g, 0, none⟩) qs.length c] 30 (0, 0)) ∧ At w' g4 (.cells #[.int .i64 b] 2 (0, 0))) (S2 := fun w' => True) (by kernel_rfl) ?_
  change wpAnyY _ _ _ _ _ _ _ _ _ _ (World.drew _)
  generalize hwdz1 : World.drew _ = wdz1
  replace hB : Below w.heap.size w wdz1 := by rw [← hwdz1]; exact hB.drew
  replace h3 : At wdz1 g3 (.cells #[.int .i64 p, .int .i64 n, .int .i64 m, .int .i64 k, .slice (some ⟨g, 0, none⟩) qs.length c] 30 (0, 0)) := by rw [← hwdz1]; exact h3
  replace h4 : At wdz1 g4 (.cells #[.int .i64 b] 2 (0, 0)) := by rw [← hwdz1]; exact h4
  clear hwdz1
  refine y_yield 0 (some 4) (.agg #[.int .i64 p, .int .i64 n, .int .i64 m, .int .i64 k, .slice (some ⟨g, 0, none⟩) qs.length c]) rfl (by kernel_rfl) (by kernel_rfl) (by kernel_rfl) (fun _ _ _ h => h) rfl rfl ⟨hB, h3, h4⟩ (fun w' h' => exec_load_all 30 _ rfl g3 rfl _ _ _ h'.2.1 Try.underlying30 rfl 5 (by kernel_rfl) rfl) ?_
  go_frame
  refine y_yield 2 (some 6) (.int .i64 b) rfl (by kernel_rfl) (by kernel_rfl) (by kernel_rfl) (fun _ _ _ h => h) rfl rfl ⟨hB, h3, h4⟩ (fun w' h' => exec_load_one 2 _ rfl g4 0 rfl (.int .i64 b) _ Try.underlying2 rfl (h'.2.2.at_ 0)) ?_
  go_frame
  refine y_oper 1 (by kernel_rfl) rfl rfl (fun K' hK' => ?_)
  have lz4 := hB.size
  have lz5 := h3.lt
  have lz6 := h4.lt
  refine wp_call1 (some 5) rfl 26 _ _ rfl (fun args w => by kernel_rfl) _ rfl _ (repetitionOf_c p n m k g c qs _ (hR.keep hB) Hs.out) (fun e Wz2 h => ?_)
  obtain ⟨rfl, bz3⟩ := h
  replace hB := below_after hB bz3
  replace h3 := h3.after bz3
  replace h4 := h4.after bz3
  clear bz3
  refine ⟨_, rfl, ?_⟩
  refine hK' _ _ ⟨hB, h3, h4⟩ (fun _ => trivial) ?_
  clear hK' K'
  go_frame
  refine y_oper 3 (by kernel_rfl) rfl rfl (fun K' hK' => ?_)
  have lz9 := hB.size
  have lz10 := h3.lt
  have lz11 := h4.lt
  refine wp_call2_p 27 _ _ _ rfl (fun args w => by kernel_rfl) _ _ rfl rfl _ (gain_no n qs.length (wsI qs 0 qs.length) (wsI qs 9 qs.length) (lastI qs qs.length 9) b hn hr hc.1 hc.2.1 hc.2.2 hb _ H3.out) (fun e Wz7 h => ?_)
  obtain ⟨hf, bz8⟩ := h
  replace hB := below_after hB bz8
  replace h3 := h3.after bz8
  replace h4 := h4.after bz8
  refine ⟨_, hf, ?_⟩
  exact ⟨rfl, rfl, hB⟩
set_option maxHeartbeats 6400000 in
theorem implFg_a (p n m k : Int) (g c : Nat) (qs : List (List Nat)) (b : Int) (w : World) (hR : Rd w (some ⟨g, 0, none⟩) qs) (hlen : qs.length ≤ 1048576) (hne : sqCode p n m k qs (decide (1 ≤ b) && decide (b ≤ 1000)) ≠ 0) :
    Calls Try.prog 10 #[.agg #[.int .i64 p, .int .i64 n, .int .i64 m, .int .i64 k, .slice (some ⟨g, 0, none⟩) qs.length c], .int .i64 b] w (fun e w' => e = .returned (.tuple #[.int .i64 (fgR p n m k qs b), .int .i64 (fgCode p n m k qs b)]) ∧ Below w.heap.size w w') := by
  have hB := Below.refl w.heap.size w
  have Hc : Hid (fgCode p n m k qs b = sqCode p n m k qs (decide (1 ≤ b) && decide (b ≤ 1000))) := Lib.hid (by unfold fgCode; rw [if_neg hne])
  have Hr : Hid (fgR p n m k qs b = 0) := Lib.hid (by unfold fgR; rw [if_neg hne])
  have Hne : Hid ((sqCode p n m k qs (decide (1 ≤ b) && decide (b ≤ 1000)) != 0) = true) := Lib.hid (by simpa using hne)
  clear hne
  go_enter Try.func10, Try.ntmps10
  go_upto_region 0 with (fail)
  refine wp_region_lit ?_
  refine ls_op rfl (fun K' hK' => ?_)
  have lz1 := hB.size
  refine wp_new (some 2) rfl (exec_box 30 _ rfl (#[.int .i64 p, .int .i64 n, .int .i64 m, .int .i64 k, .slice (some ⟨g, 0, none⟩) qs.length c]) rfl) (fun Wz2 nnz3 => ?_)
  have bz4 := nnz3.below (Below.refl _ _) (Nat.le_refl _)
  replace hB := below_after hB bz4
  have hz5 : At Wz2 w.heap.size (.cells #[.int .i64 p, .int .i64 n, .int .i64 m, .int .i64 k, .slice (some ⟨g, 0, none⟩) qs.length c] 30 (0, 0)) := nnz3.at_
  refine hK' _ _ ?_
  clear hK' K' nnz3 bz4
  go_frame
  refine ls_op rfl (fun K' hK' => ?_)
  have lz6 := hB.size
  have lz7 := hz5.lt
  refine wp_new (some 3) rfl (exec_box 2 _ rfl (#[.int .i64 b]) rfl) (fun Wz8 nnz9 => ?_)
  have bz10 := nnz9.below (Below.refl _ _) (Nat.le_refl _)
  replace hB := below_after hB bz10
  replace hz5 := hz5.after bz10
  have hz11 : At Wz8 Wz2.heap.size (.cells #[.int .i64 b] 2 (0, 0)) := nnz9.at_
  refine hK' _ _ ?_
  clear hK' K' nnz9 bz10
  go_frame
  refine ls_ex (some 4) (.int .i64 0) rfl rfl (exec_assign _ rfl (.int .i64 0) rfl) ?_
  go_frame
  refine ls_ex (some 5) (.int .i64 0) rfl rfl (exec_assign _ rfl (.int .i64 0) rfl) ?_
  go_frame
  refine wpList_nil ?_
  go_upto_region 1 with (fail)
  refine wp_region_y (zs := []) (S := fun w' => Below w.heap.size w w' ∧ At w' w.heap.size (.cells #[.int .i64 p, .int .i64 n, .int .i64 m, .int .i64 k, .slice (some ⟨g, 0, none⟩) qs.length c] 30 (0, 0)) ∧ At w' Wz2.heap.size (.cells #[.int .i64 b] 2 (0, 0))) (S2 := fun w' => True) (by kernel_rfl) ?_
  change wpAnyY _ _ _ _ _ _ _ _ _ _ (World.drew _)
  generalize hwdz12 : World.drew _ = wdz12
  replace hB : Below w.heap.size w wdz12 := by rw [← hwdz12]; exact hB.drew
  replace hz5 : At wdz12 w.heap.size (.cells #[.int .i64 p, .int .i64 n, .int .i64 m, .int .i64 k, .slice (some ⟨g, 0, none⟩) qs.length c] 30 (0, 0)) := by rw [← hwdz12]; exact hz5
  replace hz11 : At wdz12 Wz2.heap.size (.cells #[.int .i64 b] 2 (0, 0)) := by rw [← hwdz12]; exact hz11
  clear hwdz12
  refine y_yield 0 (some 7) (.agg #[.int .i64 p, .int .i64 n, .int .i64 m, .int .i64 k, .slice (some ⟨g, 0, none⟩) qs.length c]) rfl (by kernel_rfl) (by kernel_rfl) (by kernel_rfl) (fun _ _ _ h => h) rfl rfl ⟨hB, hz5, hz11⟩ (fun w' h' => exec_load_all 30 _ rfl w.heap.size rfl _ _ _ h'.2.1 Try.underlying30 rfl 5 (by kernel_rfl) rfl) ?_
  go_frame
  refine y_yield 1 (some 8) (.int .i64 b) rfl (by kernel_rfl) (by kernel_rfl) (by kernel_rfl) (fun _ _ _ h => h) rfl rfl ⟨hB, hz5, hz11⟩ (fun w' h' => exec_load_one 2 _ rfl Wz2.heap.size 0 rfl (.int .i64 b) _ Try.underlying2 rfl (h'.2.2.at_ 0)) ?_
  go_frame
  refine y_oper 2 (by kernel_rfl) rfl rfl (fun K' hK' => ?_)
  have lz15 := hB.size
  have lz16 := hz5.lt
  have lz17 := hz11.lt
  refine wp_call1 (some 9) rfl 23 _ _ rfl (fun args w => by kernel_rfl) _ rfl _ (isBase_c b _) (fun e Wz13 h => ?_)
  obtain ⟨rfl, rfl⟩ := h
  refine ⟨_, rfl, ?_⟩
  refine hK' _ _ ⟨hB, hz5, hz11⟩ (fun _ => trivial) ?_
  clear hK' K'
  go_frame
  refine y_oper 3 (by kernel_rfl) rfl rfl (fun K' hK' => ?_)
  have lz20 := hB.size
  have lz21 := hz5.lt
  have lz22 := hz11.lt
  refine wp_call2 (some 10) rfl 22 _ _ _ rfl (fun args w => by kernel_rfl) _ _ rfl rfl _ (checkRepeated_c p n m k (some ⟨g, 0, none⟩) c qs (decide (1 ≤ b) && decide (b ≤ 1000)) _ (hR.keep hB) hlen) (fun e Wz18 h => ?_)
  obtain ⟨rfl, bz19⟩ := h
  replace hB := below_after hB bz19
  replace hz5 := hz5.after bz19
  replace hz11 := hz11.after bz19
  clear bz19
  refine ⟨_, rfl, ?_⟩
  refine hK' _ _ ⟨hB, hz5, hz11⟩ (fun _ => trivial) ?_
  clear hK' K'
  go_frame
  refine y_oper 4 (by kernel_rfl) rfl rfl (fun K' hK' => ?_)
  refine wp_exec (some 6) rfl (.int .i64 (sqCode p n m k qs (decide (1 ≤ b) && decide (b ≤ 1000)))) (exec_assign _ rfl (.int .i64 (sqCode p n m k qs (decide (1 ≤ b) && decide (b ≤ 1000)))) rfl) ?_
  refine hK' _ _ ⟨hB, hz5, hz11⟩ (fun _ => trivial) ?_
  clear hK' K'
  go_frame
  refine y_done (by kernel_rfl) ?_ _
  go_upto_region 2 with (fail)
  refine wp_region_lit ?_
  refine ls_ex (some 11) (.int .i64 (sqCode p n m k qs (decide (1 ≤ b) && decide (b ≤ 1000)))) rfl rfl (exec_move _ rfl (.int .i64 (sqCode p n m k qs (decide (1 ≤ b) && decide (b ≤ 1000)))) rfl) ?_
  go_frame
  refine ls_ex (some 12) (.bool true) rfl rfl (exec_neq _ _ _ _ rfl ((sqCode p n m k qs (decide (1 ≤ b) && decide (b ≤ 1000)))) 0 rfl rfl true Hne.out) ?_
  go_frame
  refine wpList_nil ?_
  go_upto_region 3 with (fail)
  refine wp_region_lit ?_
  refine ls_ex (some 13) (.int .i64 (sqCode p n m k qs (decide (1 ≤ b) && decide (b ≤ 1000)))) rfl rfl (exec_move _ rfl (.int .i64 (sqCode p n m k qs (decide (1 ≤ b) && decide (b ≤ 1000)))) rfl) ?_
  go_frame
  refine ls_ex (some 4) (.int .i64 0) rfl rfl (exec_assign _ rfl (.int .i64 0) rfl) ?_
  go_frame
  refine ls_ex (some 5) (.int .i64 (sqCode p n m k qs (decide (1 ≤ b) && decide (b ≤ 1000)))) rfl rfl (exec_assign _ rfl (.int .i64 (sqCode p n m k qs (decide (1 ≤ b) && decide (b ≤ 1000)))) rfl) ?_
  go_frame
  refine wpList_nil ?_
  go_wp2_with fail
  go_ret2
  exact ⟨by rw [Hr.out, Hc.out]; rfl, hB⟩
set_option maxHeartbeats 6400000 in
theorem implFg_d (p n m k : Int) (g c : Nat) (qs : List (List Nat)) (b : Int) (w : World) (hR : Rd w (some ⟨g, 0, none⟩) qs) (hlen : qs.length ≤ 1048576) (h0 : sqCode p n m k qs (decide (1 ≤ b) && decide (b ≤ 1000)) = 0) (h5 : (fgF qs.length (coAdd qs) n b 8 1).2 = 3) :
    Calls Try.prog 10 #[.agg #[.int .i64 p, .int .i64 n, .int .i64 m, .int .i64 k, .slice (some ⟨g, 0, none⟩) qs.length c], .int .i64 b] w (fun e w' => e = .returned (.tuple #[.int .i64 (fgR p n m k qs b), .int .i64 (fgCode p n m k qs b)]) ∧ Below w.heap.size w w') := by
  have hB := Below.refl w.heap.size w
  have hf := sq_facts h0
  have hbb : (decide (1 ≤ b) && decide (b ≤ 1000)) = true := hf.2.2.2.2.2
  have hb1 : 1 ≤ b ∧ b ≤ 1000 := by simp only [Bool.and_eq_true, decide_eq_true_eq] at hbb; omega
  have hn : 2 ≤ n ∧ n ≤ 3 := ⟨hf.2.1, hf.2.2.1⟩
  have Hs := Lib.hid hf.1
  have H0 := Lib.hid h0
  have H3 := Lib.hid h5
  have Hc : Hid (fgCode p n m k qs b = 3) := Lib.hid (by unfold fgCode; rw [if_pos h0, h5])
  have Hr : Hid (fgR p n m k qs b = 0) := Lib.hid (by unfold fgR; rw [if_pos h0]; exact fg_zero _ _ _ h5)
  clear h0 h5 hf hbb
  go_enter Try.func10, Try.ntmps10
  go_upto_region 0 with (fail)
  refine wp_region_lit ?_
  refine ls_op rfl (fun K' hK' => ?_)
  have lz1 := hB.size
  refine wp_new (some 2) rfl (exec_box 30 _ rfl (#[.int .i64 p, .int .i64 n, .int .i64 m, .int .i64 k, .slice (some ⟨g, 0, none⟩) qs.length c]) rfl) (fun Wz2 nnz3 => ?_)
  have bz4 := nnz3.below (Below.refl _ _) (Nat.le_refl _)
  replace hB := below_after hB bz4
  have hz5 : At Wz2 w.heap.size (.cells #[.int .i64 p, .int .i64 n, .int .i64 m, .int .i64 k, .slice (some ⟨g, 0, none⟩) qs.length c] 30 (0, 0)) := nnz3.at_
  refine hK' _ _ ?_
  clear hK' K' nnz3 bz4
  go_frame
  refine ls_op rfl (fun K' hK' => ?_)
  have lz6 := hB.size
  have lz7 := hz5.lt
  refine wp_new (some 3) rfl (exec_box 2 _ rfl (#[.int .i64 b]) rfl) (fun Wz8 nnz9 => ?_)
  have bz10 := nnz9.below (Below.refl _ _) (Nat.le_refl _)
  replace hB := below_after hB bz10
  replace hz5 := hz5.after bz10
  have hz11 : At Wz8 Wz2.heap.size (.cells #[.int .i64 b] 2 (0, 0)) := nnz9.at_
  refine hK' _ _ ?_
  clear hK' K' nnz9 bz10
  go_frame
  refine ls_ex (some 4) (.int .i64 0) rfl rfl (exec_assign _ rfl (.int .i64 0) rfl) ?_
  go_frame
  refine ls_ex (some 5) (.int .i64 0) rfl rfl (exec_assign _ rfl (.int .i64 0) rfl) ?_
  go_frame
  refine wpList_nil ?_
  go_upto_region 1 with (fail)
  refine wp_region_y (zs := []) (S := fun w' => Below w.heap.size w w' ∧ At w' w.heap.size (.cells #[.int .i64 p, .int .i64 n, .int .i64 m, .int .i64 k, .slice (some ⟨g, 0, none⟩) qs.length c] 30 (0, 0)) ∧ At w' Wz2.heap.size (.cells #[.int .i64 b] 2 (0, 0))) (S2 := fun w' => True) (by kernel_rfl) ?_
  change wpAnyY _ _ _ _ _ _ _ _ _ _ (World.drew _)
  generalize hwdz12 : World.drew _ = wdz12
  replace hB : Below w.heap.size w wdz12 := by rw [← hwdz12]; exact hB.drew
  replace hz5 : At wdz12 w.heap.size (.cells #[.int .i64 p, .int .i64 n, .int .i64 m, .int .i64 k, .slice (some ⟨g, 0, none⟩) qs.length c] 30 (0, 0)) := by rw [← hwdz12]; exact hz5
  replace hz11 : At wdz12 Wz2.heap.size (.cells #[.int .i64 b] 2 (0, 0)) := by rw [← hwdz12]; exact hz11
  clear hwdz12
  refine y_yield 0 (some 7) (.agg #[.int .i64 p, .int .i64 n, .int .i64 m, .int .i64 k, .slice (some ⟨g, 0, none⟩) qs.length c]) rfl (by kernel_rfl) (by kernel_rfl) (by kernel_rfl) (fun _ _ _ h => h) rfl rfl ⟨hB, hz5, hz11⟩ (fun w' h' => exec_load_all 30 _ rfl w.heap.size rfl _ _ _ h'.2.1 Try.underlying30 rfl 5 (by kernel_rfl) rfl) ?_
  go_frame
  refine y_yield 1 (some 8) (.int .i64 b) rfl (by kernel_rfl) (by kernel_rfl) (by kernel_rfl) (fun _ _ _ h => h) rfl rfl ⟨hB, hz5, hz11⟩ (fun w' h' => exec_load_one 2 _ rfl Wz2.heap.size 0 rfl (.int .i64 b) _ Try.underlying2 rfl (h'.2.2.at_ 0)) ?_
  go_frame
  refine y_oper 2 (by kernel_rfl) rfl rfl (fun K' hK' => ?_)
  have lz15 := hB.size
  have lz16 := hz5.lt
  have lz17 := hz11.lt
  refine wp_call1 (some 9) rfl 23 _ _ rfl (fun args w => by kernel_rfl) _ rfl _ (isBase_c b _) (fun e Wz13 h => ?_)
  obtain ⟨rfl, rfl⟩ := h
  refine ⟨_, rfl, ?_⟩
  refine hK' _ _ ⟨hB, hz5, hz11⟩ (fun _ => trivial) ?_
  clear hK' K'
  go_frame
  refine y_oper 3 (by kernel_rfl) rfl rfl (fun K' hK' => ?_)
  have lz20 := hB.size
  have lz21 := hz5.lt
  have lz22 := hz11.lt
  refine wp_call2 (some 10) rfl 22 _ _ _ rfl (fun args w => by kernel_rfl) _ _ rfl rfl _ (checkRepeated_c p n m k (some ⟨g, 0, none⟩) c qs (decide (1 ≤ b) && decide (b ≤ 1000)) _ (hR.keep hB) hlen) (fun e Wz18 h => ?_)
  obtain ⟨rfl, bz19⟩ := h
  replace hB := below_after hB bz19
  replace hz5 := hz5.after bz19
  replace hz11 := hz11.after bz19
  rw [H0.out]
  clear bz19
  refine ⟨_, rfl, ?_⟩
  refine hK' _ _ ⟨hB, hz5, hz11⟩ (fun _ => trivial) ?_
  clear hK' K'
  go_frame
  refine y_oper 4 (by kernel_rfl) rfl rfl (fun K' hK' => ?_)
  refine wp_exec (some 6) rfl (.int .i64 0) (exec_assign _ rfl (.int .i64 0) rfl) ?_
  refine hK' _ _ ⟨hB, hz5, hz11⟩ (fun _ => trivial) ?_
  clear hK' K'
  go_frame
  refine y_done (by kernel_rfl) ?_ _
  go_upto_region 2 with (fail)
  refine wp_region_lit ?_
  refine ls_ex (some 11) (.int .i64 0) rfl rfl (exec_move _ rfl (.int .i64 0) rfl) ?_
  go_frame
  refine ls_ex (some 12) (.bool false) rfl rfl (exec_neq _ _ _ _ rfl 0 0 rfl rfl false rfl) ?_
  go_frame
  refine wpList_nil ?_
  go_upto_region 4 with (fail)
  refine wp_region_lit ?_
  refine ls_ex (some 14) (.func (.func 25) #[] #[.pointer (some ⟨w.heap.size, 0, none⟩), .pointer (some ⟨Wz2.heap.size, 0, none⟩)]) rfl rfl (exec_mkf2 _ _ _ rfl _ _ rfl rfl) ?_
  go_frame
  refine ls_op rfl (fun K' hK' => ?_)
  have lz25 := hB.size
  have lz26 := hz5.lt
  have lz27 := hz11.lt
  refine wp_call1 (some 15) rfl 24 _ _ rfl (fun args w => by kernel_rfl) _ rfl _ (doorI_no 25 #[.pointer (some ⟨w.heap.size, 0, none⟩), .pointer (some ⟨Wz2.heap.size, 0, none⟩)] _ (fun w => by kernel_rfl) (fun w' hb => litG_no p n m k g c qs b w' ((hR.keep hB).keep hb) Hs.out hn hb1 w.heap.size Wz2.heap.size (At.after hz5 hb) (At.after hz11 hb) H3.out)) (fun e Wz23 h => ?_)
  obtain ⟨rfl, bz24⟩ := h
  replace hB := below_after hB bz24
  replace hz5 := hz5.after bz24
  replace hz11 := hz11.after bz24
  clear bz24
  refine ⟨_, rfl, ?_⟩
  refine hK' _ _ ?_
  clear hK' K'
  go_frame
  refine ls_ex (some 16) (.int .i64 0) rfl rfl (exec_extract _ 0 rfl #[.int .i64 0, .int .i64 3] (by rfl) _ rfl) ?_
  go_frame
  refine ls_ex (some 17) (.int .i64 3) rfl rfl (exec_extract _ 1 rfl #[.int .i64 0, .int .i64 3] (by rfl) _ rfl) ?_
  go_frame
  refine ls_ex (some 4) (.int .i64 0) rfl rfl (exec_assign _ rfl (.int .i64 0) rfl) ?_
  go_frame
  refine ls_ex (some 5) (.int .i64 3) rfl rfl (exec_assign _ rfl (.int .i64 3) rfl) ?_
  go_frame
  refine wpList_nil ?_
  go_wp2_with fail
  go_ret2
  exact ⟨by rw [Hr.out, Hc.out]; rfl, hB⟩
set_option maxHeartbeats 6400000 in
theorem implFg_e (p n m k : Int) (g c : Nat) (qs : List (List Nat)) (b : Int) (w : World) (hR : Rd w (some ⟨g, 0, none⟩) qs) (hlen : qs.length ≤ 1048576) (h0 : sqCode p n m k qs (decide (1 ≤ b) && decide (b ≤ 1000)) = 0) (h5 : (fgF qs.length (coAdd qs) n b 8 1).2 ≠ 3) :
    Calls Try.prog 10 #[.agg #[.int .i64 p, .int .i64 n, .int .i64 m, .int .i64 k, .slice (some ⟨g, 0, none⟩) qs.length c], .int .i64 b] w (fun e w' => e = .returned (.tuple #[.int .i64 (fgR p n m k qs b), .int .i64 (fgCode p n m k qs b)]) ∧ Below w.heap.size w w') := by
  have hB := Below.refl w.heap.size w
  have hf := sq_facts h0
  have hbb : (decide (1 ≤ b) && decide (b ≤ 1000)) = true := hf.2.2.2.2.2
  have hb1 : 1 ≤ b ∧ b ≤ 1000 := by simp only [Bool.and_eq_true, decide_eq_true_eq] at hbb; omega
  have hn : 2 ≤ n ∧ n ≤ 3 := ⟨hf.2.1, hf.2.2.1⟩
  have Hs := Lib.hid hf.1
  have H0 := Lib.hid h0
  have H3 := Lib.hid h5
  have Hc : Hid (fgCode p n m k qs b = (fgF qs.length (coAdd qs) n b 8 1).2) := Lib.hid (by unfold fgCode; rw [if_pos h0])
  have Hr : Hid (fgR p n m k qs b = (fgF qs.length (coAdd qs) n b 8 1).1) := Lib.hid (by unfold fgR; rw [if_pos h0])
  clear h0 h5 hf hbb
  go_enter Try.func10, Try.ntmps10
  go_upto_region 0 with (fail)
  refine wp_region_lit ?_
  refine ls_op rfl (fun K' hK' => ?_)
  have lz1 := hB.size
  refine wp_new (some 2) rfl (exec_box 30 _ rfl (#[.int .i64 p, .int .i64 n, .int .i64 m, .int .i64 k, .slice (some ⟨g, 0, none⟩) qs.length c]) rfl) (fun Wz2 nnz3 => ?_)
  have bz4 := nnz3.below (Below.refl _ _) (Nat.le_refl _)
  replace hB := below_after hB bz4
  have hz5 : At Wz2 w.heap.size (.cells #[.int .i64 p, .int .i64 n, .int .i64 m, .int .i64 k, .slice (some ⟨g, 0, none⟩) qs.length c] 30 (0, 0)) := nnz3.at_
  refine hK' _ _ ?_
  clear hK' K' nnz3 bz4
  go_frame
  refine ls_op rfl (fun K' hK' => ?_)
  have lz6 := hB.size
  have lz7 := hz5.lt
  refine wp_new (some 3) rfl (exec_box 2 _ rfl (#[.int .i64 b]) rfl) (fun Wz8 nnz9 => ?_)
  have bz10 := nnz9.below (Below.refl _ _) (Nat.le_refl _)
  replace hB := below_after hB bz10
  replace hz5 := hz5.after bz10
  have hz11 : At Wz8 Wz2.heap.size (.cells #[.int .i64 b] 2 (0, 0)) := nnz9.at_
  refine hK' _ _ ?_
  clear hK' K' nnz9 bz10
  go_frame
  refine ls_ex (some 4) (.int .i64 0) rfl rfl (exec_assign _ rfl (.int .i64 0) rfl) ?_
  go_frame
  refine ls_ex (some 5) (.int .i64 0) rfl rfl (exec_assign _ rfl (.int .i64 0) rfl) ?_
  go_frame
  refine wpList_nil ?_
  go_upto_region 1 with (fail)
  refine wp_region_y (zs := []) (S := fun w' => Below w.heap.size w w' ∧ At w' w.heap.size (.cells #[.int .i64 p, .int .i64 n, .int .i64 m, .int .i64 k, .slice (some ⟨g, 0, none⟩) qs.length c] 30 (0, 0)) ∧ At w' Wz2.heap.size (.cells #[.int .i64 b] 2 (0, 0))) (S2 := fun w' => True) (by kernel_rfl) ?_
  change wpAnyY _ _ _ _ _ _ _ _ _ _ (World.drew _)
  generalize hwdz12 : World.drew _ = wdz12
  replace hB : Below w.heap.size w wdz12 := by rw [← hwdz12]; exact hB.drew
  replace hz5 : At wdz12 w.heap.size (.cells #[.int .i64 p, .int .i64 n, .int .i64 m, .int .i64 k, .slice (some ⟨g, 0, none⟩) qs.length c] 30 (0, 0)) := by rw [← hwdz12]; exact hz5
  replace hz11 : At wdz12 Wz2.heap.size (.cells #[.int .i64 b] 2 (0, 0)) := by rw [← hwdz12]; exact hz11
  clear hwdz12
  refine y_yield 0 (some 7) (.agg #[.int .i64 p, .int .i64 n, .int .i64 m, .int .i64 k, .slice (some ⟨g, 0, none⟩) qs.length c]) rfl (by kernel_rfl) (by kernel_rfl) (by kernel_rfl) (fun _ _ _ h => h) rfl rfl ⟨hB, hz5, hz11⟩ (fun w' h' => exec_load_all 30 _ rfl w.heap.size rfl _ _ _ h'.2.1 Try.underlying30 rfl 5 (by kernel_rfl) rfl) ?_
  go_frame
  refine y_yield 1 (some 8) (.int .i64 b) rfl (by kernel_rfl) (by kernel_rfl) (by kernel_rfl) (fun _ _ _ h => h) rfl rfl ⟨hB, hz5, hz11⟩ (fun w' h' => exec_load_one 2 _ rfl Wz2.heap.size 0 rfl (.int .i64 b) _ Try.underlying2 rfl (h'.2.2.at_ 0)) ?_
  go_frame
  refine y_oper 2 (by kernel_rfl) rfl rfl (fun K' hK' => ?_)
  have lz15 := hB.size
  have lz16 := hz5.lt
  have lz17 := hz11.lt
  refine wp_call1 (some 9) rfl 23 _ _ rfl (fun args w => by kernel_rfl) _ rfl _ (isBase_c b _) (fun e Wz13 h => ?_)
  obtain ⟨rfl, rfl⟩ := h
  refine ⟨_, rfl, ?_⟩
  refine hK' _ _ ⟨hB, hz5, hz11⟩ (fun _ => trivial) ?_
  clear hK' K'
  go_frame
  refine y_oper 3 (by kernel_rfl) rfl rfl (fun K' hK' => ?_)
  have lz20 := hB.size
  have lz21 := hz5.lt
  have lz22 := hz11.lt
  refine wp_call2 (some 10) rfl 22 _ _ _ rfl (fun args w => by kernel_rfl) _ _ rfl rfl _ (checkRepeated_c p n m k (some ⟨g, 0, none⟩) c qs (decide (1 ≤ b) && decide (b ≤ 1000)) _ (hR.keep hB) hlen) (fun e Wz18 h => ?_)
  obtain ⟨rfl, bz19⟩ := h
  replace hB := below_after hB bz19
  replace hz5 := hz5.after bz19
  replace hz11 := hz11.after bz19
  rw [H0.out]
  clear bz19
  refine ⟨_, rfl, ?_⟩
  refine hK' _ _ ⟨hB, hz5, hz11⟩ (fun _ => trivial) ?_
  clear hK' K'
  go_frame
  refine y_oper 4 (by kernel_rfl) rfl rfl (fun K' hK' => ?_)
  refine wp_exec (some 6) rfl (.int .i64 0) (exec_assign _ rfl (.int .i64 0) rfl) ?_
  refine hK' _ _ ⟨hB, hz5, hz11⟩ (fun _ => trivial) ?_
  clear hK' K'
  go_frame
  refine y_done (by kernel_rfl) ?_ _
  go_upto_region 2 with (fail)
  refine wp_region_lit ?_
  refine ls_ex (some 11) (.int .i64 0) rfl rfl (exec_move _ rfl (.int .i64 0) rfl) ?_
  go_frame
  refine ls_ex (some 12) (.bool false) rfl rfl (exec_neq _ _ _ _ rfl 0 0 rfl rfl false rfl) ?_
  go_frame
  refine wpList_nil ?_
  go_upto_region 4 with (fail)
  refine wp_region_lit ?_
  refine ls_ex (some 14) (.func (.func 25) #[] #[.pointer (some ⟨w.heap.size, 0, none⟩), .pointer (some ⟨Wz2.heap.size, 0, none⟩)]) rfl rfl (exec_mkf2 _ _ _ rfl _ _ rfl rfl) ?_
  go_frame
  refine ls_op rfl (fun K' hK' => ?_)
  have lz25 := hB.size
  have lz26 := hz5.lt
  have lz27 := hz11.lt
  refine wp_call1 (some 15) rfl 24 _ _ rfl (fun args w => by kernel_rfl) _ rfl _ (doorI_ok 25 #[.pointer (some ⟨w.heap.size, 0, none⟩), .pointer (some ⟨Wz2.heap.size, 0, none⟩)] (fgF qs.length (coAdd qs) n b 8 1).1 (fgF qs.length (coAdd qs) n b 8 1).2 _ (fun w => by kernel_rfl) (fun w' hb => litG_ok p n m k g c qs b w' ((hR.keep hB).keep hb) Hs.out hn hb1 w.heap.size Wz2.heap.size (At.after hz5 hb) (At.after hz11 hb) H3.out)) (fun e Wz23 h => ?_)
  obtain ⟨rfl, bz24⟩ := h
  replace hB := below_after hB bz24
  replace hz5 := hz5.after bz24
  replace hz11 := hz11.after bz24
  clear bz24
  refine ⟨_, rfl, ?_⟩
  refine hK' _ _ ?_
  clear hK' K'
  go_frame
  refine ls_ex (some 16) (.int .i64 (fgF qs.length (coAdd qs) n b 8 1).1) rfl rfl (exec_extract _ 0 rfl #[.int .i64 (fgF qs.length (coAdd qs) n b 8 1).1, .int .i64 (fgF qs.length (coAdd qs) n b 8 1).2] (by rfl) _ rfl) ?_
  go_frame
  refine ls_ex (some 17) (.int .i64 (fgF qs.length (coAdd qs) n b 8 1).2) rfl rfl (exec_extract _ 1 rfl #[.int .i64 (fgF qs.length (coAdd qs) n b 8 1).1, .int .i64 (fgF qs.length (coAdd qs) n b 8 1).2] (by rfl) _ rfl) ?_
  go_frame
  refine ls_ex (some 4) (.int .i64 (fgF qs.length (coAdd qs) n b 8 1).1) rfl rfl (exec_assign _ rfl (.int .i64 (fgF qs.length (coAdd qs) n b 8 1).1) rfl) ?_
  go_frame
  refine ls_ex (some 5) (.int .i64 (fgF qs.length (coAdd qs) n b 8 1).2) rfl rfl (exec_assign _ rfl (.int .i64 (fgF qs.length (coAdd qs) n b 8 1).2) rfl) ?_
  go_frame
  refine wpList_nil ?_
  go_wp2_with fail
  go_ret2
  exact ⟨by rw [Hr.out, Hc.out]; rfl, hB⟩
set_option maxHeartbeats 6400000 in
theorem specFg_a (p n m k : Int) (g c : Nat) (qs : List (List Nat)) (b : Int) (w : World) (hR : Rd w (some ⟨g, 0, none⟩) qs) (hlen : qs.length ≤ 1048576) (hne : sqCode p n m k qs (decide (1 ≤ b) && decide (b ≤ 1000)) ≠ 0) :
    Calls Try.prog 8 #[.agg #[.int .i64 p, .int .i64 n, .int .i64 m, .int .i64 k, .slice (some ⟨g, 0, none⟩) qs.length c], .int .i64 b] w (fun e w' => e = .returned (.tuple #[.int .i64 (fgR p n m k qs b), .int .i64 (fgCode p n m k qs b)]) ∧ Below w.heap.size w w') := by
  have hB := Below.refl w.heap.size w
  have hce : sqCode p n m k qs ((decide ((0 : Int) ≤ 0) && decide ((0 : Int) ≤ 8)) && (decide (1 ≤ b) && decide (b ≤ 1000))) = sqCode p n m k qs (decide (1 ≤ b) && decide (b ≤ 1000)) := by rw [show (decide ((0 : Int) ≤ 0) && decide ((0 : Int) ≤ 8)) = true from rfl, Bool.true_and]
  have Hc : Hid (fgCode p n m k qs b = sqCode p n m k qs ((decide ((0 : Int) ≤ 0) && decide ((0 : Int) ≤ 8)) && (decide (1 ≤ b) && decide (b ≤ 1000)))) := Lib.hid (by unfold fgCode; rw [if_neg hne, hce])
  have Hr : Hid (fgR p n m k qs b = 0) := Lib.hid (by unfold fgR; rw [if_neg hne])
  have Hne : Hid ((sqCode p n m k qs ((decide ((0 : Int) ≤ 0) && decide ((0 : Int) ≤ 8)) && (decide (1 ≤ b) && decide (b ≤ 1000))) != 0) = true) := Lib.hid (by rw [hce]; simpa using hne)
  clear hne hce
  go_enter Try.func8, Try.ntmps8
  go_upto_region 0 with (fail)
  refine wp_region_lit ?_
  refine ls_op rfl (fun K' hK' => ?_)
  have lz1 := hB.size
  refine wp_new (some 2) rfl (exec_box 30 _ rfl (#[.int .i64 p, .int .i64 n, .int .i64 m, .int .i64 k, .slice (some ⟨g, 0, none⟩) qs.length c]) rfl) (fun Wz2 nnz3 => ?_)
  have bz4 := nnz3.below (Below.refl _ _) (Nat.le_refl _)
  replace hB := below_after hB bz4
  have hz5 : At Wz2 w.heap.size (.cells #[.int .i64 p, .int .i64 n, .int .i64 m, .int .i64 k, .slice (some ⟨g, 0, none⟩) qs.length c] 30 (0, 0)) := nnz3.at_
  refine hK' _ _ ?_
  clear hK' K' nnz3 bz4
  go_frame
  refine ls_ex (some 4) (.int .i64 0) rfl rfl (exec_assign _ rfl (.int .i64 0) rfl) ?_
  go_frame
  refine ls_ex (some 5) (.int .i64 0) rfl rfl (exec_assign _ rfl (.int .i64 0) rfl) ?_
  go_frame
  refine wpList_nil ?_
  go_upto_region 1 with (fail)
  refine wp_region_lit ?_
  refine ls_ex (some 11) (.agg #[.int .i64 p, .int .i64 n, .int .i64 m, .int .i64 k, .slice (some ⟨g, 0, none⟩) qs.length c]) rfl rfl (exec_load_all 30 _ rfl w.heap.size rfl _ _ _ hz5 Try.underlying30 rfl 5 (by kernel_rfl) rfl) ?_
  go_frame
  refine ls_ex (some 12) (.int .i64 b) rfl rfl (exec_move _ rfl (.int .i64 b) rfl) ?_
  go_frame
  refine ls_op rfl (fun K' hK' => ?_)
  have lz8 := hB.size
  have lz9 := hz5.lt
  refine wp_call3 (some 13) rfl 19 _ _ _ _ rfl (fun args w => by kernel_rfl) _ _ _ rfl rfl rfl _ (l06Code_c p n m k (some ⟨g, 0, none⟩) c qs 0 b _ (hR.keep hB) hlen) (fun e Wz6 h => ?_)
  obtain ⟨rfl, bz7⟩ := h
  replace hB := below_after hB bz7
  replace hz5 := hz5.after bz7
  clear bz7
  refine ⟨_, rfl, ?_⟩
  refine hK' _ _ ?_
  clear hK' K'
  go_frame
  refine ls_ex (some 6) (.int .i64 (sqCode p n m k qs ((decide ((0 : Int) ≤ 0) && decide ((0 : Int) ≤ 8)) && (decide (1 ≤ b) && decide (b ≤ 1000))))) rfl rfl (exec_assign _ rfl (.int .i64 (sqCode p n m k qs ((decide ((0 : Int) ≤ 0) && decide ((0 : Int) ≤ 8)) && (decide (1 ≤ b) && decide (b ≤ 1000))))) rfl) ?_
  go_frame
  refine wpList_nil ?_
  go_upto_region 2 with (fail)
  refine wp_region_lit ?_
  refine ls_ex (some 14) (.int .i64 (sqCode p n m k qs ((decide ((0 : Int) ≤ 0) && decide ((0 : Int) ≤ 8)) && (decide (1 ≤ b) && decide (b ≤ 1000))))) rfl rfl (exec_move _ rfl (.int .i64 (sqCode p n m k qs ((decide ((0 : Int) ≤ 0) && decide ((0 : Int) ≤ 8)) && (decide (1 ≤ b) && decide (b ≤ 1000))))) rfl) ?_
  go_frame
  refine ls_ex (some 15) (.bool true) rfl rfl (exec_neq _ _ _ _ rfl ((sqCode p n m k qs ((decide ((0 : Int) ≤ 0) && decide ((0 : Int) ≤ 8)) && (decide (1 ≤ b) && decide (b ≤ 1000))))) 0 rfl rfl true Hne.out) ?_
  go_frame
  refine wpList_nil ?_
  go_upto_region 3 with (fail)
  refine wp_region_lit ?_
  refine ls_ex (some 16) (.int .i64 (sqCode p n m k qs ((decide ((0 : Int) ≤ 0) && decide ((0 : Int) ≤ 8)) && (decide (1 ≤ b) && decide (b ≤ 1000))))) rfl rfl (exec_move _ rfl (.int .i64 (sqCode p n m k qs ((decide ((0 : Int) ≤ 0) && decide ((0 : Int) ≤ 8)) && (decide (1 ≤ b) && decide (b ≤ 1000))))) rfl) ?_
  go_frame
  refine ls_ex (some 4) (.int .i64 0) rfl rfl (exec_assign _ rfl (.int .i64 0) rfl) ?_
  go_frame
  refine ls_ex (some 5) (.int .i64 (sqCode p n m k qs ((decide ((0 : Int) ≤ 0) && decide ((0 : Int) ≤ 8)) && (decide (1 ≤ b) && decide (b ≤ 1000))))) rfl rfl (exec_assign _ rfl (.int .i64 (sqCode p n m k qs ((decide ((0 : Int) ≤ 0) && decide ((0 : Int) ≤ 8)) && (decide (1 ≤ b) && decide (b ≤ 1000))))) rfl) ?_
  go_frame
  refine wpList_nil ?_
  go_wp2_with fail
  go_ret2
  exact ⟨by rw [Hr.out, Hc.out]; rfl, hB⟩
set_option maxHeartbeats 12800000 in
theorem specFg_d (p n m k : Int) (g c : Nat) (qs : List (List Nat)) (b : Int) (w : World) (hR : Rd w (some ⟨g, 0, none⟩) qs) (hlen : qs.length ≤ 1048576) (h0 : sqCode p n m k qs (decide (1 ≤ b) && decide (b ≤ 1000)) = 0) :
    Calls Try.prog 8 #[.agg #[.int .i64 p, .int .i64 n, .int .i64 m, .int .i64 k, .slice (some ⟨g, 0, none⟩) qs.length c], .int .i64 b] w (fun e w' => e = .returned (.tuple #[.int .i64 (fgR p n m k qs b), .int .i64 (fgCode p n m k qs b)]) ∧ Below w.heap.size w w') := by
  have hB := Below.refl w.heap.size w
  have hf := sq_facts h0
  have hbb : (decide (1 ≤ b) && decide (b ≤ 1000)) = true := hf.2.2.2.2.2
  have hb1 : 1 ≤ b ∧ b ≤ 1000 := by simp only [Bool.and_eq_true, decide_eq_true_eq] at hbb; omega
  have hn : 2 ≤ n ∧ n ≤ 3 := ⟨hf.2.1, hf.2.2.1⟩
  have Hs := Lib.hid hf.1
  have H0 := Lib.hid h0
  have hce : sqCode p n m k qs ((decide ((0 : Int) ≤ 0) && decide ((0 : Int) ≤ 8)) && (decide (1 ≤ b) && decide (b ≤ 1000))) = sqCode p n m k qs (decide (1 ≤ b) && decide (b ≤ 1000)) := by rw [show (decide ((0 : Int) ≤ 0) && decide ((0 : Int) ≤ 8)) = true from rfl, Bool.true_and]
  have HC0 : Hid (sqCode p n m k qs ((decide ((0 : Int) ≤ 0) && decide ((0 : Int) ≤ 8)) && (decide (1 ≤ b) && decide (b ≤ 1000))) = 0) := Lib.hid (by rw [hce]; exact h0)
  have h30 := schemeB_len hf.1
  have hcb := co_bounds hf.1 hR.good
  have had : 0 ≤ coAdd qs := by unfold coAdd; omega
  have Hc : Hid (fgCode p n m k qs b = (fgF qs.length (coAdd qs) n b 8 1).2) := Lib.hid (by unfold fgCode; rw [if_pos h0])
  have Hr : Hid (fgR p n m k qs b = (fgF qs.length (coAdd qs) n b 8 1).1) := Lib.hid (by unfold fgR; rw [if_pos h0])
  clear h0 hf hbb hce hcb
  go_enter Try.func8, Try.ntmps8
  go_upto_region 0 with (fail)
  refine wp_region_lit ?_
  refine ls_op rfl (fun K' hK' => ?_)
  have lz1 := hB.size
  refine wp_new (some 2) rfl (exec_box 30 _ rfl (#[.int .i64 p, .int .i64 n, .int .i64 m, .int .i64 k, .slice (some ⟨g, 0, none⟩) qs.length c]) rfl) (fun Wz2 nnz3 => ?_)
  have bz4 := nnz3.below (Below.refl _ _) (Nat.le_refl _)
  replace hB := below_after hB bz4
  have hz5 : At Wz2 w.heap.size (.cells #[.int .i64 p, .int .i64 n, .int .i64 m, .int .i64 k, .slice (some ⟨g, 0, none⟩) qs.length c] 30 (0, 0)) := nnz3.at_
  refine hK' _ _ ?_
  clear hK' K' nnz3 bz4
  go_frame
  refine ls_ex (some 4) (.int .i64 0) rfl rfl (exec_assign _ rfl (.int .i64 0) rfl) ?_
  go_frame
  refine ls_ex (some 5) (.int .i64 0) rfl rfl (exec_assign _ rfl (.int .i64 0) rfl) ?_
  go_frame
  refine wpList_nil ?_
  go_upto_region 1 with (fail)
  refine wp_region_lit ?_
  refine ls_ex (some 11) (.agg #[.int .i64 p, .int .i64 n, .int .i64 m, .int .i64 k, .slice (some ⟨g, 0, none⟩) qs.length c]) rfl rfl (exec_load_all 30 _ rfl w.heap.size rfl _ _ _ hz5 Try.underlying30 rfl 5 (by kernel_rfl) rfl) ?_
  go_frame
  refine ls_ex (some 12) (.int .i64 b) rfl rfl (exec_move _ rfl (.int .i64 b) rfl) ?_
  go_frame
  refine ls_op rfl (fun K' hK' => ?_)
  have lz8 := hB.size
  have lz9 := hz5.lt
  refine wp_call3 (some 13) rfl 19 _ _ _ _ rfl (fun args w => by kernel_rfl) _ _ _ rfl rfl rfl _ (l06Code_c p n m k (some ⟨g, 0, none⟩) c qs 0 b _ (hR.keep hB) hlen) (fun e Wz6 h => ?_)
  obtain ⟨rfl, bz7⟩ := h
  replace hB := below_after hB bz7
  replace hz5 := hz5.after bz7
  rw [HC0.out]
  clear bz7
  refine ⟨_, rfl, ?_⟩
  refine hK' _ _ ?_
  clear hK' K'
  go_frame
  refine ls_ex (some 6) (.int .i64 0) rfl rfl (exec_assign _ rfl (.int .i64 0) rfl) ?_
  go_frame
  refine wpList_nil ?_
  go_upto_region 2 with (fail)
  refine wp_region_lit ?_
  refine ls_ex (some 14) (.int .i64 0) rfl rfl (exec_move _ rfl (.int .i64 0) rfl) ?_
  go_frame
  refine ls_ex (some 15) (.bool false) rfl rfl (exec_neq _ _ _ _ rfl 0 0 rfl rfl false rfl) ?_
  go_frame
  refine wpList_nil ?_
  go_upto_region 4 with (fail)
  refine wp_region_lit ?_
  refine ls_ex (some 17) (.int .i64 b) rfl rfl (exec_move _ rfl (.int .i64 b) rfl) ?_
  go_frame
  refine ls_ex (some 7) (.int .i64 b) rfl rfl (exec_assign _ rfl (.int .i64 b) rfl) ?_
  go_frame
  refine wpList_nil ?_
  go_upto_region 5 with (fail)
  refine wp_region_lit ?_
  refine ls_ex (some 8) (.int .i64 1) rfl rfl (exec_assign _ rfl (.int .i64 1) rfl) ?_
  go_frame
  refine wpList_nil ?_
  go_wp2_with fail
  go_loopw [8, 7] (fun s8 s7 wr => ∃ (a : Nat) (S : Int), 1 ≤ a ∧ a ≤ 9 ∧ s8 = .int .i64 a ∧ s7 = .int .i64 S ∧ Hid (S * n = powI n a * b) ∧ Below w.heap.size w wr ∧ At wr w.heap.size (.cells #[.int .i64 p, .int .i64 n, .int .i64 m, .int .i64 k, .slice (some ⟨g, 0, none⟩) qs.length c] 30 (0, 0)) ∧ Hid (fgF qs.length (coAdd qs) n b (9 - a) a = fgF qs.length (coAdd qs) n b 8 1)) (fun s8 _ _ => 9 - (intOf s8).toNat)
  case atStart => exact ⟨1, b, by omega, by omega, rfl, rfl, Lib.hid (fg_start n b), hB, hz5, Lib.hid rfl⟩
  case round =>
    clear hB hz5
    obtain ⟨a, S, ha, ha9, rfl, rfl, HS, hB, h0, HG⟩ := hrel
    by_cases hlt : a < 9
    · have hz := fg_size hn hb1 ha (show a ≤ 8 by omega)
      have HY : Hid (powI n a * b * n = powI n (a + 1) * b) := Lib.hid (Int.mul_right_comm _ _ _)
      obtain ⟨Z, hZ⟩ : ∃ Z, Z = powI n a * b := ⟨_, rfl⟩
      rw [← hZ] at hz HS HY
      have HZ := Lib.hid hZ
      clear hZ
      have HZw : Hid (IntKind.i64.wrap (S * n) = Z) := Lib.hid (by rw [HS.out]; exact IntWalk.i64_in _ (by omega))
      rcases ho : mxO (countsO qs.length (coAdd qs) n a b) with _ | v
      · have HE := Lib.hid (fg_none (by omega) HG.out ho)
        have Ho := Lib.hid ho
        clear ho
        go_upto_region 6 with (fail)
        refine wp_region_lit ?_
        refine ls_ex (some 18) (.int .i64 a) rfl rfl (exec_move _ rfl (.int .i64 a) rfl) ?_
        go_frame
        refine ls_ex (some 19) (.bool true) rfl rfl (exec_leq _ _ _ _ rfl a 8 rfl rfl true (decide_eq_true (by omega))) ?_
        go_frame
        refine wpList_nil ?_
        go_upto_region 8 with (fail)
        refine wp_region_lit ?_
        refine ls_ex (some 22) (.int .i64 S) rfl rfl (exec_move _ rfl (.int .i64 S) rfl) ?_
        go_frame
        refine ls_ex (some 23) (.pointer (some ⟨w.heap.size, 1, none⟩)) rfl rfl (exec_fieldAddr 30 _ 1 rfl _ (by kernel_rfl)) ?_
        go_frame
        refine ls_ex (some 24) (.int .i64 n) rfl rfl (exec_load_one 2 _ rfl w.heap.size 1 rfl (.int .i64 n) _ Try.underlying2 rfl (h0.at_ 1)) ?_
        go_frame
        refine ls_ex (some 25) (.int .i64 Z) rfl rfl (exec_mul _ _ _ _ rfl S n Z rfl rfl HZw.out) ?_
        go_frame
        refine ls_ex (some 7) (.int .i64 Z) rfl rfl (exec_assign _ rfl (.int .i64 Z) rfl) ?_
        go_frame
        refine wpList_nil ?_
        go_upto_region 9 with (fail)
        refine wp_region_lit ?_
        refine ls_ex (some 27) (.agg #[.int .i64 p, .int .i64 n, .int .i64 m, .int .i64 k, .slice (some ⟨g, 0, none⟩) qs.length c]) rfl rfl (exec_load_all 30 _ rfl w.heap.size rfl _ _ _ h0 Try.underlying30 rfl 5 (by kernel_rfl) rfl) ?_
        go_frame
        refine ls_ex (some 28) (.int .i64 a) rfl rfl (exec_move _ rfl (.int .i64 a) rfl) ?_
        go_frame
        refine ls_ex (some 29) (.int .i64 b) rfl rfl (exec_move _ rfl (.int .i64 b) rfl) ?_
        go_frame
        refine ls_op rfl (fun K' hK' => ?_)
        have lz12 := hB.size
        have lz13 := h0.lt
        refine wp_call3 (some 30) rfl 20 _ _ _ _ rfl (fun args w => by kernel_rfl) _ _ _ rfl rfl rfl _ (lmixedO_none p n m k g c qs a b _ (hR.keep hB) Hs.out hn (by omega) ⟨hb1.1, by omega⟩ Ho.out) (fun e Wz10 h => ?_)
        obtain ⟨rfl, bz11⟩ := h
        replace hB := below_after hB bz11
        replace h0 := h0.after bz11
        clear bz11
        refine ⟨_, rfl, ?_⟩
        refine hK' _ _ ?_
        clear hK' K'
        go_frame
        refine ls_ex (some 26) (.tuple #[.int .i64 0, .bool false]) rfl rfl (exec_move _ rfl (.tuple #[.int .i64 0, .bool false]) rfl) ?_
        go_frame
        refine ls_ex (some 31) (.int .i64 0) rfl rfl (exec_extract _ 0 rfl #[.int .i64 0, .bool false] (by rfl) _ rfl) ?_
        go_frame
        refine ls_ex (some 32) (.bool false) rfl rfl (exec_extract _ 1 rfl #[.int .i64 0, .bool false] (by rfl) _ rfl) ?_
        go_frame
        refine ls_ex (some 9) (.int .i64 0) rfl rfl (exec_assign _ rfl (.int .i64 0) rfl) ?_
        go_frame
        refine ls_ex (some 10) (.bool false) rfl rfl (exec_assign _ rfl (.bool false) rfl) ?_
        go_frame
        refine wpList_nil ?_
        go_upto_region 10 with (fail)
        refine wp_region_lit ?_
        refine ls_ex (some 33) (.bool false) rfl rfl (exec_move _ rfl (.bool false) rfl) ?_
        go_frame
        refine ls_ex (some 34) (.bool true) rfl rfl (exec_not _ _ rfl false rfl) ?_
        go_frame
        refine wpList_nil ?_
        go_upto_region 11 with (fail)
        refine wp_region_lit ?_
        refine ls_ex (some 4) (.int .i64 0) rfl rfl (exec_assign _ rfl (.int .i64 0) rfl) ?_
        go_frame
        refine ls_ex (some 5) (.int .i64 3) rfl rfl (exec_assign _ rfl (.int .i64 3) rfl) ?_
        go_frame
        refine wpList_nil ?_
        go_wp2_with fail
        go_ret2
        exact ⟨by rw [Hr.out, Hc.out, HE.out]; rfl, hB⟩
      · have hv := mxO_b (show (0 : Int) ≤ qs.length by omega) had hb1.1 ho
        by_cases hbig : 80000 < Z
        · have HE := Lib.hid (fg_yes (by omega) HG.out ho (by rw [← HZ.out]; exact fg_big hv.2 hbig))
          have Ho := Lib.hid ho
          clear ho
          go_upto_region 6 with (fail)
          refine wp_region_lit ?_
          refine ls_ex (some 18) (.int .i64 a) rfl rfl (exec_move _ rfl (.int .i64 a) rfl) ?_
          go_frame
          refine ls_ex (some 19) (.bool true) rfl rfl (exec_leq _ _ _ _ rfl a 8 rfl rfl true (decide_eq_true (by omega))) ?_
          go_frame
          refine wpList_nil ?_
          go_upto_region 8 with (fail)
          refine wp_region_lit ?_
          refine ls_ex (some 22) (.int .i64 S) rfl rfl (exec_move _ rfl (.int .i64 S) rfl) ?_
          go_frame
          refine ls_ex (some 23) (.pointer (some ⟨w.heap.size, 1, none⟩)) rfl rfl (exec_fieldAddr 30 _ 1 rfl _ (by kernel_rfl)) ?_
          go_frame
          refine ls_ex (some 24) (.int .i64 n) rfl rfl (exec_load_one 2 _ rfl w.heap.size 1 rfl (.int .i64 n) _ Try.underlying2 rfl (h0.at_ 1)) ?_
          go_frame
          refine ls_ex (some 25) (.int .i64 Z) rfl rfl (exec_mul _ _ _ _ rfl S n Z rfl rfl HZw.out) ?_
          go_frame
          refine ls_ex (some 7) (.int .i64 Z) rfl rfl (exec_assign _ rfl (.int .i64 Z) rfl) ?_
          go_frame
          refine wpList_nil ?_
          go_upto_region 9 with (fail)
          refine wp_region_lit ?_
          refine ls_ex (some 27) (.agg #[.int .i64 p, .int .i64 n, .int .i64 m, .int .i64 k, .slice (some ⟨g, 0, none⟩) qs.length c]) rfl rfl (exec_load_all 30 _ rfl w.heap.size rfl _ _ _ h0 Try.underlying30 rfl 5 (by kernel_rfl) rfl) ?_
          go_frame
          refine ls_ex (some 28) (.int .i64 a) rfl rfl (exec_move _ rfl (.int .i64 a) rfl) ?_
          go_frame
          refine ls_ex (some 29) (.int .i64 b) rfl rfl (exec_move _ rfl (.int .i64 b) rfl) ?_
          go_frame
          refine ls_op rfl (fun K' hK' => ?_)
          have lz16 := hB.size
          have lz17 := h0.lt
          refine wp_call3 (some 30) rfl 20 _ _ _ _ rfl (fun args w => by kernel_rfl) _ _ _ rfl rfl rfl _ (lmixedO_some p n m k g c qs a b _ (hR.keep hB) Hs.out hn (by omega) ⟨hb1.1, by omega⟩ v Ho.out) (fun e Wz14 h => ?_)
          obtain ⟨rfl, bz15⟩ := h
          replace hB := below_after hB bz15
          replace h0 := h0.after bz15
          clear bz15
          refine ⟨_, rfl, ?_⟩
          refine hK' _ _ ?_
          clear hK' K'
          go_frame
          refine ls_ex (some 26) (.tuple #[.int .i64 v, .bool true]) rfl rfl (exec_move _ rfl (.tuple #[.int .i64 v, .bool true]) rfl) ?_
          go_frame
          refine ls_ex (some 31) (.int .i64 v) rfl rfl (exec_extract _ 0 rfl #[.int .i64 v, .bool true] (by rfl) _ rfl) ?_
          go_frame
          refine ls_ex (some 32) (.bool true) rfl rfl (exec_extract _ 1 rfl #[.int .i64 v, .bool true] (by rfl) _ rfl) ?_
          go_frame
          refine ls_ex (some 9) (.int .i64 v) rfl rfl (exec_assign _ rfl (.int .i64 v) rfl) ?_
          go_frame
          refine ls_ex (some 10) (.bool true) rfl rfl (exec_assign _ rfl (.bool true) rfl) ?_
          go_frame
          refine wpList_nil ?_
          go_upto_region 10 with (fail)
          refine wp_region_lit ?_
          refine ls_ex (some 33) (.bool true) rfl rfl (exec_move _ rfl (.bool true) rfl) ?_
          go_frame
          refine ls_ex (some 34) (.bool false) rfl rfl (exec_not _ _ rfl true rfl) ?_
          go_frame
          refine wpList_nil ?_
          go_upto_region 12 with (fail)
          refine wp_region_lit ?_
          refine ls_ex (some 35) (.int .i64 Z) rfl rfl (exec_move _ rfl (.int .i64 Z) rfl) ?_
          go_frame
          refine ls_ex (some 36) (.bool true) rfl rfl (exec_gtr _ _ _ _ rfl Z 80000 rfl rfl true (decide_eq_true (by omega))) ?_
          go_frame
          refine ls_ex (some 37) (.bool true) rfl rfl (exec_move _ rfl (.bool true) rfl) ?_
          go_frame
          refine ls_skip_g (some 38) rfl rfl ?_
          go_frame
          refine ls_skip_g (some 39) rfl rfl ?_
          go_frame
          refine ls_skip_g (some 40) rfl rfl ?_
          go_frame
          refine ls_skip_g (some 41) rfl rfl ?_
          go_frame
          refine ls_skip_g (some 42) rfl rfl ?_
          go_frame
          refine ls_skip_g (some 43) rfl rfl ?_
          go_frame
          refine ls_skip_g (some 44) rfl rfl ?_
          go_frame
          refine ls_skip_g (some 45) rfl rfl ?_
          go_frame
          refine ls_skip_g (some 46) rfl rfl ?_
          go_frame
          refine ls_skip_g (some 47) rfl rfl ?_
          go_frame
          refine ls_skip_g (some 48) rfl rfl ?_
          go_frame
          refine ls_skip_g (some 49) rfl rfl ?_
          go_frame
          refine ls_ex (some 50) (.bool true) rfl rfl (exec_pick _ _ _ rfl true rfl (.bool true) rfl) ?_
          go_frame
          refine wpList_nil ?_
          go_upto_region 13 with (fail)
          refine wp_region_lit ?_
          refine ls_ex (some 51) (.int .i64 a) rfl rfl (exec_move _ rfl (.int .i64 a) rfl) ?_
          go_frame
          refine ls_ex (some 4) (.int .i64 a) rfl rfl (exec_assign _ rfl (.int .i64 a) rfl) ?_
          go_frame
          refine ls_ex (some 5) (.int .i64 0) rfl rfl (exec_assign _ rfl (.int .i64 0) rfl) ?_
          go_frame
          refine wpList_nil ?_
          go_wp2_with fail
          go_ret2
          exact ⟨by rw [Hr.out, Hc.out, HE.out]; rfl, hB⟩
        · have hzz : 0 ≤ Z * Z ∧ Z * Z ≤ 80000 * 80000 := ⟨Int.mul_nonneg (by omega) (by omega), Int.mul_le_mul (by omega) (by omega) (by omega) (by omega)⟩
          have e3 : 2 * Z * Z = 2 * (Z * Z) := Int.mul_assoc _ _ _
          have hzzz : 0 ≤ 2 * Z * Z * Z ∧ 2 * Z * Z * Z ≤ 12800000000 * 80000 := ⟨Int.mul_nonneg (by omega) (by omega), Int.mul_le_mul (by omega) (by omega) (by omega) (by omega)⟩
          have e4 := plain_eq Z
          have E3 := Lib.hid e3
          have h2zz : 0 ≤ 2 * Z * Z ∧ 2 * Z * Z ≤ 12800000000 := by omega
          clear e3
          by_cases hlt2 : v < 2 * Z * Z * Z - Z * Z
          · have HE := Lib.hid (fg_yes (by omega) HG.out ho (by rw [← HZ.out, ← e4]; exact hlt2))
            have Ho := Lib.hid ho
            clear ho e4
            go_upto_region 6 with (fail)
            refine wp_region_lit ?_
            refine ls_ex (some 18) (.int .i64 a) rfl rfl (exec_move _ rfl (.int .i64 a) rfl) ?_
            go_frame
            refine ls_ex (some 19) (.bool true) rfl rfl (exec_leq _ _ _ _ rfl a 8 rfl rfl true (decide_eq_true (by omega))) ?_
            go_frame
            refine wpList_nil ?_
            go_upto_region 8 with (fail)
            refine wp_region_lit ?_
            refine ls_ex (some 22) (.int .i64 S) rfl rfl (exec_move _ rfl (.int .i64 S) rfl) ?_
            go_frame
            refine ls_ex (some 23) (.pointer (some ⟨w.heap.size, 1, none⟩)) rfl rfl (exec_fieldAddr 30 _ 1 rfl _ (by kernel_rfl)) ?_
            go_frame
            refine ls_ex (some 24) (.int .i64 n) rfl rfl (exec_load_one 2 _ rfl w.heap.size 1 rfl (.int .i64 n) _ Try.underlying2 rfl (h0.at_ 1)) ?_
            go_frame
            refine ls_ex (some 25) (.int .i64 Z) rfl rfl (exec_mul _ _ _ _ rfl S n Z rfl rfl HZw.out) ?_
            go_frame
            refine ls_ex (some 7) (.int .i64 Z) rfl rfl (exec_assign _ rfl (.int .i64 Z) rfl) ?_
            go_frame
            refine wpList_nil ?_
            go_upto_region 9 with (fail)
            refine wp_region_lit ?_
            refine ls_ex (some 27) (.agg #[.int .i64 p, .int .i64 n, .int .i64 m, .int .i64 k, .slice (some ⟨g, 0, none⟩) qs.length c]) rfl rfl (exec_load_all 30 _ rfl w.heap.size rfl _ _ _ h0 Try.underlying30 rfl 5 (by kernel_rfl) rfl) ?_
            go_frame
            refine ls_ex (some 28) (.int .i64 a) rfl rfl (exec_move _ rfl (.int .i64 a) rfl) ?_
            go_frame
            refine ls_ex (some 29) (.int .i64 b) rfl rfl (exec_move _ rfl (.int .i64 b) rfl) ?_
            go_frame
            refine ls_op rfl (fun K' hK' => ?_)
            have lz20 := hB.size
            have lz21 := h0.lt
            refine wp_call3 (some 30) rfl 20 _ _ _ _ rfl (fun args w => by kernel_rfl) _ _ _ rfl rfl rfl _ (lmixedO_some p n m k g c qs a b _ (hR.keep hB) Hs.out hn (by omega) ⟨hb1.1, by omega⟩ v Ho.out) (fun e Wz18 h => ?_)
            obtain ⟨rfl, bz19⟩ := h
            replace hB := below_after hB bz19
            replace h0 := h0.after bz19
            clear bz19
            refine ⟨_, rfl, ?_⟩
            refine hK' _ _ ?_
            clear hK' K'
            go_frame
            refine ls_ex (some 26) (.tuple #[.int .i64 v, .bool true]) rfl rfl (exec_move _ rfl (.tuple #[.int .i64 v, .bool true]) rfl) ?_
            go_frame
            refine ls_ex (some 31) (.int .i64 v) rfl rfl (exec_extract _ 0 rfl #[.int .i64 v, .bool true] (by rfl) _ rfl) ?_
            go_frame
            refine ls_ex (some 32) (.bool true) rfl rfl (exec_extract _ 1 rfl #[.int .i64 v, .bool true] (by rfl) _ rfl) ?_
            go_frame
            refine ls_ex (some 9) (.int .i64 v) rfl rfl (exec_assign _ rfl (.int .i64 v) rfl) ?_
            go_frame
            refine ls_ex (some 10) (.bool true) rfl rfl (exec_assign _ rfl (.bool true) rfl) ?_
            go_frame
            refine wpList_nil ?_
            go_upto_region 10 with (fail)
            refine wp_region_lit ?_
            refine ls_ex (some 33) (.bool true) rfl rfl (exec_move _ rfl (.bool true) rfl) ?_
            go_frame
            refine ls_ex (some 34) (.bool false) rfl rfl (exec_not _ _ rfl true rfl) ?_
            go_frame
            refine wpList_nil ?_
            go_upto_region 12 with (fail)
            refine wp_region_lit ?_
            refine ls_ex (some 35) (.int .i64 Z) rfl rfl (exec_move _ rfl (.int .i64 Z) rfl) ?_
            go_frame
            refine ls_ex (some 36) (.bool false) rfl rfl (exec_gtr _ _ _ _ rfl Z 80000 rfl rfl false (decide_eq_false (by omega))) ?_
            go_frame
            refine ls_ex (some 37) (.bool false) rfl rfl (exec_move _ rfl (.bool false) rfl) ?_
            go_frame
            refine ls_ex_g (some 38) (.int .i64 v) rfl rfl (exec_move _ rfl (.int .i64 v) rfl) ?_
            go_frame
            refine ls_ex_g (some 39) (.int .i64 Z) rfl rfl (exec_move _ rfl (.int .i64 Z) rfl) ?_
            go_frame
            refine ls_ex_g (some 40) (.int .i64 (2 * Z)) rfl rfl (exec_mul _ _ _ _ rfl 2 Z (2 * Z) rfl rfl (IntWalk.i64_in _ (by omega))) ?_
            go_frame
            refine ls_ex_g (some 41) (.int .i64 Z) rfl rfl (exec_move _ rfl (.int .i64 Z) rfl) ?_
            go_frame
            refine ls_ex_g (some 42) (.int .i64 ((2 * Z) * Z)) rfl rfl (exec_mul _ _ _ _ rfl ((2 * Z)) Z ((2 * Z) * Z) rfl rfl (IntWalk.i64_in _ (by omega))) ?_
            go_frame
            refine ls_ex_g (some 43) (.int .i64 Z) rfl rfl (exec_move _ rfl (.int .i64 Z) rfl) ?_
            go_frame
            refine ls_ex_g (some 44) (.int .i64 (((2 * Z) * Z) * Z)) rfl rfl (exec_mul _ _ _ _ rfl (((2 * Z) * Z)) Z (((2 * Z) * Z) * Z) rfl rfl (IntWalk.i64_in _ (by omega))) ?_
            go_frame
            refine ls_ex_g (some 45) (.int .i64 Z) rfl rfl (exec_move _ rfl (.int .i64 Z) rfl) ?_
            go_frame
            refine ls_ex_g (some 46) (.int .i64 Z) rfl rfl (exec_move _ rfl (.int .i64 Z) rfl) ?_
            go_frame
            refine ls_ex_g (some 47) (.int .i64 (Z * Z)) rfl rfl (exec_mul _ _ _ _ rfl Z Z (Z * Z) rfl rfl (IntWalk.i64_in _ (by omega))) ?_
            go_frame
            refine ls_ex_g (some 48) (.int .i64 ((((2 * Z) * Z) * Z) - (Z * Z))) rfl rfl (exec_sub _ _ _ _ rfl ((((2 * Z) * Z) * Z)) ((Z * Z)) ((((2 * Z) * Z) * Z) - (Z * Z)) rfl rfl (IntWalk.i64_in _ (by omega))) ?_
            go_frame
            refine ls_ex_g (some 49) (.bool true) rfl rfl (exec_lss _ _ _ _ rfl v (((((2 * Z) * Z) * Z) - (Z * Z))) rfl rfl true (decide_eq_true hlt2)) ?_
            go_frame
            refine ls_ex (some 50) (.bool true) rfl rfl (exec_pick _ _ _ rfl false rfl (.bool true) rfl) ?_
            go_frame
            refine wpList_nil ?_
            go_upto_region 13 with (fail)
            refine wp_region_lit ?_
            refine ls_ex (some 51) (.int .i64 a) rfl rfl (exec_move _ rfl (.int .i64 a) rfl) ?_
            go_frame
            refine ls_ex (some 4) (.int .i64 a) rfl rfl (exec_assign _ rfl (.int .i64 a) rfl) ?_
            go_frame
            refine ls_ex (some 5) (.int .i64 0) rfl rfl (exec_assign _ rfl (.int .i64 0) rfl) ?_
            go_frame
            refine wpList_nil ?_
            go_wp2_with fail
            go_ret2
            exact ⟨by rw [Hr.out, Hc.out, HE.out]; rfl, hB⟩
          · have HN := Lib.hid (fg_next (by omega) HG.out ho (by rw [← HZ.out, ← e4]; exact hlt2))
            have Ho := Lib.hid ho
            clear ho e4
            go_upto_region 6 with (fail)
            refine wp_region_lit ?_
            refine ls_ex (some 18) (.int .i64 a) rfl rfl (exec_move _ rfl (.int .i64 a) rfl) ?_
            go_frame
            refine ls_ex (some 19) (.bool true) rfl rfl (exec_leq _ _ _ _ rfl a 8 rfl rfl true (decide_eq_true (by omega))) ?_
            go_frame
            refine wpList_nil ?_
            go_upto_region 8 with (fail)
            refine wp_region_lit ?_
            refine ls_ex (some 22) (.int .i64 S) rfl rfl (exec_move _ rfl (.int .i64 S) rfl) ?_
            go_frame
            refine ls_ex (some 23) (.pointer (some ⟨w.heap.size, 1, none⟩)) rfl rfl (exec_fieldAddr 30 _ 1 rfl _ (by kernel_rfl)) ?_
            go_frame
            refine ls_ex (some 24) (.int .i64 n) rfl rfl (exec_load_one 2 _ rfl w.heap.size 1 rfl (.int .i64 n) _ Try.underlying2 rfl (h0.at_ 1)) ?_
            go_frame
            refine ls_ex (some 25) (.int .i64 Z) rfl rfl (exec_mul _ _ _ _ rfl S n Z rfl rfl HZw.out) ?_
            go_frame
            refine ls_ex (some 7) (.int .i64 Z) rfl rfl (exec_assign _ rfl (.int .i64 Z) rfl) ?_
            go_frame
            refine wpList_nil ?_
            go_upto_region 9 with (fail)
            refine wp_region_lit ?_
            refine ls_ex (some 27) (.agg #[.int .i64 p, .int .i64 n, .int .i64 m, .int .i64 k, .slice (some ⟨g, 0, none⟩) qs.length c]) rfl rfl (exec_load_all 30 _ rfl w.heap.size rfl _ _ _ h0 Try.underlying30 rfl 5 (by kernel_rfl) rfl) ?_
            go_frame
            refine ls_ex (some 28) (.int .i64 a) rfl rfl (exec_move _ rfl (.int .i64 a) rfl) ?_
            go_frame
            refine ls_ex (some 29) (.int .i64 b) rfl rfl (exec_move _ rfl (.int .i64 b) rfl) ?_
            go_frame
            refine ls_op rfl (fun K' hK' => ?_)
            have lz24 := hB.size
            have lz25 := h0.lt
            refine wp_call3 (some 30) rfl 20 _ _ _ _ rfl (fun args w => by kernel_rfl) _ _ _ rfl rfl rfl _ (lmixedO_some p n m k g c qs a b _ (hR.keep hB) Hs.out hn (by omega) ⟨hb1.1, by omega⟩ v Ho.out) (fun e Wz22 h => ?_)
            obtain ⟨rfl, bz23⟩ := h
            replace hB := below_after hB bz23
            replace h0 := h0.after bz23
            clear bz23
            refine ⟨_, rfl, ?_⟩
            refine hK' _ _ ?_
            clear hK' K'
            go_frame
            refine ls_ex (some 26) (.tuple #[.int .i64 v, .bool true]) rfl rfl (exec_move _ rfl (.tuple #[.int .i64 v, .bool true]) rfl) ?_
            go_frame
            refine ls_ex (some 31) (.int .i64 v) rfl rfl (exec_extract _ 0 rfl #[.int .i64 v, .bool true] (by rfl) _ rfl) ?_
            go_frame
            refine ls_ex (some 32) (.bool true) rfl rfl (exec_extract _ 1 rfl #[.int .i64 v, .bool true] (by rfl) _ rfl) ?_
            go_frame
            refine ls_ex (some 9) (.int .i64 v) rfl rfl (exec_assign _ rfl (.int .i64 v) rfl) ?_
            go_frame
            refine ls_ex (some 10) (.bool true) rfl rfl (exec_assign _ rfl (.bool true) rfl) ?_
            go_frame
            refine wpList_nil ?_
            go_upto_region 10 with (fail)
            refine wp_region_lit ?_
            refine ls_ex (some 33) (.bool true) rfl rfl (exec_move _ rfl (.bool true) rfl) ?_
            go_frame
            refine ls_ex (some 34) (.bool false) rfl rfl (exec_not _ _ rfl true rfl) ?_
            go_frame
            refine wpList_nil ?_
            go_upto_region 12 with (fail)
            refine wp_region_lit ?_
            refine ls_ex (some 35) (.int .i64 Z) rfl rfl (exec_move _ rfl (.int .i64 Z) rfl) ?_
            go_frame
            refine ls_ex (some 36) (.bool false) rfl rfl (exec_gtr _ _ _ _ rfl Z 80000 rfl rfl false (decide_eq_false (by omega))) ?_
            go_frame
            refine ls_ex (some 37) (.bool false) rfl rfl (exec_move _ rfl (.bool false) rfl) ?_
            go_frame
            refine ls_ex_g (some 38) (.int .i64 v) rfl rfl (exec_move _ rfl (.int .i64 v) rfl) ?_
            go_frame
            refine ls_ex_g (some 39) (.int .i64 Z) rfl rfl (exec_move _ rfl (.int .i64 Z) rfl) ?_
            go_frame
            refine ls_ex_g (some 40) (.int .i64 (2 * Z)) rfl rfl (exec_mul _ _ _ _ rfl 2 Z (2 * Z) rfl rfl (IntWalk.i64_in _ (by omega))) ?_
            go_frame
            refine ls_ex_g (some 41) (.int .i64 Z) rfl rfl (exec_move _ rfl (.int .i64 Z) rfl) ?_
            go_frame
            refine ls_ex_g (some 42) (.int .i64 ((2 * Z) * Z)) rfl rfl (exec_mul _ _ _ _ rfl ((2 * Z)) Z ((2 * Z) * Z) rfl rfl (IntWalk.i64_in _ (by omega))) ?_
            go_frame
            refine ls_ex_g (some 43) (.int .i64 Z) rfl rfl (exec_move _ rfl (.int .i64 Z) rfl) ?_
            go_frame
            refine ls_ex_g (some 44) (.int .i64 (((2 * Z) * Z) * Z)) rfl rfl (exec_mul _ _ _ _ rfl (((2 * Z) * Z)) Z (((2 * Z) * Z) * Z) rfl rfl (IntWalk.i64_in _ (by omega))) ?_
            go_frame
            refine ls_ex_g (some 45) (.int .i64 Z) rfl rfl (exec_move _ rfl (.int .i64 Z) rfl) ?_
            go_frame
            refine ls_ex_g (some 46) (.int .i64 Z) rfl rfl (exec_move _ rfl (.int .i64 Z) rfl) ?_
            go_frame
            refine ls_ex_g (some 47) (.int .i64 (Z * Z)) rfl rfl (exec_mul _ _ _ _ rfl Z Z (Z * Z) rfl rfl (IntWalk.i64_in _ (by omega))) ?_
            go_frame
            refine ls_ex_g (some 48) (.int .i64 ((((2 * Z) * Z) * Z) - (Z * Z))) rfl rfl (exec_sub _ _ _ _ rfl ((((2 * Z) * Z) * Z)) ((Z * Z)) ((((2 * Z) * Z) * Z) - (Z * Z)) rfl rfl (IntWalk.i64_in _ (by omega))) ?_
            go_frame
            refine ls_ex_g (some 49) (.bool false) rfl rfl (exec_lss _ _ _ _ rfl v (((((2 * Z) * Z) * Z) - (Z * Z))) rfl rfl false (decide_eq_false hlt2)) ?_
            go_frame
            refine ls_ex (some 50) (.bool false) rfl rfl (exec_pick _ _ _ rfl false rfl (.bool false) rfl) ?_
            go_frame
            refine wpList_nil ?_
            go_upto_region 7 with (fail)
            refine wp_region_lit ?_
            refine ls_ex (some 20) (.int .i64 a) rfl rfl (exec_move _ rfl (.int .i64 a) rfl) ?_
            go_frame
            refine ls_ex (some 21) (.int .i64 (a + 1)) rfl rfl (exec_add _ _ _ _ rfl a 1 (a + 1) rfl rfl (IntWalk.i64_in _ (by omega))) ?_
            go_frame
            refine ls_ex (some 8) (.int .i64 (a + 1)) rfl rfl (exec_assign _ rfl (.int .i64 (a + 1)) rfl) ?_
            go_frame
            refine wpList_nil ?_
            go_wp2_with fail
            go_roundw
            case rel => exact ⟨a + 1, Z, by omega, by omega, by go_num, rfl, HY, hB, h0, HN⟩
            case measure => simp [intOf]; omega
    · have HE := Lib.hid (fg_end (by omega) HG.out)
      go_upto_region 6 with (fail)
      refine wp_region_lit ?_
      refine ls_ex (some 18) (.int .i64 a) rfl rfl (exec_move _ rfl (.int .i64 a) rfl) ?_
      go_frame
      refine ls_ex (some 19) (.bool false) rfl rfl (exec_leq _ _ _ _ rfl a 8 rfl rfl false (decide_eq_false (by omega))) ?_
      go_frame
      refine wpList_nil ?_
      go_upto_region 14 with (fail)
      refine wp_region_lit ?_
      refine ls_ex (some 4) (.int .i64 0) rfl rfl (exec_assign _ rfl (.int .i64 0) rfl) ?_
      go_frame
      refine ls_ex (some 5) (.int .i64 4) rfl rfl (exec_assign _ rfl (.int .i64 4) rfl) ?_
      go_frame
      refine wpList_nil ?_
      go_wp2_with fail
      go_ret2
      exact ⟨by rw [Hr.out, Hc.out, HE.out]; rfl, hB⟩
theorem implFirstGain_c (p n m k : Int) (g c : Nat) (qs : List (List Nat)) (b : Int) (w : World) (hR : Rd w (some ⟨g, 0, none⟩) qs) (hlen : qs.length ≤ 1048576) : Calls Try.prog 10 #[.agg #[.int .i64 p, .int .i64 n, .int .i64 m, .int .i64 k, .slice (some ⟨g, 0, none⟩) qs.length c], .int .i64 b] w (fun e w' => e = .returned (.tuple #[.int .i64 (fgR p n m k qs b), .int .i64 (fgCode p n m k qs b)]) ∧ Below w.heap.size w w') := by
  by_cases h0 : sqCode p n m k qs (decide (1 ≤ b) && decide (b ≤ 1000)) = 0
  · by_cases h5 : (fgF qs.length (coAdd qs) n b 8 1).2 = 3
    · exact implFg_d p n m k g c qs b w hR hlen h0 h5
    · exact implFg_e p n m k g c qs b w hR hlen h0 h5
  · exact implFg_a p n m k g c qs b w hR hlen h0
theorem specFirstGain_c (p n m k : Int) (g c : Nat) (qs : List (List Nat)) (b : Int) (w : World) (hR : Rd w (some ⟨g, 0, none⟩) qs) (hlen : qs.length ≤ 1048576) : Calls Try.prog 8 #[.agg #[.int .i64 p, .int .i64 n, .int .i64 m, .int .i64 k, .slice (some ⟨g, 0, none⟩) qs.length c], .int .i64 b] w (fun e w' => e = .returned (.tuple #[.int .i64 (fgR p n m k qs b), .int .i64 (fgCode p n m k qs b)]) ∧ Below w.heap.size w w') := by
  by_cases h0 : sqCode p n m k qs (decide (1 ≤ b) && decide (b ≤ 1000)) = 0
  · exact specFg_d p n m k g c qs b w hR hlen h0
  · exact specFg_a p n m k g c qs b w hR hlen h0
end Go.Proofs.Ytphccbilldfdpaa
