/-
  slices.Equal on []int64; MethodFits of both sides. (Made by mkmf.py.)
-/
import Derived.Test.YtcfgpjkdonidgaaL9t
import Derived.Test.YtcfgpjkdonidgaaTen4
namespace Go.Proofs.Ytcfgpjkdonidgaa
open Go.RowKit
set_option maxRecDepth 100000
attribute [local irreducible] wpList
theorem run_eq_bxm (n m k n' m' k' : Int) (w : World) : (Op.equalIn 10000 49 (.agg #[.int .i64 n, .int .i64 m, .int .i64 k]) (.agg #[.int .i64 n', .int .i64 m', .int .i64 k'])).run Try.prog w = .ok (n == n' && (m == m' && k == k')) w := by
  obtain ⟨i, hi⟩ : ∃ i, Try.prog.info? 2 = some i := Option.isSome_iff_exists.1 (by kernel_rfl)
  have hc : Try.prog.cellsOf 2 = 1 := by kernel_rfl
  have hu : Try.prog.underlying 2 = some (.int .i64) := by kernel_rfl
  have hagg : (isAgg 2).run Try.prog w = .ok false w := by
    unfold isAgg
    rw [Sem.run_bind, run_underlying hu w]
    rfl
  have hpart : ∀ (xs : Array Value) (j : Nat) (v : Value), xs[j]? = some v → (part 2 xs (j * 1)).run Try.prog w = .ok v w := by
    intro xs j v hv
    unfold part
    simp [Sem.run_bind, hagg, hv]
  rw [run_equalIn_array (P := Try.prog) w 9999 _ _ Try.underlying49 hi, hc]
  rw [show List.range 3 = [0, 1, 2] from rfl]
  have hq : ∀ a b : Int, (Op.equalIn 9999 2 (.int .i64 a) (.int .i64 b)).run Try.prog w = .ok (a == b) w := fun a b => run_equalIn_int w 9998 2 .i64 .i64 a b hu
  simp only [Op.eqItems, Sem.run_bind, hpart #[.int .i64 n, .int .i64 m, .int .i64 k] 0 (.int .i64 n) rfl, hpart #[.int .i64 n, .int .i64 m, .int .i64 k] 1 (.int .i64 m) rfl, hpart #[.int .i64 n, .int .i64 m, .int .i64 k] 2 (.int .i64 k) rfl,
    hpart #[.int .i64 n', .int .i64 m', .int .i64 k'] 0 (.int .i64 n') rfl, hpart #[.int .i64 n', .int .i64 m', .int .i64 k'] 1 (.int .i64 m') rfl, hpart #[.int .i64 n', .int .i64 m', .int .i64 k'] 2 (.int .i64 k') rfl, Result.andThen_ok, hq, Sem.run_ite, Sem.run_pure]
  cases n == n' <;> cases m == m' <;> cases k == k' <;> rfl

theorem RdI.c1m {w : World} {b off : Nat} {xs : List Int} (h : RdI w (some ⟨b, off, none⟩) xs) {i : Nat} (hi : i < xs.length) : w.cell? ⟨b, off + i * 1, none⟩ = some (.int .i64 xs[i]) := by
  obtain ⟨b', off', hA0, hc⟩ := h.at_ hi
  cases hA0
  rw [Nat.mul_one]
  exact hc
/-- The lists are alike so far. -/
def eqU (xs ys : List Int) (i : Nat) : Bool := xs.take i == ys.take i
theorem eqU_zero (xs ys : List Int) : eqU xs ys 0 = true := by simp [eqU]
theorem eqU_step {xs ys : List Int} {i : Nat} (hx : i < xs.length) (hy : i < ys.length) (h : eqU xs ys i = true) : eqU xs ys (i + 1) = (xs[i] == ys[i]) := by
  unfold eqU at *
  rw [beq_iff_eq] at h
  rw [List.take_succ_eq_append_getElem hx, List.take_succ_eq_append_getElem hy, h, Bool.eq_iff_iff]
  simp only [beq_iff_eq, List.append_cancel_left_eq, List.cons.injEq, and_true]
theorem eqU_all {xs ys : List Int} {N : Nat} (hx : xs.length = N) (hy : ys.length = N) : eqU xs ys N = (xs == ys) := by
  unfold eqU
  rw [List.take_of_length_le (by omega), List.take_of_length_le (by omega)]
theorem eqU_no {xs ys : List Int} {i : Nat} (h : eqU xs ys i = false) : (xs == ys) = false := by
  cases hb : (xs == ys) with
  | false => rfl
  | true =>
    rw [beq_iff_eq] at hb
    subst hb
    simp [eqU] at h
theorem eqL_len {xs ys : List Int} (h : xs.length ≠ ys.length) : (xs == ys) = false := by
  cases hb : (xs == ys) with
  | false => rfl
  | true =>
    rw [beq_iff_eq] at hb
    subst hb
    exact absurd rfl h
theorem exec_field4 {o : Oper} {a : Act} {w : World} (x : Operand) (ho : o.op = .field 28 x 4) (p i j k : Int) (A : Option Addr) (l c : Nat) (hx : a.eval x = .agg #[.int .i64 p, .int .i64 i, .int .i64 j, .int .i64 k, .slice A l c]) : (execOp a.eval o).run Try.prog w = .ok (.value (.slice A l c)) w := by
  unfold execOp
  simp only [ho, hx]
  kernel_rfl
theorem exec_eql_bxm {o : Oper} {a : Act} {w : World} (x y : Operand) (t' : TypeId) (ho : o.op = .binOp .eql 49 x y t') (n m k n' m' k' : Int) (hx : a.eval x = .agg #[.int .i64 n, .int .i64 m, .int .i64 k]) (hy : a.eval y = .agg #[.int .i64 n', .int .i64 m', .int .i64 k']) (b : Bool) (hb : (n == n' && (m == m' && k == k')) = b) :
    (execOp a.eval o).run Try.prog w = .ok (.value (.bool b)) w := by
  have hm : Try.prog.eqGuardType Try.prog.depth 49 = false := by kernel_rfl
  unfold execOp
  subst hb
  simp [ho, hx, hy, Sem.run_bind, run_eqGuard_agg w .eql _ x y _ _ hm, run_eql_struct, run_eq_bxm]
set_option maxHeartbeats 4000000 in
theorem equal_n (A B : Option Addr) (c d : Nat) (xs ys : List Int) (w : World) (hA : RdI w A xs) (hR2 : RdI w B ys) (hn : xs.length ≠ ys.length) :
    Calls Try.prog 40 #[.slice A xs.length c, .slice B ys.length d] w (fun e w' => e = .returned (.bool (xs == ys)) ∧ Below w.heap.size w w') := by
  have hB := Below.refl w.heap.size w
  have _u0 := hA
  have _u1 := hR2
  clear _u0 _u1
  have HNe : Hid (((xs.length : Int) != (ys.length : Int)) = true) := Lib.hid (by simp; omega)
  have HV : Hid ((xs == ys) = false) := Lib.hid (eqL_len hn)
  clear hn
  go_enter Try.func40, Try.ntmps40
  go_upto_region 0 with (fail)
  refine wp_region_lit ?_
  refine ls_ex (some 4) (.bool false) rfl rfl (exec_assign _ rfl (.bool false) rfl) ?_
  go_frame
  refine wpList_nil ?_
  go_upto_region 1 with (fail)
  refine wp_region_lit ?_
  refine ls_ex (some 6) (.slice A xs.length c) rfl rfl (exec_move _ rfl (.slice A xs.length c) rfl) ?_
  go_frame
  refine ls_ex (some 7) (.int .i64 xs.length) rfl rfl (exec_len _ 22 2 rfl A xs.length c rfl Try.underlying22) ?_
  go_frame
  refine ls_ex (some 8) (.slice B ys.length d) rfl rfl (exec_move _ rfl (.slice B ys.length d) rfl) ?_
  go_frame
  refine ls_ex (some 9) (.int .i64 ys.length) rfl rfl (exec_len _ 22 2 rfl B ys.length d rfl Try.underlying22) ?_
  go_frame
  refine ls_ex (some 10) (.bool true) rfl rfl (exec_neq _ _ _ _ rfl xs.length ys.length rfl rfl true HNe.out) ?_
  go_frame
  refine wpList_nil ?_
  go_upto_region 2 with (fail)
  refine wp_region_lit ?_
  refine ls_ex (some 4) (.bool false) rfl rfl (exec_assign _ rfl (.bool false) rfl) ?_
  go_frame
  refine wpList_nil ?_
  go_wp2_with fail
  go_ret
  exact ⟨by rw [HV.out]; rfl, hB⟩
set_option maxHeartbeats 4000000 in
theorem equal_y (A B : Option Addr) (c d : Nat) (xs ys : List Int) (w : World) (hA : RdI w A xs) (hR2 : RdI w B ys) (hn : xs.length = ys.length) (hl : xs.length ≤ 1048576) :
    Calls Try.prog 40 #[.slice A xs.length c, .slice B ys.length d] w (fun e w' => e = .returned (.bool (xs == ys)) ∧ Below w.heap.size w w') := by
  have hB := Below.refl w.heap.size w
  have HNe : Hid (((xs.length : Int) != (ys.length : Int)) = false) := Lib.hid (by simp; omega)
  go_enter Try.func40, Try.ntmps40
  go_upto_region 0 with (fail)
  refine wp_region_lit ?_
  refine ls_ex (some 4) (.bool false) rfl rfl (exec_assign _ rfl (.bool false) rfl) ?_
  go_frame
  refine wpList_nil ?_
  go_upto_region 1 with (fail)
  refine wp_region_lit ?_
  refine ls_ex (some 6) (.slice A xs.length c) rfl rfl (exec_move _ rfl (.slice A xs.length c) rfl) ?_
  go_frame
  refine ls_ex (some 7) (.int .i64 xs.length) rfl rfl (exec_len _ 22 2 rfl A xs.length c rfl Try.underlying22) ?_
  go_frame
  refine ls_ex (some 8) (.slice B ys.length d) rfl rfl (exec_move _ rfl (.slice B ys.length d) rfl) ?_
  go_frame
  refine ls_ex (some 9) (.int .i64 ys.length) rfl rfl (exec_len _ 22 2 rfl B ys.length d rfl Try.underlying22) ?_
  go_frame
  refine ls_ex (some 10) (.bool false) rfl rfl (exec_neq _ _ _ _ rfl xs.length ys.length rfl rfl false HNe.out) ?_
  go_frame
  refine wpList_nil ?_
  go_upto_region 3 with (fail)
  refine wp_region_lit ?_
  refine ls_ex (some 11) (.slice A xs.length c) rfl rfl (exec_move _ rfl (.slice A xs.length c) rfl) ?_
  go_frame
  refine ls_ex (some 12) (.int .i64 xs.length) rfl rfl (exec_len _ 22 2 rfl A xs.length c rfl Try.underlying22) ?_
  go_frame
  refine ls_ex (some 13) (.int .i64 0) rfl rfl (exec_move _ rfl (.int .i64 0) rfl) ?_
  go_frame
  refine wpList_nil ?_
  go_wp2_with fail
  go_loopw [13] (fun s13 wr => ∃ a : Nat, a ≤ xs.length ∧ s13 = .int .i64 a ∧ Hid (eqU xs ys a = true) ∧ Below w.heap.size w wr) (fun s13 _ => xs.length - (intOf s13).toNat)
  case atStart => exact ⟨0, by omega, rfl, Lib.hid (eqU_zero _ _), hB⟩
  case round =>
    clear hB
    obtain ⟨a, ha, rfl, HU, hB⟩ := hrel
    by_cases hlt : a < xs.length
    · obtain ⟨b1, o1, rfl, hc1⟩ := (hA.keep hB).at_ hlt
      have hlt2 : a < ys.length := by omega
      obtain ⟨b2, o2, rfl, hc2⟩ := (hR2.keep hB).at_ hlt2
      clear hc1 hc2
      have HSt := Lib.hid (eqU_step hlt hlt2 HU.out)
      have hno := fun h => eqU_no (xs := xs) (ys := ys) (i := a + 1) h
      obtain ⟨x, hx⟩ : ∃ x, xs[a] = x := ⟨_, rfl⟩
      obtain ⟨y, hy⟩ : ∃ y, ys[a] = y := ⟨_, rfl⟩
      rw [hx, hy] at HSt
      have Hx := Lib.hid hx
      have Hy := Lib.hid hy
      clear hx hy
      by_cases hxy : x = y
      · have HU2 : Hid (eqU xs ys (a + 1) = true) := Lib.hid (by rw [HSt.out]; simp [hxy])
        have Hxy : Hid ((x != y) = false) := Lib.hid (by simp [hxy])
        clear hxy hno
        go_upto_region 4 with (fail)
        refine wp_region_lit ?_
        refine ls_ex (some 14) (.bool true) rfl rfl (exec_lss _ _ _ _ rfl a xs.length rfl rfl true (decide_eq_true (by omega))) ?_
        go_frame
        refine wpList_nil ?_
        go_upto_region 5 with (fail)
        refine wp_region_lit ?_
        refine ls_ex (some 15) (.int .i64 a) rfl rfl (exec_move _ rfl (.int .i64 a) rfl) ?_
        go_frame
        refine ls_ex (some 5) (.int .i64 a) rfl rfl (exec_assign _ rfl (.int .i64 a) rfl) ?_
        go_frame
        refine wpList_nil ?_
        go_upto_region 6 with (fail)
        refine wp_region_y (zs := []) (S := fun w' => Below w.heap.size w w') (S2 := fun w' => True) (by kernel_rfl) ?_
        change wpAnyY _ _ _ _ _ _ _ _ _ _ (World.drew _)
        generalize hwdz1 : World.drew _ = wdz1
        replace hB : Below w.heap.size w wdz1 := by rw [← hwdz1]; exact hB.drew
        clear hwdz1
        refine y_yield 0 (some 16) (.slice (some ⟨b1, o1, none⟩) xs.length c) rfl (by kernel_rfl) (by kernel_rfl) (by kernel_rfl) (fun _ _ _ h => h) rfl rfl hB (fun w' h' => exec_move _ rfl (.slice (some ⟨b1, o1, none⟩) xs.length c) rfl) ?_
        go_frame
        refine y_yield 1 (some 17) (.int .i64 a) rfl (by kernel_rfl) (by kernel_rfl) (by kernel_rfl) (fun _ _ _ h => h) rfl rfl hB (fun w' h' => exec_move _ rfl (.int .i64 a) rfl) ?_
        go_frame
        refine y_yield 2 (some 18) (.pointer (some ⟨b1, o1 + a * 1, none⟩)) rfl (by kernel_rfl) (by kernel_rfl) (by kernel_rfl) (fun _ _ _ h => h) rfl rfl hB (fun w' h' => exec_index_slice _ 2 _ _ rfl b1 o1 xs.length c a 1 rfl rfl Try.underlying22 (by kernel_rfl) hlt) ?_
        go_frame
        refine y_yield 3 (some 19) (.int .i64 x) rfl (by kernel_rfl) (by kernel_rfl) (by kernel_rfl) (fun _ _ _ h => h) rfl rfl hB (fun w' h' => exec_load_one 2 _ rfl b1 (o1 + a * 1) rfl (.int .i64 x) _ Try.underlying2 rfl (by rw [← Hx.out]; exact RdI.c1m (hA.keep h') hlt)) ?_
        go_frame
        refine y_yield 4 (some 20) (.slice (some ⟨b2, o2, none⟩) ys.length d) rfl (by kernel_rfl) (by kernel_rfl) (by kernel_rfl) (fun _ _ _ h => h) rfl rfl hB (fun w' h' => exec_move _ rfl (.slice (some ⟨b2, o2, none⟩) ys.length d) rfl) ?_
        go_frame
        refine y_yield 5 (some 21) (.int .i64 a) rfl (by kernel_rfl) (by kernel_rfl) (by kernel_rfl) (fun _ _ _ h => h) rfl rfl hB (fun w' h' => exec_move _ rfl (.int .i64 a) rfl) ?_
        go_frame
        refine y_yield 6 (some 22) (.pointer (some ⟨b2, o2 + a * 1, none⟩)) rfl (by kernel_rfl) (by kernel_rfl) (by kernel_rfl) (fun _ _ _ h => h) rfl rfl hB (fun w' h' => exec_index_slice _ 2 _ _ rfl b2 o2 ys.length d a 1 rfl rfl Try.underlying22 (by kernel_rfl) hlt2) ?_
        go_frame
        refine y_yield 7 (some 23) (.int .i64 y) rfl (by kernel_rfl) (by kernel_rfl) (by kernel_rfl) (fun _ _ _ h => h) rfl rfl hB (fun w' h' => exec_load_one 2 _ rfl b2 (o2 + a * 1) rfl (.int .i64 y) _ Try.underlying2 rfl (by rw [← Hy.out]; exact RdI.c1m (hR2.keep h') hlt2)) ?_
        go_frame
        refine y_yield 8 (some 24) (.bool false) rfl (by kernel_rfl) (by kernel_rfl) (by kernel_rfl) (fun _ _ _ h => h) rfl rfl hB (fun w' h' => exec_neq _ _ _ _ rfl x y rfl rfl false Hxy.out) ?_
        go_frame
        refine y_done (by kernel_rfl) ?_ _
        go_upto_region 8 with (fail)
        refine wp_region_lit ?_
        refine ls_ex (some 25) (.int .i64 (a + 1)) rfl rfl (exec_add _ _ _ _ rfl a 1 (a + 1) rfl rfl (IntWalk.i64_in _ (by omega))) ?_
        go_frame
        refine ls_ex (some 13) (.int .i64 (a + 1)) rfl rfl (exec_move _ rfl (.int .i64 (a + 1)) rfl) ?_
        go_frame
        refine wpList_nil ?_
        go_wp2_with fail
        go_roundw
        case rel => exact ⟨a + 1, by omega, by go_num, HU2, hB⟩
        case measure => simp [intOf]; omega
      · have HV : Hid ((xs == ys) = false) := Lib.hid (hno (by rw [HSt.out]; simp [hxy]))
        have Hxy : Hid ((x != y) = true) := Lib.hid (by simp [hxy])
        clear hxy hno
        go_upto_region 4 with (fail)
        refine wp_region_lit ?_
        refine ls_ex (some 14) (.bool true) rfl rfl (exec_lss _ _ _ _ rfl a xs.length rfl rfl true (decide_eq_true (by omega))) ?_
        go_frame
        refine wpList_nil ?_
        go_upto_region 5 with (fail)
        refine wp_region_lit ?_
        refine ls_ex (some 15) (.int .i64 a) rfl rfl (exec_move _ rfl (.int .i64 a) rfl) ?_
        go_frame
        refine ls_ex (some 5) (.int .i64 a) rfl rfl (exec_assign _ rfl (.int .i64 a) rfl) ?_
        go_frame
        refine wpList_nil ?_
        go_upto_region 6 with (fail)
        refine wp_region_y (zs := []) (S := fun w' => Below w.heap.size w w') (S2 := fun w' => True) (by kernel_rfl) ?_
        change wpAnyY _ _ _ _ _ _ _ _ _ _ (World.drew _)
        generalize hwdz2 : World.drew _ = wdz2
        replace hB : Below w.heap.size w wdz2 := by rw [← hwdz2]; exact hB.drew
        clear hwdz2
        refine y_yield 0 (some 16) (.slice (some ⟨b1, o1, none⟩) xs.length c) rfl (by kernel_rfl) (by kernel_rfl) (by kernel_rfl) (fun _ _ _ h => h) rfl rfl hB (fun w' h' => exec_move _ rfl (.slice (some ⟨b1, o1, none⟩) xs.length c) rfl) ?_
        go_frame
        refine y_yield 1 (some 17) (.int .i64 a) rfl (by kernel_rfl) (by kernel_rfl) (by kernel_rfl) (fun _ _ _ h => h) rfl rfl hB (fun w' h' => exec_move _ rfl (.int .i64 a) rfl) ?_
        go_frame
        refine y_yield 2 (some 18) (.pointer (some ⟨b1, o1 + a * 1, none⟩)) rfl (by kernel_rfl) (by kernel_rfl) (by kernel_rfl) (fun _ _ _ h => h) rfl rfl hB (fun w' h' => exec_index_slice _ 2 _ _ rfl b1 o1 xs.length c a 1 rfl rfl Try.underlying22 (by kernel_rfl) hlt) ?_
        go_frame
        refine y_yield 3 (some 19) (.int .i64 x) rfl (by kernel_rfl) (by kernel_rfl) (by kernel_rfl) (fun _ _ _ h => h) rfl rfl hB (fun w' h' => exec_load_one 2 _ rfl b1 (o1 + a * 1) rfl (.int .i64 x) _ Try.underlying2 rfl (by rw [← Hx.out]; exact RdI.c1m (hA.keep h') hlt)) ?_
        go_frame
        refine y_yield 4 (some 20) (.slice (some ⟨b2, o2, none⟩) ys.length d) rfl (by kernel_rfl) (by kernel_rfl) (by kernel_rfl) (fun _ _ _ h => h) rfl rfl hB (fun w' h' => exec_move _ rfl (.slice (some ⟨b2, o2, none⟩) ys.length d) rfl) ?_
        go_frame
        refine y_yield 5 (some 21) (.int .i64 a) rfl (by kernel_rfl) (by kernel_rfl) (by kernel_rfl) (fun _ _ _ h => h) rfl rfl hB (fun w' h' => exec_move _ rfl (.int .i64 a) rfl) ?_
        go_frame
        refine y_yield 6 (some 22) (.pointer (some ⟨b2, o2 + a * 1, none⟩)) rfl (by kernel_rfl) (by kernel_rfl) (by kernel_rfl) (fun _ _ _ h => h) rfl rfl hB (fun w' h' => exec_index_slice _ 2 _ _ rfl b2 o2 ys.length d a 1 rfl rfl Try.underlying22 (by kernel_rfl) hlt2) ?_
        go_frame
        refine y_yield 7 (some 23) (.int .i64 y) rfl (by kernel_rfl) (by kernel_rfl) (by kernel_rfl) (fun _ _ _ h => h) rfl rfl hB (fun w' h' => exec_load_one 2 _ rfl b2 (o2 + a * 1) rfl (.int .i64 y) _ Try.underlying2 rfl (by rw [← Hy.out]; exact RdI.c1m (hR2.keep h') hlt2)) ?_
        go_frame
        refine y_yield 8 (some 24) (.bool true) rfl (by kernel_rfl) (by kernel_rfl) (by kernel_rfl) (fun _ _ _ h => h) rfl rfl hB (fun w' h' => exec_neq _ _ _ _ rfl x y rfl rfl true Hxy.out) ?_
        go_frame
        refine y_done (by kernel_rfl) ?_ _
        go_upto_region 7 with (fail)
        refine wp_region_lit ?_
        refine ls_ex (some 4) (.bool false) rfl rfl (exec_assign _ rfl (.bool false) rfl) ?_
        go_frame
        refine wpList_nil ?_
        go_wp2_with fail
        go_ret
        exact ⟨by rw [HV.out]; rfl, hB⟩
    · have HV : Hid ((xs == ys) = true) := Lib.hid (by rw [← eqU_all (N := xs.length) rfl (by omega), ← show a = xs.length by omega]; exact HU.out)
      go_upto_region 4 with (fail)
      refine wp_region_lit ?_
      refine ls_ex (some 14) (.bool false) rfl rfl (exec_lss _ _ _ _ rfl a xs.length rfl rfl false (decide_eq_false (by omega))) ?_
      go_frame
      refine wpList_nil ?_
      go_upto_region 9 with (fail)
      refine wp_region_lit ?_
      refine ls_ex (some 4) (.bool true) rfl rfl (exec_assign _ rfl (.bool true) rfl) ?_
      go_frame
      refine wpList_nil ?_
      go_wp2_with fail
      go_ret
      exact ⟨by rw [HV.out]; rfl, hB⟩
theorem equalI_c (A B : Option Addr) (c d : Nat) (xs ys : List Int) (w : World) (hA : RdI w A xs) (hR2 : RdI w B ys) (hl : xs.length ≤ 1048576) : Calls Try.prog 40 #[.slice A xs.length c, .slice B ys.length d] w (fun e w' => e = .returned (.bool (xs == ys)) ∧ Below w.heap.size w w') := by
  by_cases hn : xs.length = ys.length
  · exact equal_y A B c d xs ys w hA hR2 hn hl
  · exact equal_n A B c d xs ys w hA hR2 hn
theorem equalN_c (A B : Option Addr) (c d : Nat) (xs ys : List Int) (N : Nat) (w : World) (hN : xs.length = N) (hA : RdI w A xs) (hR2 : RdI w B ys) (hl : ys.length ≤ 1048576) : Calls Try.prog 40 #[.slice A N c, .slice B ys.length d] w (fun e w' => e = .returned (.bool (xs == ys)) ∧ Below w.heap.size w w') := by
  subst hN
  by_cases hn : xs.length = ys.length
  · exact equal_y A B c d xs ys w hA hR2 hn (by omega)
  · exact equal_n A B c d xs ys w hA hR2 hn
def mfCode (p i j k : Int) (qs : List (List Nat)) (tp ti tj tk : Int) (xs : List Int) : Int := if (methB p i j k qs && tenB tp ti tj tk xs) = true then 0 else 1
def mfB (p i j k : Int) (qs : List (List Nat)) (tp ti tj tk : Int) (xs : List Int) : Bool := (methB p i j k qs && tenB tp ti tj tk xs) && (p == tp && (i == ti && (j == tj && k == tk))) && (tomL p i j k qs == xs)
end Go.Proofs.Ytcfgpjkdonidgaa
