/-
  slices.Equal on []int64; MethodFits of both sides. (Made by mkmf.py.)
-/
import Derived.Test.YtkjdlmeolnohbaaL9t
import Derived.Test.YtkjdlmeolnohbaaTen4
namespace Go.Proofs.Ytkjdlmeolnohbaa
open Go.RowKit
set_option maxRecDepth 100000
attribute [local irreducible] wpList
theorem run_eq_bxm (n m k n' m' k' : Int) (w : World) : (Op.equalIn 10000 60 (.agg #[.int .i64 n, .int .i64 m, .int .i64 k]) (.agg #[.int .i64 n', .int .i64 m', .int .i64 k'])).run Try.prog w = .ok (n == n' && (m == m' && k == k')) w := by
  obtain ⟨i, hi⟩ : ∃ i, Try.prog.info? 2 = some i := Option.isSome_iff_exists.1 (by kernel_rfl)
  have hc : Try.prog.cellsOf 2 = 1 := by kernel_rfl
  have hu : Try.prog.underlying 2 = some (.int .i64) := by kernel_rfl
  have hagg : (isAgg 2).run Try.prog w = .ok false w := by
    unfold isAgg
    rw [Sem.run_bind, run_underlying hu w]
    rfl
  have hpart : ∀ (xs : Array Value) (j : Nat) (v : Value), xs[j]? = some v → (part 2 xs (j * 1)).run Try.prog w = .ok v w := by
    intro xs j v hv
    unfold part
    simp [Sem.run_bind, hagg, hv]
  rw [run_equalIn_array (P := Try.prog) w 9999 _ _ Try.underlying60 hi, hc]
  rw [show List.range 3 = [0, 1, 2] from rfl]
  have hq : ∀ a b : Int, (Op.equalIn 9999 2 (.int .i64 a) (.int .i64 b)).run Try.prog w = .ok (a == b) w := fun a b => run_equalIn_int w 9998 2 .i64 .i64 a b hu
  simp only [Op.eqItems, Sem.run_bind, hpart #[.int .i64 n, .int .i64 m, .int .i64 k] 0 (.int .i64 n) rfl, hpart #[.int .i64 n, .int .i64 m, .int .i64 k] 1 (.int .i64 m) rfl, hpart #[.int .i64 n, .int .i64 m, .int .i64 k] 2 (.int .i64 k) rfl,
    hpart #[.int .i64 n', .int .i64 m', .int .i64 k'] 0 (.int .i64 n') rfl, hpart #[.int .i64 n', .int .i64 m', .int .i64 k'] 1 (.int .i64 m') rfl, hpart #[.int .i64 n', .int .i64 m', .int .i64 k'] 2 (.int .i64 k') rfl, Result.andThen_ok, hq, Sem.run_ite, Sem.run_pure]
  cases n == n' <;> cases m == m' <;> cases k == k' <;> rfl

theorem RdI.c1m {w : World} {b off : Nat} {xs : List Int} (h : RdI w (some ⟨b, off, none⟩) xs) {i : Nat} (hi : i < xs.length) : w.cell? ⟨b, off + i * 1, none⟩ = some (.int .i64 xs[i]) := by
  obtain ⟨b', off', hA0, hc⟩ := h.at_ hi
  cases hA0
  rw [Nat.mul_one]
  exact hc
/-- The lists are alike so far. -/
def eqU (xs ys : List Int) (i : Nat) : Bool := xs.take i == ys.take i
theorem eqU_zero (xs ys : List Int) : eqU xs ys 0 = true := by simp [eqU]
theorem eqU_step {xs ys : List Int} {i : Nat} (hx : i < xs.length) (hy : i < ys.length) (h : eqU xs ys i = true) : eqU xs ys (i + 1) = (xs[i] == ys[i]) := by
  unfold eqU at *
  rw [beq_iff_eq] at h
  rw [List.take_succ_eq_append_getElem hx, List.take_succ_eq_append_getElem hy, h, Bool.eq_iff_iff]
  simp only [beq_iff_eq, List.append_cancel_left_eq, List.cons.injEq, and_true]
theorem eqU_all {xs ys : List Int} {N : Nat} (hx : xs.length = N) (hy : ys.length = N) : eqU xs ys N = (xs == ys) := by
  unfold eqU
  rw [List.take_of_length_le (by omega), List.take_of_length_le (by omega)]
theorem eqU_no {xs ys : List Int} {i : Nat} (h : eqU xs ys i = false) : (xs == ys) = false := by
  cases hb : (xs == ys) with
  | false => rfl
  | true =>
    rw [beq_iff_eq] at hb
    subst hb
    simp [eqU] at h
theorem eqL_len {xs ys : List Int} (h : xs.length ≠ ys.length) : (xs == ys) = false := by
  cases hb : (xs == ys) with
  | false => rfl
  | true =>
    rw [beq_iff_eq] at hb
    subst hb
    exact absurd rfl h
theorem exec_field4 {o : Oper} {a : Act} {w : World} (x : Operand) (ho : o.op = .field 52 x 4) (p i j k : Int) (A : Option Addr) (l c : Nat) (hx : a.eval x = .agg #[.int .i64 p, .int .i64 i, .int .i64 j, .int .i64 k, .slice A l c]) : (execOp a.eval o).run Try.prog w = .ok (.value (.slice A l c)) w := by
  unfold execOp
  simp only [ho, hx]
  kernel_rfl
theorem exec_eql_bxm {o : Oper} {a : Act} {w : World} (x y : Operand) (t' : TypeId) (ho : o.op = .binOp .eql 60 x y t') (n m k n' m' k' : Int) (hx : a.eval x = .agg #[.int .i64 n, .int .i64 m, .int .i64 k]) (hy : a.eval y = .agg #[.int .i64 n', .int .i64 m', .int .i64 k']) (b : Bool) (hb : (n == n' && (m == m' && k == k')) = b) :
    (execOp a.eval o).run Try.prog w = .ok (.value (.bool b)) w := by
  have hm : Try.prog.eqGuardType Try.prog.depth 60 = false := by kernel_rfl
  unfold execOp
  subst hb
  simp [ho, hx, hy, Sem.run_bind, run_eqGuard_agg w .eql _ x y _ _ hm, run_eql_struct, run_eq_bxm]
set_option maxHeartbeats 4000000 in
theorem equal_n (A B : Option Addr) (c d : Nat) (xs ys : List Int) (w : World) (hA : RdI w A xs) (hR2 : RdI w B ys) (hn : xs.length ≠ ys.length) :
    Calls Try.prog 50 #[.slice A xs.length c, .slice B ys.length d] w (fun e w' => e = .returned (.bool (xs == ys)) ∧ Below w.heap.size w w') := by
  have hB := Below.refl w.heap.size w
  have _u0 := hA
  have _u1 := hR2
  clear _u0 _u1
  have HNe : Hid (((xs.length : Int) != (ys.length : Int)) = true) := Lib.hid (by simp; omega)
  have HV : Hid ((xs == ys) = false) := Lib.hid (eqL_len hn)
  clear hn
  go_enter Try.func50, Try.ntmps50
  go_upto_region 0 with (fail)
  refine wp_region_lit ?_
  refine ls_ex (some 4) (.bool false) rfl rfl (exec_assign _ rfl (.bool false) rfl) ?_
  go_frame
  refine wpList_nil ?_
  go_upto_region 1 with (fail)
  refine wp_region_lit ?_
  refine ls_ex (some 6) (.slice A xs.length c) rfl rfl (exec_move _ rfl (.slice A xs.length c) rfl) ?_
  go_frame
  refine ls_ex (some 7) (.int .i64 xs.length) rfl rfl (exec_len _ 46 2 rfl A xs.length c rfl Try.underlying46) ?_
  go_frame
  refine ls_ex (some 8) (.slice B ys.length d) rfl rfl (exec_move _ rfl (.slice B ys.length d) rfl) ?_
  go_frame
  refine ls_ex (some 9) (.int .i64 ys.length) rfl rfl (exec_len _ 46 2 rfl B ys.length d rfl Try.underlying46) ?_
  go_frame
  refine ls_ex (some 10) (.bool true) rfl rfl (exec_neq _ _ _ _ rfl xs.length ys.length rfl rfl true HNe.out) ?_
  go_frame
  refine wpList_nil ?_
  go_upto_region 2 with (fail)
  refine wp_region_lit ?_
  refine ls_ex (some 4) (.bool false) rfl rfl (exec_assign _ rfl (.bool false) rfl) ?_
  go_frame
  refine wpList_nil ?_
  go_wp2_with fail
  go_ret
  exact ⟨by rw [HV.out]; rfl, hB⟩
set_option maxHeartbeats 4000000 in
theorem equal_y (A B : Option Addr) (c d : Nat) (xs ys : List Int) (w : World) (hA : RdI w A xs) (hR2 : RdI w B ys) (hn : xs.length = ys.length) (hl : xs.length ≤ 1048576) :
    Calls Try.prog 50 #[.slice A xs.length c, .slice B ys.length d] w (fun e w' => e = .returned (.bool (xs == ys)) ∧ Below w.heap.size w w') := by
  have hB := Below.refl w.heap.size w
  have HNe : Hid (((xs.length : Int) != (ys.length : Int)) = false) := Lib.hid (by simp; omega)
  go_enter Try.func50, Try.ntmps50
  go_upto_region 0 with (fail)
  refine wp_region_lit ?_
  refine ls_ex (some 4) (.bool false) rfl rfl (exec_assign _ rfl (.bool false) rfl) ?_
  go_frame
  refine wpList_nil ?_
  go_upto_region 1 with (fail)
  refine wp_region_lit ?_
  refine ls_ex (some 6) (.slice A xs.length c) rfl rfl (exec_move _ rfl (.slice A xs.length c) rfl) ?_
  go_frame
  refine ls_ex (some 7) (.int .i64 xs.length) rfl rfl (exec_len _ 46 2 rfl A xs.length c rfl Try.underlying46) ?_
  go_frame
  refine ls_ex (some 8) (.slice B ys.length d) rfl rfl (exec_move _ rfl (.slice B ys.length d) rfl) ?_
  go_frame
  refine ls_ex (some 9) (.int .i64 ys.length) rfl rfl (exec_len _ 46 2 rfl B ys.length d rfl Try.underlying46) ?_
  go_frame
  refine ls_ex (some 10) (.bool false) rfl rfl (exec_neq _ _ _ _ rfl xs.length ys.length rfl rfl false HNe.out) ?_
  go_frame
  refine wpList_nil ?_
  go_upto_region 3 with (fail)
  refine wp_region_lit ?_
  refine ls_ex (some 11) (.slice A xs.length c) rfl rfl (exec_move _ rfl (.slice A xs.length c) rfl) ?_
  go_frame
  refine ls_ex (some 12) (.int .i64 xs.length) rfl rfl (exec_len _ 46 2 rfl A xs.length c rfl Try.underlying46) ?_
  go_frame
  refine ls_ex (some 13) (.int .i64 0) rfl rfl (exec_move _ rfl (.int .i64 0) rfl) ?_
  go_frame
  refine wpList_nil ?_
  go_wp2_with fail
  go_loopw [13] (fun s13 wr => ∃ a : Nat, a ≤ xs.length ∧ s13 = .int .i64 a ∧ Hid (eqU xs ys a = true) ∧ Below w.heap.size w wr) (fun s13 _ => xs.length - (intOf s13).toNat)
  case atStart => exact ⟨0, by omega, rfl, Lib.hid (eqU_zero _ _), hB⟩
  case round =>
    clear hB
    obtain ⟨a, ha, rfl, HU, hB⟩ := hrel
    by_cases hlt : a < xs.length
    · obtain ⟨b1, o1, rfl, hc1⟩ := (hA.keep hB).at_ hlt
      have hlt2 : a < ys.length := by omega
      obtain ⟨b2, o2, rfl, hc2⟩ := (hR2.keep hB).at_ hlt2
      clear hc1 hc2
      have HSt := Lib.hid (eqU_step hlt hlt2 HU.out)
      have hno := fun h => eqU_no (xs := xs) (ys := ys) (i := a + 1) h
      obtain ⟨x, hx⟩ : ∃ x, xs[a] = x := ⟨_, rfl⟩
      obtain ⟨y, hy⟩ : ∃ y, ys[a] = y := ⟨_, rfl⟩
      rw [hx, hy] at HSt
      have Hx := Lib.hid hx
      have Hy := Lib.hid hy
      clear hx hy
      by_cases hxy : x = y
      · have HU2 : Hid (eqU xs ys (a + 1) = true) := Lib.hid (by rw [HSt.out]; simp [hxy])
        have Hxy : Hid ((x != y) = false) := Lib.hid (by simp [hxy])
        clear hxy hno
        go_upto_region 4 with (fail)
        refine wp_region_lit ?_
        refine ls_ex (some 14) (.bool true) rfl rfl (exec_lss _ _ _ _ rfl a xs.length rfl rfl true (decide_eq_true (by omega))) ?_
        go_frame
        refine wpList_nil ?_
        go_upto_region 5 with (fail)
        refine wp_region_lit ?_
        refine ls_ex (some 15) (.int .i64 a) rfl rfl (exec_move _ rfl (.int .i64 a) rfl) ?_
        go_frame
        refine ls_ex (some 5) (.int .i64 a) rfl rfl (exec_assign _ rfl (.int .i64 a) rfl) ?_
        go_frame
        refine wpList_nil ?_
        go_upto_region 6 with (fail)
        refine wp_region_y (zs := []) (S := fun w' => Below w.heap.size w w') (S2 := fun w' => True) (by kernel_rfl) ?_
        change wpAnyY _ _ _ _ _ _ _ _ _ _ (World.drew _)
        generalize hwdz1 : World.drew _ = wdz1
        replace hB : Below w.heap.size w wdz1 := by rw [← hwdz1]; exact hB.drew
        clear hwdz1
        refine y_yield 0 (some 16) (.slice (some ⟨b1, o1, none⟩) xs.length c) rfl (by kernel_rfl) (by kernel_rfl) (by kernel_rfl) (fun _ _ _ h => h) rfl rfl hB (fun w' h' => exec_move _ rfl (.slice (some ⟨b1, o1, none⟩) xs.length c) rfl) ?_
        go_frame
        refine y_yield 1 (some 17) (.int .i64 a) rfl (by kernel_rfl) (by kernel_rfl) (by kernel_rfl) (fun _ _ _ h => h) rfl rfl hB (fun w' h' => exec_move _ rfl (.int .i64 a) rfl) ?_
        go_frame
        refine y_yield 2 (some 18) (.pointer (some ⟨b1, o1 + a * 1, none⟩)) rfl (by kernel_rfl) (by kernel_rfl) (by kernel_rfl) (fun _ _ _ h => h) rfl rfl hB (fun w' h' => exec_index_slice _ 2 _ _ rfl b1 o1 xs.length c a 1 rfl rfl Try.underlying46 (by kernel_rfl) hlt) ?_
        go_frame
        refine y_yield 3 (some 19) (.int .i64 x) rfl (by kernel_rfl) (by kernel_rfl) (by kernel_rfl) (fun _ _ _ h => h) rfl rfl hB (fun w' h' => exec_load_one 2 _ rfl b1 (o1 + a * 1) rfl (.int .i64 x) _ Try.underlying2 rfl (by rw [← Hx.out]; exact RdI.c1m (hA.keep h') hlt)) ?_
        go_frame
        refine y_yield 4 (some 20) (.slice (some ⟨b2, o2, none⟩) ys.length d) rfl (by kernel_rfl) (by kernel_rfl) (by kernel_rfl) (fun _ _ _ h => h) rfl rfl hB (fun w' h' => exec_move _ rfl (.slice (some ⟨b2, o2, none⟩) ys.length d) rfl) ?_
        go_frame
        refine y_yield 5 (some 21) (.int .i64 a) rfl (by kernel_rfl) (by kernel_rfl) (by kernel_rfl) (fun _ _ _ h => h) rfl rfl hB (fun w' h' => exec_move _ rfl (.int .i64 a) rfl) ?_
        go_frame
        refine y_yield 6 (some 22) (.pointer (some ⟨b2, o2 + a * 1, none⟩)) rfl (by kernel_rfl) (by kernel_rfl) (by kernel_rfl) (fun _ _ _ h => h) rfl rfl hB (fun w' h' => exec_index_slice _ 2 _ _ rfl b2 o2 ys.length d a 1 rfl rfl Try.underlying46 (by kernel_rfl) hlt2) ?_
        go_frame
        refine y_yield 7 (some 23) (.int .i64 y) rfl (by kernel_rfl) (by kernel_rfl) (by kernel_rfl) (fun _ _ _ h => h) rfl rfl hB (fun w' h' => exec_load_one 2 _ rfl b2 (o2 + a * 1) rfl (.int .i64 y) _ Try.underlying2 rfl (by rw [← Hy.out]; exact RdI.c1m (hR2.keep h') hlt2)) ?_
        go_frame
        refine y_yield 8 (some 24) (.bool false) rfl (by kernel_rfl) (by kernel_rfl) (by kernel_rfl) (fun _ _ _ h => h) rfl rfl hB (fun w' h' => exec_neq _ _ _ _ rfl x y rfl rfl false Hxy.out) ?_
        go_frame
        refine y_done (by kernel_rfl) ?_ _
        go_upto_region 8 with (fail)
        refine wp_region_lit ?_
        refine ls_ex (some 25) (.int .i64 (a + 1)) rfl rfl (exec_add _ _ _ _ rfl a 1 (a + 1) rfl rfl (IntWalk.i64_in _ (by omega))) ?_
        go_frame
        refine ls_ex (some 13) (.int .i64 (a + 1)) rfl rfl (exec_move _ rfl (.int .i64 (a + 1)) rfl) ?_
        go_frame
        refine wpList_nil ?_
        go_wp2_with fail
        go_roundw
        case rel => exact ⟨a + 1, by omega, by go_num, HU2, hB⟩
        case measure => simp [intOf]; omega
      · have HV : Hid ((xs == ys) = false) := Lib.hid (hno (by rw [HSt.out]; simp [hxy]))
        have Hxy : Hid ((x != y) = true) := Lib.hid (by simp [hxy])
        clear hxy hno
        go_upto_region 4 with (fail)
        refine wp_region_lit ?_
        refine ls_ex (some 14) (.bool true) rfl rfl (exec_lss _ _ _ _ rfl a xs.length rfl rfl true (decide_eq_true (by omega))) ?_
        go_frame
        refine wpList_nil ?_
        go_upto_region 5 with (fail)
        refine wp_region_lit ?_
        refine ls_ex (some 15) (.int .i64 a) rfl rfl (exec_move _ rfl (.int .i64 a) rfl) ?_
        go_frame
        refine ls_ex (some 5) (.int .i64 a) rfl rfl (exec_assign _ rfl (.int .i64 a) rfl) ?_
        go_frame
        refine wpList_nil ?_
        go_upto_region 6 with (fail)
        refine wp_region_y (zs := []) (S := fun w' => Below w.heap.size w w') (S2 := fun w' => True) (by kernel_rfl) ?_
        change wpAnyY _ _ _ _ _ _ _ _ _ _ (World.drew _)
        generalize hwdz2 : World.drew _ = wdz2
        replace hB : Below w.heap.size w wdz2 := by rw [← hwdz2]; exact hB.drew
        clear hwdz2
        refine y_yield 0 (some 16) (.slice (some ⟨b1, o1, none⟩) xs.length c) rfl (by kernel_rfl) (by kernel_rfl) (by kernel_rfl) (fun _ _ _ h => h) rfl rfl hB (fun w' h' => exec_move _ rfl (.slice (some ⟨b1, o1, none⟩) xs.length c) rfl) ?_
        go_frame
        refine y_yield 1 (some 17) (.int .i64 a) rfl (by kernel_rfl) (by kernel_rfl) (by kernel_rfl) (fun _ _ _ h => h) rfl rfl hB (fun w' h' => exec_move _ rfl (.int .i64 a) rfl) ?_
        go_frame
        refine y_yield 2 (some 18) (.pointer (some ⟨b1, o1 + a * 1, none⟩)) rfl (by kernel_rfl) (by kernel_rfl) (by kernel_rfl) (fun _ _ _ h => h) rfl rfl hB (fun w' h' => exec_index_slice _ 2 _ _ rfl b1 o1 xs.length c a 1 rfl rfl Try.underlying46 (by kernel_rfl) hlt) ?_
        go_frame
        refine y_yield 3 (some 19) (.int .i64 x) rfl (by kernel_rfl) (by kernel_rfl) (by kernel_rfl) (fun _ _ _ h => h) rfl rfl hB (fun w' h' => exec_load_one 2 _ rfl b1 (o1 + a * 1) rfl (.int .i64 x) _ Try.underlying2 rfl (by rw [← Hx.out]; exact RdI.c1m (hA.keep h') hlt)) ?_
        go_frame
        refine y_yield 4 (some 20) (.slice (some ⟨b2, o2, none⟩) ys.length d) rfl (by kernel_rfl) (by kernel_rfl) (by kernel_rfl) (fun _ _ _ h => h) rfl rfl hB (fun w' h' => exec_move _ rfl (.slice (some ⟨b2, o2, none⟩) ys.length d) rfl) ?_
        go_frame
        refine y_yield 5 (some 21) (.int .i64 a) rfl (by kernel_rfl) (by kernel_rfl) (by kernel_rfl) (fun _ _ _ h => h) rfl rfl hB (fun w' h' => exec_move _ rfl (.int .i64 a) rfl) ?_
        go_frame
        refine y_yield 6 (some 22) (.pointer (some ⟨b2, o2 + a * 1, none⟩)) rfl (by kernel_rfl) (by kernel_rfl) (by kernel_rfl) (fun _ _ _ h => h) rfl rfl hB (fun w' h' => exec_index_slice _ 2 _ _ rfl b2 o2 ys.length d a 1 rfl rfl Try.underlying46 (by kernel_rfl) hlt2) ?_
        go_frame
        refine y_yield 7 (some 23) (.int .i64 y) rfl (by kernel_rfl) (by kernel_rfl) (by kernel_rfl) (fun _ _ _ h => h) rfl rfl hB (fun w' h' => exec_load_one 2 _ rfl b2 (o2 + a * 1) rfl (.int .i64 y) _ Try.underlying2 rfl (by rw [← Hy.out]; exact RdI.c1m (hR2.keep h') hlt2)) ?_
        go_frame
        refine y_yield 8 (some 24) (.bool true) rfl (by kernel_rfl) (by kernel_rfl) (by kernel_rfl) (fun _ _ _ h => h) rfl rfl hB (fun w' h' => exec_neq _ _ _ _ rfl x y rfl rfl true Hxy.out) ?_
        go_frame
        refine y_done (by kernel_rfl) ?_ _
        go_upto_region 7 with (fail)
        refine wp_region_lit ?_
        refine ls_ex (some 4) (.bool false) rfl rfl (exec_assign _ rfl (.bool false) rfl) ?_
        go_frame
        refine wpList_nil ?_
        go_wp2_with fail
        go_ret
        exact ⟨by rw [HV.out]; rfl, hB⟩
    · have HV : Hid ((xs == ys) = true) := Lib.hid (by rw [← eqU_all (N := xs.length) rfl (by omega), ← show a = xs.length by omega]; exact HU.out)
      go_upto_region 4 with (fail)
      refine wp_region_lit ?_
      refine ls_ex (some 14) (.bool false) rfl rfl (exec_lss _ _ _ _ rfl a xs.length rfl rfl false (decide_eq_false (by omega))) ?_
      go_frame
      refine wpList_nil ?_
      go_upto_region 9 with (fail)
      refine wp_region_lit ?_
      refine ls_ex (some 4) (.bool true) rfl rfl (exec_assign _ rfl (.bool true) rfl) ?_
      go_frame
      refine wpList_nil ?_
      go_wp2_with fail
      go_ret
      exact ⟨by rw [HV.out]; rfl, hB⟩
theorem equalI_c (A B : Option Addr) (c d : Nat) (xs ys : List Int) (w : World) (hA : RdI w A xs) (hR2 : RdI w B ys) (hl : xs.length ≤ 1048576) : Calls Try.prog 50 #[.slice A xs.length c, .slice B ys.length d] w (fun e w' => e = .returned (.bool (xs == ys)) ∧ Below w.heap.size w w') := by
  by_cases hn : xs.length = ys.length
  · exact equal_y A B c d xs ys w hA hR2 hn hl
  · exact equal_n A B c d xs ys w hA hR2 hn
theorem equalN_c (A B : Option Addr) (c d : Nat) (xs ys : List Int) (N : Nat) (w : World) (hN : xs.length = N) (hA : RdI w A xs) (hR2 : RdI w B ys) (hl : ys.length ≤ 1048576) : Calls Try.prog 50 #[.slice A N c, .slice B ys.length d] w (fun e w' => e = .returned (.bool (xs == ys)) ∧ Below w.heap.size w w') := by
  subst hN
  by_cases hn : xs.length = ys.length
  · exact equal_y A B c d xs ys w hA hR2 hn (by omega)
  · exact equal_n A B c d xs ys w hA hR2 hn
def mfCode (p i j k : Int) (qs : List (List Nat)) (tp ti tj tk : Int) (xs : List Int) : Int := if (methB p i j k qs && tenB tp ti tj tk xs) = true then 0 else 1
def mfB (p i j k : Int) (qs : List (List Nat)) (tp ti tj tk : Int) (xs : List Int) : Bool := (methB p i j k qs && tenB tp ti tj tk xs) && (p == tp && (i == ti && (j == tj && k == tk))) && (tomL p i j k qs == xs)
set_option maxHeartbeats 4000000 in
theorem specMf_a (p i j k : Int) (A : Option Addr) (c : Nat) (qs : List (List Nat)) (tp ti tj tk : Int) (B : Option Addr) (d : Nat) (xs : List Int) (w : World) (hR : Rd w A qs) (hlen : qs.length ≤ 1048576) (hX : RdI w B xs) (hxl : xs.length ≤ 1048576) (hs : methB p i j k qs = false) :
    Calls Try.prog 23 #[.agg #[.int .i64 p, .int .i64 i, .int .i64 j, .int .i64 k, .slice A qs.length c], .agg #[.int .i64 tp, .int .i64 ti, .int .i64 tj, .int .i64 tk, .slice B xs.length d]] w (fun e w' => e = .returned (.tuple #[.bool (mfB p i j k qs tp ti tj tk xs), .int .i64 (mfCode p i j k qs tp ti tj tk xs)]) ∧ Below w.heap.size w w') := by
  have hB := Below.refl w.heap.size w
  have _u0 := hX
  have _u1 := hxl
  clear _u0 _u1
  have HC : Hid (mfCode p i j k qs tp ti tj tk xs = 1) := Lib.hid (by simp [mfCode, hs])
  have HV : Hid (mfB p i j k qs tp ti tj tk xs = false) := Lib.hid (by simp [mfB, hs])
  have Hs := Lib.hid hs
  clear hs
  go_enter Try.func23, Try.ntmps23
  go_upto_region 0 with (fail)
  refine wp_region_lit ?_
  refine ls_op rfl (fun K' hK' => ?_)
  have lz1 := hB.size
  refine wp_new (some 2) rfl (exec_box 29 _ rfl (#[.int .i64 p, .int .i64 i, .int .i64 j, .int .i64 k, .slice A qs.length c]) rfl) (fun Wz2 nnz3 => ?_)
  have bz4 := nnz3.below (Below.refl _ _) (Nat.le_refl _)
  replace hB := below_after hB bz4
  have hz5 : At Wz2 w.heap.size (.cells #[.int .i64 p, .int .i64 i, .int .i64 j, .int .i64 k, .slice A qs.length c] 29 (0, 0)) := nnz3.at_
  refine hK' _ _ ?_
  clear hK' K' nnz3 bz4
  go_frame
  refine ls_op rfl (fun K' hK' => ?_)
  have lz6 := hB.size
  have lz7 := hz5.lt
  refine wp_new (some 3) rfl (exec_box 52 _ rfl (#[.int .i64 tp, .int .i64 ti, .int .i64 tj, .int .i64 tk, .slice B xs.length d]) rfl) (fun Wz8 nnz9 => ?_)
  have bz10 := nnz9.below (Below.refl _ _) (Nat.le_refl _)
  replace hB := below_after hB bz10
  replace hz5 := hz5.after bz10
  have hz11 : At Wz8 Wz2.heap.size (.cells #[.int .i64 tp, .int .i64 ti, .int .i64 tj, .int .i64 tk, .slice B xs.length d] 52 (0, 0)) := nnz9.at_
  refine hK' _ _ ?_
  clear hK' K' nnz9 bz10
  go_frame
  refine ls_ex (some 4) (.bool false) rfl rfl (exec_assign _ rfl (.bool false) rfl) ?_
  go_frame
  refine ls_ex (some 5) (.int .i64 0) rfl rfl (exec_assign _ rfl (.int .i64 0) rfl) ?_
  go_frame
  refine wpList_nil ?_
  go_upto_region 1 with (fail)
  refine wp_region_lit ?_
  refine ls_ex (some 9) (.agg #[.int .i64 p, .int .i64 i, .int .i64 j, .int .i64 k, .slice A qs.length c]) rfl rfl (exec_load_all 29 _ rfl w.heap.size rfl _ _ _ hz5 Try.underlying29 rfl 5 (by kernel_rfl) rfl) ?_
  go_frame
  refine ls_op rfl (fun K' hK' => ?_)
  have lz14 := hB.size
  have lz15 := hz5.lt
  have lz16 := hz11.lt
  refine wp_call1 (some 10) rfl 28 _ _ rfl (fun args w => by kernel_rfl) _ rfl _ (l09Is_c p i j k A c qs _ (hR.keep hB) (by omega)) (fun e Wz12 h => ?_)
  obtain ⟨rfl, bz13⟩ := h
  replace hB := below_after hB bz13
  replace hz5 := hz5.after bz13
  replace hz11 := hz11.after bz13
  rw [Hs.out]
  clear bz13
  refine ⟨_, rfl, ?_⟩
  refine hK' _ _ ?_
  clear hK' K'
  go_frame
  refine ls_ex (some 11) (.bool true) rfl rfl (exec_not _ _ rfl false rfl) ?_
  go_frame
  refine ls_ex (some 12) (.bool true) rfl rfl (exec_move _ rfl (.bool true) rfl) ?_
  go_frame
  refine ls_skip_g (some 13) rfl rfl ?_
  go_frame
  refine ls_skip_g (some 14) rfl rfl ?_
  go_frame
  refine ls_skip_g (some 15) rfl rfl ?_
  go_frame
  refine ls_ex (some 16) (.bool true) rfl rfl (exec_pick _ _ _ rfl true rfl (.bool true) rfl) ?_
  go_frame
  refine wpList_nil ?_
  go_upto_region 2 with (fail)
  refine wp_region_lit ?_
  refine ls_ex (some 4) (.bool false) rfl rfl (exec_assign _ rfl (.bool false) rfl) ?_
  go_frame
  refine ls_ex (some 5) (.int .i64 1) rfl rfl (exec_assign _ rfl (.int .i64 1) rfl) ?_
  go_frame
  refine wpList_nil ?_
  go_wp2_with fail
  go_ret2
  exact ⟨by rw [HV.out, HC.out]; rfl, hB⟩
set_option maxHeartbeats 4000000 in
theorem specMf_b (p i j k : Int) (A : Option Addr) (c : Nat) (qs : List (List Nat)) (tp ti tj tk : Int) (B : Option Addr) (d : Nat) (xs : List Int) (w : World) (hR : Rd w A qs) (hlen : qs.length ≤ 1048576) (hX : RdI w B xs) (hxl : xs.length ≤ 1048576) (hs : methB p i j k qs = true) (ht : tenB tp ti tj tk xs = false) :
    Calls Try.prog 23 #[.agg #[.int .i64 p, .int .i64 i, .int .i64 j, .int .i64 k, .slice A qs.length c], .agg #[.int .i64 tp, .int .i64 ti, .int .i64 tj, .int .i64 tk, .slice B xs.length d]] w (fun e w' => e = .returned (.tuple #[.bool (mfB p i j k qs tp ti tj tk xs), .int .i64 (mfCode p i j k qs tp ti tj tk xs)]) ∧ Below w.heap.size w w') := by
  have hB := Below.refl w.heap.size w
  have HC : Hid (mfCode p i j k qs tp ti tj tk xs = 1) := Lib.hid (by simp [mfCode, hs, ht])
  have HV : Hid (mfB p i j k qs tp ti tj tk xs = false) := Lib.hid (by simp [mfB, hs, ht])
  have Hs := Lib.hid hs
  have Ht := Lib.hid ht
  clear hs ht
  go_enter Try.func23, Try.ntmps23
  go_upto_region 0 with (fail)
  refine wp_region_lit ?_
  refine ls_op rfl (fun K' hK' => ?_)
  have lz1 := hB.size
  refine wp_new (some 2) rfl (exec_box 29 _ rfl (#[.int .i64 p, .int .i64 i, .int .i64 j, .int .i64 k, .slice A qs.length c]) rfl) (fun Wz2 nnz3 => ?_)
  have bz4 := nnz3.below (Below.refl _ _) (Nat.le_refl _)
  replace hB := below_after hB bz4
  have hz5 : At Wz2 w.heap.size (.cells #[.int .i64 p, .int .i64 i, .int .i64 j, .int .i64 k, .slice A qs.length c] 29 (0, 0)) := nnz3.at_
  refine hK' _ _ ?_
  clear hK' K' nnz3 bz4
  go_frame
  refine ls_op rfl (fun K' hK' => ?_)
  have lz6 := hB.size
  have lz7 := hz5.lt
  refine wp_new (some 3) rfl (exec_box 52 _ rfl (#[.int .i64 tp, .int .i64 ti, .int .i64 tj, .int .i64 tk, .slice B xs.length d]) rfl) (fun Wz8 nnz9 => ?_)
  have bz10 := nnz9.below (Below.refl _ _) (Nat.le_refl _)
  replace hB := below_after hB bz10
  replace hz5 := hz5.after bz10
  have hz11 : At Wz8 Wz2.heap.size (.cells #[.int .i64 tp, .int .i64 ti, .int .i64 tj, .int .i64 tk, .slice B xs.length d] 52 (0, 0)) := nnz9.at_
  refine hK' _ _ ?_
  clear hK' K' nnz9 bz10
  go_frame
  refine ls_ex (some 4) (.bool false) rfl rfl (exec_assign _ rfl (.bool false) rfl) ?_
  go_frame
  refine ls_ex (some 5) (.int .i64 0) rfl rfl (exec_assign _ rfl (.int .i64 0) rfl) ?_
  go_frame
  refine wpList_nil ?_
  go_upto_region 1 with (fail)
  refine wp_region_lit ?_
  refine ls_ex (some 9) (.agg #[.int .i64 p, .int .i64 i, .int .i64 j, .int .i64 k, .slice A qs.length c]) rfl rfl (exec_load_all 29 _ rfl w.heap.size rfl _ _ _ hz5 Try.underlying29 rfl 5 (by kernel_rfl) rfl) ?_
  go_frame
  refine ls_op rfl (fun K' hK' => ?_)
  have lz14 := hB.size
  have lz15 := hz5.lt
  have lz16 := hz11.lt
  refine wp_call1 (some 10) rfl 28 _ _ rfl (fun args w => by kernel_rfl) _ rfl _ (l09Is_c p i j k A c qs _ (hR.keep hB) (by omega)) (fun e Wz12 h => ?_)
  obtain ⟨rfl, bz13⟩ := h
  replace hB := below_after hB bz13
  replace hz5 := hz5.after bz13
  replace hz11 := hz11.after bz13
  rw [Hs.out]
  clear bz13
  refine ⟨_, rfl, ?_⟩
  refine hK' _ _ ?_
  clear hK' K'
  go_frame
  refine ls_ex (some 11) (.bool false) rfl rfl (exec_not _ _ rfl true rfl) ?_
  go_frame
  refine ls_ex (some 12) (.bool false) rfl rfl (exec_move _ rfl (.bool false) rfl) ?_
  go_frame
  refine ls_ex_g (some 13) (.agg #[.int .i64 tp, .int .i64 ti, .int .i64 tj, .int .i64 tk, .slice B xs.length d]) rfl rfl (exec_load_all 52 _ rfl Wz2.heap.size rfl _ _ _ hz11 Try.underlying52 rfl 5 (by kernel_rfl) rfl) ?_
  go_frame
  refine ls_op_g rfl (fun K' hK' => ?_)
  have lz19 := hB.size
  have lz20 := hz5.lt
  have lz21 := hz11.lt
  refine wp_call1 (some 14) rfl 45 _ _ rfl (fun args w => by kernel_rfl) _ rfl _ (l05Is_c tp ti tj tk B d xs _ (hX.keep hB) hxl) (fun e Wz17 h => ?_)
  obtain ⟨rfl, bz18⟩ := h
  replace hB := below_after hB bz18
  replace hz5 := hz5.after bz18
  replace hz11 := hz11.after bz18
  rw [Ht.out]
  clear bz18
  refine ⟨_, rfl, ?_⟩
  refine hK' _ _ ?_
  clear hK' K'
  go_frame
  refine ls_ex_g (some 15) (.bool true) rfl rfl (exec_not _ _ rfl false rfl) ?_
  go_frame
  refine ls_ex (some 16) (.bool true) rfl rfl (exec_pick _ _ _ rfl false rfl (.bool true) rfl) ?_
  go_frame
  refine wpList_nil ?_
  go_upto_region 2 with (fail)
  refine wp_region_lit ?_
  refine ls_ex (some 4) (.bool false) rfl rfl (exec_assign _ rfl (.bool false) rfl) ?_
  go_frame
  refine ls_ex (some 5) (.int .i64 1) rfl rfl (exec_assign _ rfl (.int .i64 1) rfl) ?_
  go_frame
  refine wpList_nil ?_
  go_wp2_with fail
  go_ret2
  exact ⟨by rw [HV.out, HC.out]; rfl, hB⟩
set_option maxHeartbeats 25600000 in
theorem specMf_q0 (P N0 N1 N2 : Nat) (A : Option Addr) (c : Nat) (qs : List (List Nat)) (tp ti tj tk : Int) (B : Option Addr) (d : Nat) (xs : List Int) (w : World) (hR : Rd w A qs) (hlen : qs.length ≤ 30) (hX : RdI w B xs) (hxl : xs.length ≤ 1048576) (hP : 2 ≤ P ∧ P ≤ 5) (l0 : 1 ≤ N0 ∧ N0 ≤ 9) (l1 : 1 ≤ N1 ∧ N1 ≤ 9) (l2 : 1 ≤ N2 ∧ N2 ≤ 9) (hs : methB P N0 N1 N2 qs = true) (ht : tenB tp ti tj tk xs = true) (hq0 : ((P : Int) == tp) = false) :
    Calls Try.prog 23 #[.agg #[.int .i64 P, .int .i64 N0, .int .i64 N1, .int .i64 N2, .slice A qs.length c], .agg #[.int .i64 tp, .int .i64 ti, .int .i64 tj, .int .i64 tk, .slice B xs.length d]] w (fun e w' => e = .returned (.tuple #[.bool (mfB P N0 N1 N2 qs tp ti tj tk xs), .int .i64 (mfCode P N0 N1 N2 qs tp ti tj tk xs)]) ∧ Below w.heap.size w w') := by
  have hB := Below.refl w.heap.size w
  have HC : Hid (mfCode P N0 N1 N2 qs tp ti tj tk xs = 0) := Lib.hid (by simp [mfCode, hs, ht])
  have Hs := Lib.hid hs
  have Ht := Lib.hid ht
  obtain ⟨N, hNt⟩ : ∃ N, (topL P N0 N1 N2 qs).length = N := ⟨_, rfl⟩
  have HNt := Lib.hid hNt
  have HV : Hid (mfB P N0 N1 N2 qs tp ti tj tk xs = false) := Lib.hid (by unfold mfB; rw [hq0]; simp)
  have HQ0 := Lib.hid hq0
  clear hs ht hNt hq0
  go_enter Try.func23, Try.ntmps23
  go_upto_region 0 with (fail)
  refine wp_region_lit ?_
  refine ls_op rfl (fun K' hK' => ?_)
  have lz1 := hB.size
  refine wp_new (some 2) rfl (exec_box 29 _ rfl (#[.int .i64 P, .int .i64 N0, .int .i64 N1, .int .i64 N2, .slice A qs.length c]) rfl) (fun Wz2 nnz3 => ?_)
  have bz4 := nnz3.below (Below.refl _ _) (Nat.le_refl _)
  replace hB := below_after hB bz4
  have hz5 : At Wz2 w.heap.size (.cells #[.int .i64 P, .int .i64 N0, .int .i64 N1, .int .i64 N2, .slice A qs.length c] 29 (0, 0)) := nnz3.at_
  refine hK' _ _ ?_
  clear hK' K' nnz3 bz4
  go_frame
  refine ls_op rfl (fun K' hK' => ?_)
  have lz6 := hB.size
  have lz7 := hz5.lt
  refine wp_new (some 3) rfl (exec_box 52 _ rfl (#[.int .i64 tp, .int .i64 ti, .int .i64 tj, .int .i64 tk, .slice B xs.length d]) rfl) (fun Wz8 nnz9 => ?_)
  have bz10 := nnz9.below (Below.refl _ _) (Nat.le_refl _)
  replace hB := below_after hB bz10
  replace hz5 := hz5.after bz10
  have hz11 : At Wz8 Wz2.heap.size (.cells #[.int .i64 tp, .int .i64 ti, .int .i64 tj, .int .i64 tk, .slice B xs.length d] 52 (0, 0)) := nnz9.at_
  refine hK' _ _ ?_
  clear hK' K' nnz9 bz10
  go_frame
  refine ls_ex (some 4) (.bool false) rfl rfl (exec_assign _ rfl (.bool false) rfl) ?_
  go_frame
  refine ls_ex (some 5) (.int .i64 0) rfl rfl (exec_assign _ rfl (.int .i64 0) rfl) ?_
  go_frame
  refine wpList_nil ?_
  go_upto_region 1 with (fail)
  refine wp_region_lit ?_
  refine ls_ex (some 9) (.agg #[.int .i64 P, .int .i64 N0, .int .i64 N1, .int .i64 N2, .slice A qs.length c]) rfl rfl (exec_load_all 29 _ rfl w.heap.size rfl _ _ _ hz5 Try.underlying29 rfl 5 (by kernel_rfl) rfl) ?_
  go_frame
  refine ls_op rfl (fun K' hK' => ?_)
  have lz14 := hB.size
  have lz15 := hz5.lt
  have lz16 := hz11.lt
  refine wp_call1 (some 10) rfl 28 _ _ rfl (fun args w => by kernel_rfl) _ rfl _ (l09Is_c P N0 N1 N2 A c qs _ (hR.keep hB) (by omega)) (fun e Wz12 h => ?_)
  obtain ⟨rfl, bz13⟩ := h
  replace hB := below_after hB bz13
  replace hz5 := hz5.after bz13
  replace hz11 := hz11.after bz13
  rw [Hs.out]
  clear bz13
  refine ⟨_, rfl, ?_⟩
  refine hK' _ _ ?_
  clear hK' K'
  go_frame
  refine ls_ex (some 11) (.bool false) rfl rfl (exec_not _ _ rfl true rfl) ?_
  go_frame
  refine ls_ex (some 12) (.bool false) rfl rfl (exec_move _ rfl (.bool false) rfl) ?_
  go_frame
  refine ls_ex_g (some 13) (.agg #[.int .i64 tp, .int .i64 ti, .int .i64 tj, .int .i64 tk, .slice B xs.length d]) rfl rfl (exec_load_all 52 _ rfl Wz2.heap.size rfl _ _ _ hz11 Try.underlying52 rfl 5 (by kernel_rfl) rfl) ?_
  go_frame
  refine ls_op_g rfl (fun K' hK' => ?_)
  have lz19 := hB.size
  have lz20 := hz5.lt
  have lz21 := hz11.lt
  refine wp_call1 (some 14) rfl 45 _ _ rfl (fun args w => by kernel_rfl) _ rfl _ (l05Is_c tp ti tj tk B d xs _ (hX.keep hB) hxl) (fun e Wz17 h => ?_)
  obtain ⟨rfl, bz18⟩ := h
  replace hB := below_after hB bz18
  replace hz5 := hz5.after bz18
  replace hz11 := hz11.after bz18
  rw [Ht.out]
  clear bz18
  refine ⟨_, rfl, ?_⟩
  refine hK' _ _ ?_
  clear hK' K'
  go_frame
  refine ls_ex_g (some 15) (.bool false) rfl rfl (exec_not _ _ rfl true rfl) ?_
  go_frame
  refine ls_ex (some 16) (.bool false) rfl rfl (exec_pick _ _ _ rfl false rfl (.bool false) rfl) ?_
  go_frame
  refine wpList_nil ?_
  go_upto_region 3 with (fail)
  refine wp_region_lit ?_
  refine ls_ex (some 17) (.agg #[.int .i64 P, .int .i64 N0, .int .i64 N1, .int .i64 N2, .slice A qs.length c]) rfl rfl (exec_load_all 29 _ rfl w.heap.size rfl _ _ _ hz5 Try.underlying29 rfl 5 (by kernel_rfl) rfl) ?_
  go_frame
  refine ls_op rfl (fun K' hK' => ?_)
  have lz24 := hB.size
  have lz25 := hz5.lt
  have lz26 := hz11.lt
  refine wp_call1 (some 18) rfl 46 _ _ rfl (fun args w => by kernel_rfl) _ rfl _ (l09Tensor_c P N0 N1 N2 A c qs _ (hR.keep hB) hlen hP l0 l1 l2) (fun e Wz22 h => ?_)
  obtain ⟨v7, rfl, ho, bz23⟩ := h
  replace hB := below_after hB bz23
  replace hz5 := hz5.after bz23
  replace hz11 := hz11.after bz23
  obtain ⟨A7, c7, rfl, _⟩ := ho.rd
  rw [HNt.out] at ho ⊢
  clear bz23
  refine ⟨_, rfl, ?_⟩
  refine hK' _ _ ?_
  clear hK' K'
  go_frame
  refine ls_op rfl (fun K' hK' => ?_)
  have lz27 := hB.size
  have lz28 := hz5.lt
  have lz29 := hz11.lt
  have naz34 := ho.newP_ne
  refine wp_new (some 6) rfl (al_impl_Tensor rfl) (fun Wz30 nnz31 => ?_)
  have bz32 := nnz31.below (Below.refl _ _) (Nat.le_refl _)
  replace hB := below_after hB bz32
  replace hz5 := hz5.after bz32
  replace hz11 := hz11.after bz32
  replace ho := ho.below bz32
  have hz33 : At Wz30 Wz22.heap.size (.cells #[.int .i64 0, .int .i64 0, .int .i64 0, .int .i64 0, .slice none 0 0] 52 (0, 0)) := nnz31.at_
  refine hK' _ _ ?_
  clear hK' K' nnz31 bz32
  go_frame
  refine ls_op rfl (fun K' hK' => ?_)
  refine wp_store_all 52 _ _ rfl rfl Wz22.heap.size rfl #[.int .i64 P, .int .i64 N0, .int .i64 N1, .int .i64 N2, .slice A7 N c7] rfl _ _ hz33 5 (by kernel_rfl) rfl rfl (one5 _ _ _ _ _ _ _) (fun Wz35 pz36 => ?_)
  replace hB := pz36.below hB (by omega)
  replace hz5 := pz36.other hz5 (by omega)
  replace hz11 := pz36.other hz11 (by omega)
  replace ho := ho.put pz36 naz34
  replace hz33 : At Wz35 Wz22.heap.size (.cells #[.int .i64 P, .int .i64 N0, .int .i64 N1, .int .i64 N2, .slice A7 N c7] 52 (0, 0)) := pz36.at_
  refine hK' _ _ ?_
  clear hK' K' pz36
  refine wpList_nil ?_
  go_upto_region 4 with (fail)
  refine wp_region_lit ?_
  refine ls_ex (some 19) (.pointer (some ⟨Wz22.heap.size, 0, none⟩)) rfl rfl (exec_fieldAddr 52 _ 0 rfl _ (by kernel_rfl)) ?_
  go_frame
  refine ls_ex (some 20) (.int .i64 P) rfl rfl (exec_load_one 2 _ rfl Wz22.heap.size 0 rfl (.int .i64 P) _ Try.underlying2 rfl (hz33.at_ 0)) ?_
  go_frame
  refine ls_ex (some 21) (.pointer (some ⟨Wz2.heap.size, 0, none⟩)) rfl rfl (exec_fieldAddr 52 _ 0 rfl _ (by kernel_rfl)) ?_
  go_frame
  refine ls_ex (some 22) (.int .i64 tp) rfl rfl (exec_load_one 2 _ rfl Wz2.heap.size 0 rfl (.int .i64 tp) _ Try.underlying2 rfl (hz11.at_ 0)) ?_
  go_frame
  refine ls_ex (some 23) (.bool false) rfl rfl (exec_eql _ _ _ _ rfl P tp rfl rfl false HQ0.out) ?_
  go_frame
  refine ls_ex (some 24) (.bool false) rfl rfl (exec_move _ rfl (.bool false) rfl) ?_
  go_frame
  refine ls_skip_g (some 25) rfl rfl ?_
  go_frame
  refine ls_skip_g (some 26) rfl rfl ?_
  go_frame
  refine ls_skip_g (some 27) rfl rfl ?_
  go_frame
  refine ls_skip_g (some 28) rfl rfl ?_
  go_frame
  refine ls_skip_g (some 29) rfl rfl ?_
  go_frame
  refine ls_ex (some 30) (.bool false) rfl rfl (exec_pick _ _ _ rfl false rfl (.bool false) rfl) ?_
  go_frame
  refine ls_ex (some 31) (.bool false) rfl rfl (exec_move _ rfl (.bool false) rfl) ?_
  go_frame
  refine ls_skip_g (some 32) rfl rfl ?_
  go_frame
  refine ls_skip_g (some 33) rfl rfl ?_
  go_frame
  refine ls_skip_g (some 34) rfl rfl ?_
  go_frame
  refine ls_skip_g (some 35) rfl rfl ?_
  go_frame
  refine ls_skip_g (some 36) rfl rfl ?_
  go_frame
  refine ls_ex (some 37) (.bool false) rfl rfl (exec_pick _ _ _ rfl false rfl (.bool false) rfl) ?_
  go_frame
  refine ls_ex (some 38) (.bool false) rfl rfl (exec_move _ rfl (.bool false) rfl) ?_
  go_frame
  refine ls_skip_g (some 39) rfl rfl ?_
  go_frame
  refine ls_skip_g (some 40) rfl rfl ?_
  go_frame
  refine ls_skip_g (some 41) rfl rfl ?_
  go_frame
  refine ls_skip_g (some 42) rfl rfl ?_
  go_frame
  refine ls_skip_g (some 43) rfl rfl ?_
  go_frame
  refine ls_ex (some 44) (.bool false) rfl rfl (exec_pick _ _ _ rfl false rfl (.bool false) rfl) ?_
  go_frame
  refine ls_ex (some 7) (.bool false) rfl rfl (exec_assign _ rfl (.bool false) rfl) ?_
  go_frame
  refine wpList_nil ?_
  go_upto_region 5 with (fail)
  refine wp_region_lit ?_
  refine ls_ex (some 8) (.int .i64 0) rfl rfl (exec_assign _ rfl (.int .i64 0) rfl) ?_
  go_frame
  refine wpList_nil ?_
  go_wp2_with fail
  go_loopw [7, 8] (fun s7 s8 wr => s7 = .bool false ∧ s8 = .int .i64 0 ∧ Below w.heap.size w wr ∧ At wr w.heap.size (.cells #[.int .i64 P, .int .i64 N0, .int .i64 N1, .int .i64 N2, .slice A qs.length c] 29 (0, 0)) ∧ At wr Wz2.heap.size (.cells #[.int .i64 tp, .int .i64 ti, .int .i64 tj, .int .i64 tk, .slice B xs.length d] 52 (0, 0)) ∧ At wr Wz22.heap.size (.cells #[.int .i64 P, .int .i64 N0, .int .i64 N1, .int .i64 N2, .slice A7 N c7] 52 (0, 0)) ∧ OwnI wr Wz17.heap.size (.slice A7 N c7) (topL P N0 N1 N2 qs)) (fun _ _ _ => 0)
  case atStart => exact ⟨rfl, rfl, hB, hz5, hz11, hz33, ho⟩
  case round =>
    clear hB hz5 hz11 ho hz33
    obtain ⟨rfl, rfl, hB, h0, h1, h2, ho⟩ := hrel
    by_cases hlt : 0 < xs.length
    · go_upto_region 6 with (fail)
      refine wp_region_lit ?_
      refine ls_ex (some 45) (.int .i64 0) rfl rfl (exec_move _ rfl (.int .i64 0) rfl) ?_
      go_frame
      refine ls_ex (some 46) (.pointer (some ⟨Wz2.heap.size, 4, none⟩)) rfl rfl (exec_fieldAddr 52 _ 4 rfl _ (by kernel_rfl)) ?_
      go_frame
      refine ls_ex (some 47) (.slice B xs.length d) rfl rfl (exec_load_one 46 _ rfl Wz2.heap.size 4 rfl (.slice B xs.length d) _ Try.underlying46 rfl (h1.at_ 4)) ?_
      go_frame
      refine ls_ex (some 48) (.int .i64 xs.length) rfl rfl (exec_len _ 46 2 rfl B xs.length d rfl Try.underlying46) ?_
      go_frame
      refine ls_ex (some 49) (.bool true) rfl rfl (exec_lss _ _ _ _ rfl 0 xs.length rfl rfl true (decide_eq_true (by omega))) ?_
      go_frame
      refine ls_ex (some 50) (.bool true) rfl rfl (exec_move _ rfl (.bool true) rfl) ?_
      go_frame
      refine ls_ex_g (some 51) (.bool false) rfl rfl (exec_move _ rfl (.bool false) rfl) ?_
      go_frame
      refine ls_ex (some 52) (.bool false) rfl rfl (exec_pick _ _ _ rfl true rfl (.bool false) rfl) ?_
      go_frame
      refine wpList_nil ?_
      go_upto_region 9 with (fail)
      refine wp_region_lit ?_
      refine ls_ex (some 66) (.bool false) rfl rfl (exec_move _ rfl (.bool false) rfl) ?_
      go_frame
      refine ls_ex (some 4) (.bool false) rfl rfl (exec_assign _ rfl (.bool false) rfl) ?_
      go_frame
      refine ls_ex (some 5) (.int .i64 0) rfl rfl (exec_assign _ rfl (.int .i64 0) rfl) ?_
      go_frame
      refine wpList_nil ?_
      go_wp2_with fail
      go_ret2
      exact ⟨by rw [HV.out, HC.out]; rfl, hB⟩
    · go_upto_region 6 with (fail)
      refine wp_region_lit ?_
      refine ls_ex (some 45) (.int .i64 0) rfl rfl (exec_move _ rfl (.int .i64 0) rfl) ?_
      go_frame
      refine ls_ex (some 46) (.pointer (some ⟨Wz2.heap.size, 4, none⟩)) rfl rfl (exec_fieldAddr 52 _ 4 rfl _ (by kernel_rfl)) ?_
      go_frame
      refine ls_ex (some 47) (.slice B xs.length d) rfl rfl (exec_load_one 46 _ rfl Wz2.heap.size 4 rfl (.slice B xs.length d) _ Try.underlying46 rfl (h1.at_ 4)) ?_
      go_frame
      refine ls_ex (some 48) (.int .i64 xs.length) rfl rfl (exec_len _ 46 2 rfl B xs.length d rfl Try.underlying46) ?_
      go_frame
      refine ls_ex (some 49) (.bool false) rfl rfl (exec_lss _ _ _ _ rfl 0 xs.length rfl rfl false (decide_eq_false (by omega))) ?_
      go_frame
      refine ls_ex (some 50) (.bool false) rfl rfl (exec_move _ rfl (.bool false) rfl) ?_
      go_frame
      refine ls_skip_g (some 51) rfl rfl ?_
      go_frame
      refine ls_ex (some 52) (.bool false) rfl rfl (exec_pick _ _ _ rfl false rfl (.bool false) rfl) ?_
      go_frame
      refine wpList_nil ?_
      go_upto_region 9 with (fail)
      refine wp_region_lit ?_
      refine ls_ex (some 66) (.bool false) rfl rfl (exec_move _ rfl (.bool false) rfl) ?_
      go_frame
      refine ls_ex (some 4) (.bool false) rfl rfl (exec_assign _ rfl (.bool false) rfl) ?_
      go_frame
      refine ls_ex (some 5) (.int .i64 0) rfl rfl (exec_assign _ rfl (.int .i64 0) rfl) ?_
      go_frame
      refine wpList_nil ?_
      go_wp2_with fail
      go_ret2
      exact ⟨by rw [HV.out, HC.out]; rfl, hB⟩
set_option maxHeartbeats 25600000 in
theorem specMf_q1 (P N0 N1 N2 : Nat) (A : Option Addr) (c : Nat) (qs : List (List Nat)) (tp ti tj tk : Int) (B : Option Addr) (d : Nat) (xs : List Int) (w : World) (hR : Rd w A qs) (hlen : qs.length ≤ 30) (hX : RdI w B xs) (hxl : xs.length ≤ 1048576) (hP : 2 ≤ P ∧ P ≤ 5) (l0 : 1 ≤ N0 ∧ N0 ≤ 9) (l1 : 1 ≤ N1 ∧ N1 ≤ 9) (l2 : 1 ≤ N2 ∧ N2 ≤ 9) (hs : methB P N0 N1 N2 qs = true) (ht : tenB tp ti tj tk xs = true) (hq0 : ((P : Int) == tp) = true) (hq1 : ((N0 : Int) == ti) = false) :
    Calls Try.prog 23 #[.agg #[.int .i64 P, .int .i64 N0, .int .i64 N1, .int .i64 N2, .slice A qs.length c], .agg #[.int .i64 tp, .int .i64 ti, .int .i64 tj, .int .i64 tk, .slice B xs.length d]] w (fun e w' => e = .returned (.tuple #[.bool (mfB P N0 N1 N2 qs tp ti tj tk xs), .int .i64 (mfCode P N0 N1 N2 qs tp ti tj tk xs)]) ∧ Below w.heap.size w w') := by
  have hB := Below.refl w.heap.size w
  have HC : Hid (mfCode P N0 N1 N2 qs tp ti tj tk xs = 0) := Lib.hid (by simp [mfCode, hs, ht])
  have Hs := Lib.hid hs
  have Ht := Lib.hid ht
  obtain ⟨N, hNt⟩ : ∃ N, (topL P N0 N1 N2 qs).length = N := ⟨_, rfl⟩
  have HNt := Lib.hid hNt
  have HV : Hid (mfB P N0 N1 N2 qs tp ti tj tk xs = false) := Lib.hid (by unfold mfB; rw [hq0, hq1]; simp)
  have HQ0 := Lib.hid hq0
  have HQ1 := Lib.hid hq1
  clear hs ht hNt hq0 hq1
  go_enter Try.func23, Try.ntmps23
  go_upto_region 0 with (fail)
  refine wp_region_lit ?_
  refine ls_op rfl (fun K' hK' => ?_)
  have lz1 := hB.size
  refine wp_new (some 2) rfl (exec_box 29 _ rfl (#[.int .i64 P, .int .i64 N0, .int .i64 N1, .int .i64 N2, .slice A qs.length c]) rfl) (fun Wz2 nnz3 => ?_)
  have bz4 := nnz3.below (Below.refl _ _) (Nat.le_refl _)
  replace hB := below_after hB bz4
  have hz5 : At Wz2 w.heap.size (.cells #[.int .i64 P, .int .i64 N0, .int .i64 N1, .int .i64 N2, .slice A qs.length c] 29 (0, 0)) := nnz3.at_
  refine hK' _ _ ?_
  clear hK' K' nnz3 bz4
  go_frame
  refine ls_op rfl (fun K' hK' => ?_)
  have lz6 := hB.size
  have lz7 := hz5.lt
  refine wp_new (some 3) rfl (exec_box 52 _ rfl (#[.int .i64 tp, .int .i64 ti, .int .i64 tj, .int .i64 tk, .slice B xs.length d]) rfl) (fun Wz8 nnz9 => ?_)
  have bz10 := nnz9.below (Below.refl _ _) (Nat.le_refl _)
  replace hB := below_after hB bz10
  replace hz5 := hz5.after bz10
  have hz11 : At Wz8 Wz2.heap.size (.cells #[.int .i64 tp, .int .i64 ti, .int .i64 tj, .int .i64 tk, .slice B xs.length d] 52 (0, 0)) := nnz9.at_
  refine hK' _ _ ?_
  clear hK' K' nnz9 bz10
  go_frame
  refine ls_ex (some 4) (.bool false) rfl rfl (exec_assign _ rfl (.bool false) rfl) ?_
  go_frame
  refine ls_ex (some 5) (.int .i64 0) rfl rfl (exec_assign _ rfl (.int .i64 0) rfl) ?_
  go_frame
  refine wpList_nil ?_
  go_upto_region 1 with (fail)
  refine wp_region_lit ?_
  refine ls_ex (some 9) (.agg #[.int .i64 P, .int .i64 N0, .int .i64 N1, .int .i64 N2, .slice A qs.length c]) rfl rfl (exec_load_all 29 _ rfl w.heap.size rfl _ _ _ hz5 Try.underlying29 rfl 5 (by kernel_rfl) rfl) ?_
  go_frame
  refine ls_op rfl (fun K' hK' => ?_)
  have lz14 := hB.size
  have lz15 := hz5.lt
  have lz16 := hz11.lt
  refine wp_call1 (some 10) rfl 28 _ _ rfl (fun args w => by kernel_rfl) _ rfl _ (l09Is_c P N0 N1 N2 A c qs _ (hR.keep hB) (by omega)) (fun e Wz12 h => ?_)
  obtain ⟨rfl, bz13⟩ := h
  replace hB := below_after hB bz13
  replace hz5 := hz5.after bz13
  replace hz11 := hz11.after bz13
  rw [Hs.out]
  clear bz13
  refine ⟨_, rfl, ?_⟩
  refine hK' _ _ ?_
  clear hK' K'
  go_frame
  refine ls_ex (some 11) (.bool false) rfl rfl (exec_not _ _ rfl true rfl) ?_
  go_frame
  refine ls_ex (some 12) (.bool false) rfl rfl (exec_move _ rfl (.bool false) rfl) ?_
  go_frame
  refine ls_ex_g (some 13) (.agg #[.int .i64 tp, .int .i64 ti, .int .i64 tj, .int .i64 tk, .slice B xs.length d]) rfl rfl (exec_load_all 52 _ rfl Wz2.heap.size rfl _ _ _ hz11 Try.underlying52 rfl 5 (by kernel_rfl) rfl) ?_
  go_frame
  refine ls_op_g rfl (fun K' hK' => ?_)
  have lz19 := hB.size
  have lz20 := hz5.lt
  have lz21 := hz11.lt
  refine wp_call1 (some 14) rfl 45 _ _ rfl (fun args w => by kernel_rfl) _ rfl _ (l05Is_c tp ti tj tk B d xs _ (hX.keep hB) hxl) (fun e Wz17 h => ?_)
  obtain ⟨rfl, bz18⟩ := h
  replace hB := below_after hB bz18
  replace hz5 := hz5.after bz18
  replace hz11 := hz11.after bz18
  rw [Ht.out]
  clear bz18
  refine ⟨_, rfl, ?_⟩
  refine hK' _ _ ?_
  clear hK' K'
  go_frame
  refine ls_ex_g (some 15) (.bool false) rfl rfl (exec_not _ _ rfl true rfl) ?_
  go_frame
  refine ls_ex (some 16) (.bool false) rfl rfl (exec_pick _ _ _ rfl false rfl (.bool false) rfl) ?_
  go_frame
  refine wpList_nil ?_
  go_upto_region 3 with (fail)
  refine wp_region_lit ?_
  refine ls_ex (some 17) (.agg #[.int .i64 P, .int .i64 N0, .int .i64 N1, .int .i64 N2, .slice A qs.length c]) rfl rfl (exec_load_all 29 _ rfl w.heap.size rfl _ _ _ hz5 Try.underlying29 rfl 5 (by kernel_rfl) rfl) ?_
  go_frame
  refine ls_op rfl (fun K' hK' => ?_)
  have lz24 := hB.size
  have lz25 := hz5.lt
  have lz26 := hz11.lt
  refine wp_call1 (some 18) rfl 46 _ _ rfl (fun args w => by kernel_rfl) _ rfl _ (l09Tensor_c P N0 N1 N2 A c qs _ (hR.keep hB) hlen hP l0 l1 l2) (fun e Wz22 h => ?_)
  obtain ⟨v7, rfl, ho, bz23⟩ := h
  replace hB := below_after hB bz23
  replace hz5 := hz5.after bz23
  replace hz11 := hz11.after bz23
  obtain ⟨A7, c7, rfl, _⟩ := ho.rd
  rw [HNt.out] at ho ⊢
  clear bz23
  refine ⟨_, rfl, ?_⟩
  refine hK' _ _ ?_
  clear hK' K'
  go_frame
  refine ls_op rfl (fun K' hK' => ?_)
  have lz27 := hB.size
  have lz28 := hz5.lt
  have lz29 := hz11.lt
  have naz34 := ho.newP_ne
  refine wp_new (some 6) rfl (al_impl_Tensor rfl) (fun Wz30 nnz31 => ?_)
  have bz32 := nnz31.below (Below.refl _ _) (Nat.le_refl _)
  replace hB := below_after hB bz32
  replace hz5 := hz5.after bz32
  replace hz11 := hz11.after bz32
  replace ho := ho.below bz32
  have hz33 : At Wz30 Wz22.heap.size (.cells #[.int .i64 0, .int .i64 0, .int .i64 0, .int .i64 0, .slice none 0 0] 52 (0, 0)) := nnz31.at_
  refine hK' _ _ ?_
  clear hK' K' nnz31 bz32
  go_frame
  refine ls_op rfl (fun K' hK' => ?_)
  refine wp_store_all 52 _ _ rfl rfl Wz22.heap.size rfl #[.int .i64 P, .int .i64 N0, .int .i64 N1, .int .i64 N2, .slice A7 N c7] rfl _ _ hz33 5 (by kernel_rfl) rfl rfl (one5 _ _ _ _ _ _ _) (fun Wz35 pz36 => ?_)
  replace hB := pz36.below hB (by omega)
  replace hz5 := pz36.other hz5 (by omega)
  replace hz11 := pz36.other hz11 (by omega)
  replace ho := ho.put pz36 naz34
  replace hz33 : At Wz35 Wz22.heap.size (.cells #[.int .i64 P, .int .i64 N0, .int .i64 N1, .int .i64 N2, .slice A7 N c7] 52 (0, 0)) := pz36.at_
  refine hK' _ _ ?_
  clear hK' K' pz36
  refine wpList_nil ?_
  go_upto_region 4 with (fail)
  refine wp_region_lit ?_
  refine ls_ex (some 19) (.pointer (some ⟨Wz22.heap.size, 0, none⟩)) rfl rfl (exec_fieldAddr 52 _ 0 rfl _ (by kernel_rfl)) ?_
  go_frame
  refine ls_ex (some 20) (.int .i64 P) rfl rfl (exec_load_one 2 _ rfl Wz22.heap.size 0 rfl (.int .i64 P) _ Try.underlying2 rfl (hz33.at_ 0)) ?_
  go_frame
  refine ls_ex (some 21) (.pointer (some ⟨Wz2.heap.size, 0, none⟩)) rfl rfl (exec_fieldAddr 52 _ 0 rfl _ (by kernel_rfl)) ?_
  go_frame
  refine ls_ex (some 22) (.int .i64 tp) rfl rfl (exec_load_one 2 _ rfl Wz2.heap.size 0 rfl (.int .i64 tp) _ Try.underlying2 rfl (hz11.at_ 0)) ?_
  go_frame
  refine ls_ex (some 23) (.bool true) rfl rfl (exec_eql _ _ _ _ rfl P tp rfl rfl true HQ0.out) ?_
  go_frame
  refine ls_ex (some 24) (.bool true) rfl rfl (exec_move _ rfl (.bool true) rfl) ?_
  go_frame
  refine ls_ex_g (some 25) (.pointer (some ⟨Wz22.heap.size, 1, none⟩)) rfl rfl (exec_fieldAddr 52 _ 1 rfl _ (by kernel_rfl)) ?_
  go_frame
  refine ls_ex_g (some 26) (.int .i64 N0) rfl rfl (exec_load_one 2 _ rfl Wz22.heap.size 1 rfl (.int .i64 N0) _ Try.underlying2 rfl (hz33.at_ 1)) ?_
  go_frame
  refine ls_ex_g (some 27) (.pointer (some ⟨Wz2.heap.size, 1, none⟩)) rfl rfl (exec_fieldAddr 52 _ 1 rfl _ (by kernel_rfl)) ?_
  go_frame
  refine ls_ex_g (some 28) (.int .i64 ti) rfl rfl (exec_load_one 2 _ rfl Wz2.heap.size 1 rfl (.int .i64 ti) _ Try.underlying2 rfl (hz11.at_ 1)) ?_
  go_frame
  refine ls_ex_g (some 29) (.bool false) rfl rfl (exec_eql _ _ _ _ rfl N0 ti rfl rfl false HQ1.out) ?_
  go_frame
  refine ls_ex (some 30) (.bool false) rfl rfl (exec_pick _ _ _ rfl true rfl (.bool false) rfl) ?_
  go_frame
  refine ls_ex (some 31) (.bool false) rfl rfl (exec_move _ rfl (.bool false) rfl) ?_
  go_frame
  refine ls_skip_g (some 32) rfl rfl ?_
  go_frame
  refine ls_skip_g (some 33) rfl rfl ?_
  go_frame
  refine ls_skip_g (some 34) rfl rfl ?_
  go_frame
  refine ls_skip_g (some 35) rfl rfl ?_
  go_frame
  refine ls_skip_g (some 36) rfl rfl ?_
  go_frame
  refine ls_ex (some 37) (.bool false) rfl rfl (exec_pick _ _ _ rfl false rfl (.bool false) rfl) ?_
  go_frame
  refine ls_ex (some 38) (.bool false) rfl rfl (exec_move _ rfl (.bool false) rfl) ?_
  go_frame
  refine ls_skip_g (some 39) rfl rfl ?_
  go_frame
  refine ls_skip_g (some 40) rfl rfl ?_
  go_frame
  refine ls_skip_g (some 41) rfl rfl ?_
  go_frame
  refine ls_skip_g (some 42) rfl rfl ?_
  go_frame
  refine ls_skip_g (some 43) rfl rfl ?_
  go_frame
  refine ls_ex (some 44) (.bool false) rfl rfl (exec_pick _ _ _ rfl false rfl (.bool false) rfl) ?_
  go_frame
  refine ls_ex (some 7) (.bool false) rfl rfl (exec_assign _ rfl (.bool false) rfl) ?_
  go_frame
  refine wpList_nil ?_
  go_upto_region 5 with (fail)
  refine wp_region_lit ?_
  refine ls_ex (some 8) (.int .i64 0) rfl rfl (exec_assign _ rfl (.int .i64 0) rfl) ?_
  go_frame
  refine wpList_nil ?_
  go_wp2_with fail
  go_loopw [7, 8] (fun s7 s8 wr => s7 = .bool false ∧ s8 = .int .i64 0 ∧ Below w.heap.size w wr ∧ At wr w.heap.size (.cells #[.int .i64 P, .int .i64 N0, .int .i64 N1, .int .i64 N2, .slice A qs.length c] 29 (0, 0)) ∧ At wr Wz2.heap.size (.cells #[.int .i64 tp, .int .i64 ti, .int .i64 tj, .int .i64 tk, .slice B xs.length d] 52 (0, 0)) ∧ At wr Wz22.heap.size (.cells #[.int .i64 P, .int .i64 N0, .int .i64 N1, .int .i64 N2, .slice A7 N c7] 52 (0, 0)) ∧ OwnI wr Wz17.heap.size (.slice A7 N c7) (topL P N0 N1 N2 qs)) (fun _ _ _ => 0)
  case atStart => exact ⟨rfl, rfl, hB, hz5, hz11, hz33, ho⟩
  case round =>
    clear hB hz5 hz11 ho hz33
    obtain ⟨rfl, rfl, hB, h0, h1, h2, ho⟩ := hrel
    by_cases hlt : 0 < xs.length
    · go_upto_region 6 with (fail)
      refine wp_region_lit ?_
      refine ls_ex (some 45) (.int .i64 0) rfl rfl (exec_move _ rfl (.int .i64 0) rfl) ?_
      go_frame
      refine ls_ex (some 46) (.pointer (some ⟨Wz2.heap.size, 4, none⟩)) rfl rfl (exec_fieldAddr 52 _ 4 rfl _ (by kernel_rfl)) ?_
      go_frame
      refine ls_ex (some 47) (.slice B xs.length d) rfl rfl (exec_load_one 46 _ rfl Wz2.heap.size 4 rfl (.slice B xs.length d) _ Try.underlying46 rfl (h1.at_ 4)) ?_
      go_frame
      refine ls_ex (some 48) (.int .i64 xs.length) rfl rfl (exec_len _ 46 2 rfl B xs.length d rfl Try.underlying46) ?_
      go_frame
      refine ls_ex (some 49) (.bool true) rfl rfl (exec_lss _ _ _ _ rfl 0 xs.length rfl rfl true (decide_eq_true (by omega))) ?_
      go_frame
      refine ls_ex (some 50) (.bool true) rfl rfl (exec_move _ rfl (.bool true) rfl) ?_
      go_frame
      refine ls_ex_g (some 51) (.bool false) rfl rfl (exec_move _ rfl (.bool false) rfl) ?_
      go_frame
      refine ls_ex (some 52) (.bool false) rfl rfl (exec_pick _ _ _ rfl true rfl (.bool false) rfl) ?_
      go_frame
      refine wpList_nil ?_
      go_upto_region 9 with (fail)
      refine wp_region_lit ?_
      refine ls_ex (some 66) (.bool false) rfl rfl (exec_move _ rfl (.bool false) rfl) ?_
      go_frame
      refine ls_ex (some 4) (.bool false) rfl rfl (exec_assign _ rfl (.bool false) rfl) ?_
      go_frame
      refine ls_ex (some 5) (.int .i64 0) rfl rfl (exec_assign _ rfl (.int .i64 0) rfl) ?_
      go_frame
      refine wpList_nil ?_
      go_wp2_with fail
      go_ret2
      exact ⟨by rw [HV.out, HC.out]; rfl, hB⟩
    · go_upto_region 6 with (fail)
      refine wp_region_lit ?_
      refine ls_ex (some 45) (.int .i64 0) rfl rfl (exec_move _ rfl (.int .i64 0) rfl) ?_
      go_frame
      refine ls_ex (some 46) (.pointer (some ⟨Wz2.heap.size, 4, none⟩)) rfl rfl (exec_fieldAddr 52 _ 4 rfl _ (by kernel_rfl)) ?_
      go_frame
      refine ls_ex (some 47) (.slice B xs.length d) rfl rfl (exec_load_one 46 _ rfl Wz2.heap.size 4 rfl (.slice B xs.length d) _ Try.underlying46 rfl (h1.at_ 4)) ?_
      go_frame
      refine ls_ex (some 48) (.int .i64 xs.length) rfl rfl (exec_len _ 46 2 rfl B xs.length d rfl Try.underlying46) ?_
      go_frame
      refine ls_ex (some 49) (.bool false) rfl rfl (exec_lss _ _ _ _ rfl 0 xs.length rfl rfl false (decide_eq_false (by omega))) ?_
      go_frame
      refine ls_ex (some 50) (.bool false) rfl rfl (exec_move _ rfl (.bool false) rfl) ?_
      go_frame
      refine ls_skip_g (some 51) rfl rfl ?_
      go_frame
      refine ls_ex (some 52) (.bool false) rfl rfl (exec_pick _ _ _ rfl false rfl (.bool false) rfl) ?_
      go_frame
      refine wpList_nil ?_
      go_upto_region 9 with (fail)
      refine wp_region_lit ?_
      refine ls_ex (some 66) (.bool false) rfl rfl (exec_move _ rfl (.bool false) rfl) ?_
      go_frame
      refine ls_ex (some 4) (.bool false) rfl rfl (exec_assign _ rfl (.bool false) rfl) ?_
      go_frame
      refine ls_ex (some 5) (.int .i64 0) rfl rfl (exec_assign _ rfl (.int .i64 0) rfl) ?_
      go_frame
      refine wpList_nil ?_
      go_wp2_with fail
      go_ret2
      exact ⟨by rw [HV.out, HC.out]; rfl, hB⟩
set_option maxHeartbeats 25600000 in
theorem specMf_q2 (P N0 N1 N2 : Nat) (A : Option Addr) (c : Nat) (qs : List (List Nat)) (tp ti tj tk : Int) (B : Option Addr) (d : Nat) (xs : List Int) (w : World) (hR : Rd w A qs) (hlen : qs.length ≤ 30) (hX : RdI w B xs) (hxl : xs.length ≤ 1048576) (hP : 2 ≤ P ∧ P ≤ 5) (l0 : 1 ≤ N0 ∧ N0 ≤ 9) (l1 : 1 ≤ N1 ∧ N1 ≤ 9) (l2 : 1 ≤ N2 ∧ N2 ≤ 9) (hs : methB P N0 N1 N2 qs = true) (ht : tenB tp ti tj tk xs = true) (hq0 : ((P : Int) == tp) = true) (hq1 : ((N0 : Int) == ti) = true) (hq2 : ((N1 : Int) == tj) = false) :
    Calls Try.prog 23 #[.agg #[.int .i64 P, .int .i64 N0, .int .i64 N1, .int .i64 N2, .slice A qs.length c], .agg #[.int .i64 tp, .int .i64 ti, .int .i64 tj, .int .i64 tk, .slice B xs.length d]] w (fun e w' => e = .returned (.tuple #[.bool (mfB P N0 N1 N2 qs tp ti tj tk xs), .int .i64 (mfCode P N0 N1 N2 qs tp ti tj tk xs)]) ∧ Below w.heap.size w w') := by
  have hB := Below.refl w.heap.size w
  have HC : Hid (mfCode P N0 N1 N2 qs tp ti tj tk xs = 0) := Lib.hid (by simp [mfCode, hs, ht])
  have Hs := Lib.hid hs
  have Ht := Lib.hid ht
  obtain ⟨N, hNt⟩ : ∃ N, (topL P N0 N1 N2 qs).length = N := ⟨_, rfl⟩
  have HNt := Lib.hid hNt
  have HV : Hid (mfB P N0 N1 N2 qs tp ti tj tk xs = false) := Lib.hid (by unfold mfB; rw [hq0, hq1, hq2]; simp)
  have HQ0 := Lib.hid hq0
  have HQ1 := Lib.hid hq1
  have HQ2 := Lib.hid hq2
  clear hs ht hNt hq0 hq1 hq2
  go_enter Try.func23, Try.ntmps23
  go_upto_region 0 with (fail)
  refine wp_region_lit ?_
  refine ls_op rfl (fun K' hK' => ?_)
  have lz1 := hB.size
  refine wp_new (some 2) rfl (exec_box 29 _ rfl (#[.int .i64 P, .int .i64 N0, .int .i64 N1, .int .i64 N2, .slice A qs.length c]) rfl) (fun Wz2 nnz3 => ?_)
  have bz4 := nnz3.below (Below.refl _ _) (Nat.le_refl _)
  replace hB := below_after hB bz4
  have hz5 : At Wz2 w.heap.size (.cells #[.int .i64 P, .int .i64 N0, .int .i64 N1, .int .i64 N2, .slice A qs.length c] 29 (0, 0)) := nnz3.at_
  refine hK' _ _ ?_
  clear hK' K' nnz3 bz4
  go_frame
  refine ls_op rfl (fun K' hK' => ?_)
  have lz6 := hB.size
  have lz7 := hz5.lt
  refine wp_new (some 3) rfl (exec_box 52 _ rfl (#[.int .i64 tp, .int .i64 ti, .int .i64 tj, .int .i64 tk, .slice B xs.length d]) rfl) (fun Wz8 nnz9 => ?_)
  have bz10 := nnz9.below (Below.refl _ _) (Nat.le_refl _)
  replace hB := below_after hB bz10
  replace hz5 := hz5.after bz10
  have hz11 : At Wz8 Wz2.heap.size (.cells #[.int .i64 tp, .int .i64 ti, .int .i64 tj, .int .i64 tk, .slice B xs.length d] 52 (0, 0)) := nnz9.at_
  refine hK' _ _ ?_
  clear hK' K' nnz9 bz10
  go_frame
  refine ls_ex (some 4) (.bool false) rfl rfl (exec_assign _ rfl (.bool false) rfl) ?_
  go_frame
  refine ls_ex (some 5) (.int .i64 0) rfl rfl (exec_assign _ rfl (.int .i64 0) rfl) ?_
  go_frame
  refine wpList_nil ?_
  go_upto_region 1 with (fail)
  refine wp_region_lit ?_
  refine ls_ex (some 9) (.agg #[.int .i64 P, .int .i64 N0, .int .i64 N1, .int .i64 N2, .slice A qs.length c]) rfl rfl (exec_load_all 29 _ rfl w.heap.size rfl _ _ _ hz5 Try.underlying29 rfl 5 (by kernel_rfl) rfl) ?_
  go_frame
  refine ls_op rfl (fun K' hK' => ?_)
  have lz14 := hB.size
  have lz15 := hz5.lt
  have lz16 := hz11.lt
  refine wp_call1 (some 10) rfl 28 _ _ rfl (fun args w => by kernel_rfl) _ rfl _ (l09Is_c P N0 N1 N2 A c qs _ (hR.keep hB) (by omega)) (fun e Wz12 h => ?_)
  obtain ⟨rfl, bz13⟩ := h
  replace hB := below_after hB bz13
  replace hz5 := hz5.after bz13
  replace hz11 := hz11.after bz13
  rw [Hs.out]
  clear bz13
  refine ⟨_, rfl, ?_⟩
  refine hK' _ _ ?_
  clear hK' K'
  go_frame
  refine ls_ex (some 11) (.bool false) rfl rfl (exec_not _ _ rfl true rfl) ?_
  go_frame
  refine ls_ex (some 12) (.bool false) rfl rfl (exec_move _ rfl (.bool false) rfl) ?_
  go_frame
  refine ls_ex_g (some 13) (.agg #[.int .i64 tp, .int .i64 ti, .int .i64 tj, .int .i64 tk, .slice B xs.length d]) rfl rfl (exec_load_all 52 _ rfl Wz2.heap.size rfl _ _ _ hz11 Try.underlying52 rfl 5 (by kernel_rfl) rfl) ?_
  go_frame
  refine ls_op_g rfl (fun K' hK' => ?_)
  have lz19 := hB.size
  have lz20 := hz5.lt
  have lz21 := hz11.lt
  refine wp_call1 (some 14) rfl 45 _ _ rfl (fun args w => by kernel_rfl) _ rfl _ (l05Is_c tp ti tj tk B d xs _ (hX.keep hB) hxl) (fun e Wz17 h => ?_)
  obtain ⟨rfl, bz18⟩ := h
  replace hB := below_after hB bz18
  replace hz5 := hz5.after bz18
  replace hz11 := hz11.after bz18
  rw [Ht.out]
  clear bz18
  refine ⟨_, rfl, ?_⟩
  refine hK' _ _ ?_
  clear hK' K'
  go_frame
  refine ls_ex_g (some 15) (.bool false) rfl rfl (exec_not _ _ rfl true rfl) ?_
  go_frame
  refine ls_ex (some 16) (.bool false) rfl rfl (exec_pick _ _ _ rfl false rfl (.bool false) rfl) ?_
  go_frame
  refine wpList_nil ?_
  go_upto_region 3 with (fail)
  refine wp_region_lit ?_
  refine ls_ex (some 17) (.agg #[.int .i64 P, .int .i64 N0, .int .i64 N1, .int .i64 N2, .slice A qs.length c]) rfl rfl (exec_load_all 29 _ rfl w.heap.size rfl _ _ _ hz5 Try.underlying29 rfl 5 (by kernel_rfl) rfl) ?_
  go_frame
  refine ls_op rfl (fun K' hK' => ?_)
  have lz24 := hB.size
  have lz25 := hz5.lt
  have lz26 := hz11.lt
  refine wp_call1 (some 18) rfl 46 _ _ rfl (fun args w => by kernel_rfl) _ rfl _ (l09Tensor_c P N0 N1 N2 A c qs _ (hR.keep hB) hlen hP l0 l1 l2) (fun e Wz22 h => ?_)
  obtain ⟨v7, rfl, ho, bz23⟩ := h
  replace hB := below_after hB bz23
  replace hz5 := hz5.after bz23
  replace hz11 := hz11.after bz23
  obtain ⟨A7, c7, rfl, _⟩ := ho.rd
  rw [HNt.out] at ho ⊢
  clear bz23
  refine ⟨_, rfl, ?_⟩
  refine hK' _ _ ?_
  clear hK' K'
  go_frame
  refine ls_op rfl (fun K' hK' => ?_)
  have lz27 := hB.size
  have lz28 := hz5.lt
  have lz29 := hz11.lt
  have naz34 := ho.newP_ne
  refine wp_new (some 6) rfl (al_impl_Tensor rfl) (fun Wz30 nnz31 => ?_)
  have bz32 := nnz31.below (Below.refl _ _) (Nat.le_refl _)
  replace hB := below_after hB bz32
  replace hz5 := hz5.after bz32
  replace hz11 := hz11.after bz32
  replace ho := ho.below bz32
  have hz33 : At Wz30 Wz22.heap.size (.cells #[.int .i64 0, .int .i64 0, .int .i64 0, .int .i64 0, .slice none 0 0] 52 (0, 0)) := nnz31.at_
  refine hK' _ _ ?_
  clear hK' K' nnz31 bz32
  go_frame
  refine ls_op rfl (fun K' hK' => ?_)
  refine wp_store_all 52 _ _ rfl rfl Wz22.heap.size rfl #[.int .i64 P, .int .i64 N0, .int .i64 N1, .int .i64 N2, .slice A7 N c7] rfl _ _ hz33 5 (by kernel_rfl) rfl rfl (one5 _ _ _ _ _ _ _) (fun Wz35 pz36 => ?_)
  replace hB := pz36.below hB (by omega)
  replace hz5 := pz36.other hz5 (by omega)
  replace hz11 := pz36.other hz11 (by omega)
  replace ho := ho.put pz36 naz34
  replace hz33 : At Wz35 Wz22.heap.size (.cells #[.int .i64 P, .int .i64 N0, .int .i64 N1, .int .i64 N2, .slice A7 N c7] 52 (0, 0)) := pz36.at_
  refine hK' _ _ ?_
  clear hK' K' pz36
  refine wpList_nil ?_
  go_upto_region 4 with (fail)
  refine wp_region_lit ?_
  refine ls_ex (some 19) (.pointer (some ⟨Wz22.heap.size, 0, none⟩)) rfl rfl (exec_fieldAddr 52 _ 0 rfl _ (by kernel_rfl)) ?_
  go_frame
  refine ls_ex (some 20) (.int .i64 P) rfl rfl (exec_load_one 2 _ rfl Wz22.heap.size 0 rfl (.int .i64 P) _ Try.underlying2 rfl (hz33.at_ 0)) ?_
  go_frame
  refine ls_ex (some 21) (.pointer (some ⟨Wz2.heap.size, 0, none⟩)) rfl rfl (exec_fieldAddr 52 _ 0 rfl _ (by kernel_rfl)) ?_
  go_frame
  refine ls_ex (some 22) (.int .i64 tp) rfl rfl (exec_load_one 2 _ rfl Wz2.heap.size 0 rfl (.int .i64 tp) _ Try.underlying2 rfl (hz11.at_ 0)) ?_
  go_frame
  refine ls_ex (some 23) (.bool true) rfl rfl (exec_eql _ _ _ _ rfl P tp rfl rfl true HQ0.out) ?_
  go_frame
  refine ls_ex (some 24) (.bool true) rfl rfl (exec_move _ rfl (.bool true) rfl) ?_
  go_frame
  refine ls_ex_g (some 25) (.pointer (some ⟨Wz22.heap.size, 1, none⟩)) rfl rfl (exec_fieldAddr 52 _ 1 rfl _ (by kernel_rfl)) ?_
  go_frame
  refine ls_ex_g (some 26) (.int .i64 N0) rfl rfl (exec_load_one 2 _ rfl Wz22.heap.size 1 rfl (.int .i64 N0) _ Try.underlying2 rfl (hz33.at_ 1)) ?_
  go_frame
  refine ls_ex_g (some 27) (.pointer (some ⟨Wz2.heap.size, 1, none⟩)) rfl rfl (exec_fieldAddr 52 _ 1 rfl _ (by kernel_rfl)) ?_
  go_frame
  refine ls_ex_g (some 28) (.int .i64 ti) rfl rfl (exec_load_one 2 _ rfl Wz2.heap.size 1 rfl (.int .i64 ti) _ Try.underlying2 rfl (hz11.at_ 1)) ?_
  go_frame
  refine ls_ex_g (some 29) (.bool true) rfl rfl (exec_eql _ _ _ _ rfl N0 ti rfl rfl true HQ1.out) ?_
  go_frame
  refine ls_ex (some 30) (.bool true) rfl rfl (exec_pick _ _ _ rfl true rfl (.bool true) rfl) ?_
  go_frame
  refine ls_ex (some 31) (.bool true) rfl rfl (exec_move _ rfl (.bool true) rfl) ?_
  go_frame
  refine ls_ex_g (some 32) (.pointer (some ⟨Wz22.heap.size, 2, none⟩)) rfl rfl (exec_fieldAddr 52 _ 2 rfl _ (by kernel_rfl)) ?_
  go_frame
  refine ls_ex_g (some 33) (.int .i64 N1) rfl rfl (exec_load_one 2 _ rfl Wz22.heap.size 2 rfl (.int .i64 N1) _ Try.underlying2 rfl (hz33.at_ 2)) ?_
  go_frame
  refine ls_ex_g (some 34) (.pointer (some ⟨Wz2.heap.size, 2, none⟩)) rfl rfl (exec_fieldAddr 52 _ 2 rfl _ (by kernel_rfl)) ?_
  go_frame
  refine ls_ex_g (some 35) (.int .i64 tj) rfl rfl (exec_load_one 2 _ rfl Wz2.heap.size 2 rfl (.int .i64 tj) _ Try.underlying2 rfl (hz11.at_ 2)) ?_
  go_frame
  refine ls_ex_g (some 36) (.bool false) rfl rfl (exec_eql _ _ _ _ rfl N1 tj rfl rfl false HQ2.out) ?_
  go_frame
  refine ls_ex (some 37) (.bool false) rfl rfl (exec_pick _ _ _ rfl true rfl (.bool false) rfl) ?_
  go_frame
  refine ls_ex (some 38) (.bool false) rfl rfl (exec_move _ rfl (.bool false) rfl) ?_
  go_frame
  refine ls_skip_g (some 39) rfl rfl ?_
  go_frame
  refine ls_skip_g (some 40) rfl rfl ?_
  go_frame
  refine ls_skip_g (some 41) rfl rfl ?_
  go_frame
  refine ls_skip_g (some 42) rfl rfl ?_
  go_frame
  refine ls_skip_g (some 43) rfl rfl ?_
  go_frame
  refine ls_ex (some 44) (.bool false) rfl rfl (exec_pick _ _ _ rfl false rfl (.bool false) rfl) ?_
  go_frame
  refine ls_ex (some 7) (.bool false) rfl rfl (exec_assign _ rfl (.bool false) rfl) ?_
  go_frame
  refine wpList_nil ?_
  go_upto_region 5 with (fail)
  refine wp_region_lit ?_
  refine ls_ex (some 8) (.int .i64 0) rfl rfl (exec_assign _ rfl (.int .i64 0) rfl) ?_
  go_frame
  refine wpList_nil ?_
  go_wp2_with fail
  go_loopw [7, 8] (fun s7 s8 wr => s7 = .bool false ∧ s8 = .int .i64 0 ∧ Below w.heap.size w wr ∧ At wr w.heap.size (.cells #[.int .i64 P, .int .i64 N0, .int .i64 N1, .int .i64 N2, .slice A qs.length c] 29 (0, 0)) ∧ At wr Wz2.heap.size (.cells #[.int .i64 tp, .int .i64 ti, .int .i64 tj, .int .i64 tk, .slice B xs.length d] 52 (0, 0)) ∧ At wr Wz22.heap.size (.cells #[.int .i64 P, .int .i64 N0, .int .i64 N1, .int .i64 N2, .slice A7 N c7] 52 (0, 0)) ∧ OwnI wr Wz17.heap.size (.slice A7 N c7) (topL P N0 N1 N2 qs)) (fun _ _ _ => 0)
  case atStart => exact ⟨rfl, rfl, hB, hz5, hz11, hz33, ho⟩
  case round =>
    clear hB hz5 hz11 ho hz33
    obtain ⟨rfl, rfl, hB, h0, h1, h2, ho⟩ := hrel
    by_cases hlt : 0 < xs.length
    · go_upto_region 6 with (fail)
      refine wp_region_lit ?_
      refine ls_ex (some 45) (.int .i64 0) rfl rfl (exec_move _ rfl (.int .i64 0) rfl) ?_
      go_frame
      refine ls_ex (some 46) (.pointer (some ⟨Wz2.heap.size, 4, none⟩)) rfl rfl (exec_fieldAddr 52 _ 4 rfl _ (by kernel_rfl)) ?_
      go_frame
      refine ls_ex (some 47) (.slice B xs.length d) rfl rfl (exec_load_one 46 _ rfl Wz2.heap.size 4 rfl (.slice B xs.length d) _ Try.underlying46 rfl (h1.at_ 4)) ?_
      go_frame
      refine ls_ex (some 48) (.int .i64 xs.length) rfl rfl (exec_len _ 46 2 rfl B xs.length d rfl Try.underlying46) ?_
      go_frame
      refine ls_ex (some 49) (.bool true) rfl rfl (exec_lss _ _ _ _ rfl 0 xs.length rfl rfl true (decide_eq_true (by omega))) ?_
      go_frame
      refine ls_ex (some 50) (.bool true) rfl rfl (exec_move _ rfl (.bool true) rfl) ?_
      go_frame
      refine ls_ex_g (some 51) (.bool false) rfl rfl (exec_move _ rfl (.bool false) rfl) ?_
      go_frame
      refine ls_ex (some 52) (.bool false) rfl rfl (exec_pick _ _ _ rfl true rfl (.bool false) rfl) ?_
      go_frame
      refine wpList_nil ?_
      go_upto_region 9 with (fail)
      refine wp_region_lit ?_
      refine ls_ex (some 66) (.bool false) rfl rfl (exec_move _ rfl (.bool false) rfl) ?_
      go_frame
      refine ls_ex (some 4) (.bool false) rfl rfl (exec_assign _ rfl (.bool false) rfl) ?_
      go_frame
      refine ls_ex (some 5) (.int .i64 0) rfl rfl (exec_assign _ rfl (.int .i64 0) rfl) ?_
      go_frame
      refine wpList_nil ?_
      go_wp2_with fail
      go_ret2
      exact ⟨by rw [HV.out, HC.out]; rfl, hB⟩
    · go_upto_region 6 with (fail)
      refine wp_region_lit ?_
      refine ls_ex (some 45) (.int .i64 0) rfl rfl (exec_move _ rfl (.int .i64 0) rfl) ?_
      go_frame
      refine ls_ex (some 46) (.pointer (some ⟨Wz2.heap.size, 4, none⟩)) rfl rfl (exec_fieldAddr 52 _ 4 rfl _ (by kernel_rfl)) ?_
      go_frame
      refine ls_ex (some 47) (.slice B xs.length d) rfl rfl (exec_load_one 46 _ rfl Wz2.heap.size 4 rfl (.slice B xs.length d) _ Try.underlying46 rfl (h1.at_ 4)) ?_
      go_frame
      refine ls_ex (some 48) (.int .i64 xs.length) rfl rfl (exec_len _ 46 2 rfl B xs.length d rfl Try.underlying46) ?_
      go_frame
      refine ls_ex (some 49) (.bool false) rfl rfl (exec_lss _ _ _ _ rfl 0 xs.length rfl rfl false (decide_eq_false (by omega))) ?_
      go_frame
      refine ls_ex (some 50) (.bool false) rfl rfl (exec_move _ rfl (.bool false) rfl) ?_
      go_frame
      refine ls_skip_g (some 51) rfl rfl ?_
      go_frame
      refine ls_ex (some 52) (.bool false) rfl rfl (exec_pick _ _ _ rfl false rfl (.bool false) rfl) ?_
      go_frame
      refine wpList_nil ?_
      go_upto_region 9 with (fail)
      refine wp_region_lit ?_
      refine ls_ex (some 66) (.bool false) rfl rfl (exec_move _ rfl (.bool false) rfl) ?_
      go_frame
      refine ls_ex (some 4) (.bool false) rfl rfl (exec_assign _ rfl (.bool false) rfl) ?_
      go_frame
      refine ls_ex (some 5) (.int .i64 0) rfl rfl (exec_assign _ rfl (.int .i64 0) rfl) ?_
      go_frame
      refine wpList_nil ?_
      go_wp2_with fail
      go_ret2
      exact ⟨by rw [HV.out, HC.out]; rfl, hB⟩
set_option maxHeartbeats 25600000 in
theorem specMf_q3 (P N0 N1 N2 : Nat) (A : Option Addr) (c : Nat) (qs : List (List Nat)) (tp ti tj tk : Int) (B : Option Addr) (d : Nat) (xs : List Int) (w : World) (hR : Rd w A qs) (hlen : qs.length ≤ 30) (hX : RdI w B xs) (hxl : xs.length ≤ 1048576) (hP : 2 ≤ P ∧ P ≤ 5) (l0 : 1 ≤ N0 ∧ N0 ≤ 9) (l1 : 1 ≤ N1 ∧ N1 ≤ 9) (l2 : 1 ≤ N2 ∧ N2 ≤ 9) (hs : methB P N0 N1 N2 qs = true) (ht : tenB tp ti tj tk xs = true) (hq0 : ((P : Int) == tp) = true) (hq1 : ((N0 : Int) == ti) = true) (hq2 : ((N1 : Int) == tj) = true) (hq3 : ((N2 : Int) == tk) = false) :
    Calls Try.prog 23 #[.agg #[.int .i64 P, .int .i64 N0, .int .i64 N1, .int .i64 N2, .slice A qs.length c], .agg #[.int .i64 tp, .int .i64 ti, .int .i64 tj, .int .i64 tk, .slice B xs.length d]] w (fun e w' => e = .returned (.tuple #[.bool (mfB P N0 N1 N2 qs tp ti tj tk xs), .int .i64 (mfCode P N0 N1 N2 qs tp ti tj tk xs)]) ∧ Below w.heap.size w w') := by
  have hB := Below.refl w.heap.size w
  have HC : Hid (mfCode P N0 N1 N2 qs tp ti tj tk xs = 0) := Lib.hid (by simp [mfCode, hs, ht])
  have Hs := Lib.hid hs
  have Ht := Lib.hid ht
  obtain ⟨N, hNt⟩ : ∃ N, (topL P N0 N1 N2 qs).length = N := ⟨_, rfl⟩
  have HNt := Lib.hid hNt
  have HV : Hid (mfB P N0 N1 N2 qs tp ti tj tk xs = false) := Lib.hid (by unfold mfB; rw [hq0, hq1, hq2, hq3]; simp)
  have HQ0 := Lib.hid hq0
  have HQ1 := Lib.hid hq1
  have HQ2 := Lib.hid hq2
  have HQ3 := Lib.hid hq3
  clear hs ht hNt hq0 hq1 hq2 hq3
  go_enter Try.func23, Try.ntmps23
  go_upto_region 0 with (fail)
  refine wp_region_lit ?_
  refine ls_op rfl (fun K' hK' => ?_)
  have lz1 := hB.size
  refine wp_new (some 2) rfl (exec_box 29 _ rfl (#[.int .i64 P, .int .i64 N0, .int .i64 N1, .int .i64 N2, .slice A qs.length c]) rfl) (fun Wz2 nnz3 => ?_)
  have bz4 := nnz3.below (Below.refl _ _) (Nat.le_refl _)
  replace hB := below_after hB bz4
  have hz5 : At Wz2 w.heap.size (.cells #[.int .i64 P, .int .i64 N0, .int .i64 N1, .int .i64 N2, .slice A qs.length c] 29 (0, 0)) := nnz3.at_
  refine hK' _ _ ?_
  clear hK' K' nnz3 bz4
  go_frame
  refine ls_op rfl (fun K' hK' => ?_)
  have lz6 := hB.size
  have lz7 := hz5.lt
  refine wp_new (some 3) rfl (exec_box 52 _ rfl (#[.int .i64 tp, .int .i64 ti, .int .i64 tj, .int .i64 tk, .slice B xs.length d]) rfl) (fun Wz8 nnz9 => ?_)
  have bz10 := nnz9.below (Below.refl _ _) (Nat.le_refl _)
  replace hB := below_after hB bz10
  replace hz5 := hz5.after bz10
  have hz11 : At Wz8 Wz2.heap.size (.cells #[.int .i64 tp, .int .i64 ti, .int .i64 tj, .int .i64 tk, .slice B xs.length d] 52 (0, 0)) := nnz9.at_
  refine hK' _ _ ?_
  clear hK' K' nnz9 bz10
  go_frame
  refine ls_ex (some 4) (.bool false) rfl rfl (exec_assign _ rfl (.bool false) rfl) ?_
  go_frame
  refine ls_ex (some 5) (.int .i64 0) rfl rfl (exec_assign _ rfl (.int .i64 0) rfl) ?_
  go_frame
  refine wpList_nil ?_
  go_upto_region 1 with (fail)
  refine wp_region_lit ?_
  refine ls_ex (some 9) (.agg #[.int .i64 P, .int .i64 N0, .int .i64 N1, .int .i64 N2, .slice A qs.length c]) rfl rfl (exec_load_all 29 _ rfl w.heap.size rfl _ _ _ hz5 Try.underlying29 rfl 5 (by kernel_rfl) rfl) ?_
  go_frame
  refine ls_op rfl (fun K' hK' => ?_)
  have lz14 := hB.size
  have lz15 := hz5.lt
  have lz16 := hz11.lt
  refine wp_call1 (some 10) rfl 28 _ _ rfl (fun args w => by kernel_rfl) _ rfl _ (l09Is_c P N0 N1 N2 A c qs _ (hR.keep hB) (by omega)) (fun e Wz12 h => ?_)
  obtain ⟨rfl, bz13⟩ := h
  replace hB := below_after hB bz13
  replace hz5 := hz5.after bz13
  replace hz11 := hz11.after bz13
  rw [Hs.out]
  clear bz13
  refine ⟨_, rfl, ?_⟩
  refine hK' _ _ ?_
  clear hK' K'
  go_frame
  refine ls_ex (some 11) (.bool false) rfl rfl (exec_not _ _ rfl true rfl) ?_
  go_frame
  refine ls_ex (some 12) (.bool false) rfl rfl (exec_move _ rfl (.bool false) rfl) ?_
  go_frame
  refine ls_ex_g (some 13) (.agg #[.int .i64 tp, .int .i64 ti, .int .i64 tj, .int .i64 tk, .slice B xs.length d]) rfl rfl (exec_load_all 52 _ rfl Wz2.heap.size rfl _ _ _ hz11 Try.underlying52 rfl 5 (by kernel_rfl) rfl) ?_
  go_frame
  refine ls_op_g rfl (fun K' hK' => ?_)
  have lz19 := hB.size
  have lz20 := hz5.lt
  have lz21 := hz11.lt
  refine wp_call1 (some 14) rfl 45 _ _ rfl (fun args w => by kernel_rfl) _ rfl _ (l05Is_c tp ti tj tk B d xs _ (hX.keep hB) hxl) (fun e Wz17 h => ?_)
  obtain ⟨rfl, bz18⟩ := h
  replace hB := below_after hB bz18
  replace hz5 := hz5.after bz18
  replace hz11 := hz11.after bz18
  rw [Ht.out]
  clear bz18
  refine ⟨_, rfl, ?_⟩
  refine hK' _ _ ?_
  clear hK' K'
  go_frame
  refine ls_ex_g (some 15) (.bool false) rfl rfl (exec_not _ _ rfl true rfl) ?_
  go_frame
  refine ls_ex (some 16) (.bool false) rfl rfl (exec_pick _ _ _ rfl false rfl (.bool false) rfl) ?_
  go_frame
  refine wpList_nil ?_
  go_upto_region 3 with (fail)
  refine wp_region_lit ?_
  refine ls_ex (some 17) (.agg #[.int .i64 P, .int .i64 N0, .int .i64 N1, .int .i64 N2, .slice A qs.length c]) rfl rfl (exec_load_all 29 _ rfl w.heap.size rfl _ _ _ hz5 Try.underlying29 rfl 5 (by kernel_rfl) rfl) ?_
  go_frame
  refine ls_op rfl (fun K' hK' => ?_)
  have lz24 := hB.size
  have lz25 := hz5.lt
  have lz26 := hz11.lt
  refine wp_call1 (some 18) rfl 46 _ _ rfl (fun args w => by kernel_rfl) _ rfl _ (l09Tensor_c P N0 N1 N2 A c qs _ (hR.keep hB) hlen hP l0 l1 l2) (fun e Wz22 h => ?_)
  obtain ⟨v7, rfl, ho, bz23⟩ := h
  replace hB := below_after hB bz23
  replace hz5 := hz5.after bz23
  replace hz11 := hz11.after bz23
  obtain ⟨A7, c7, rfl, _⟩ := ho.rd
  rw [HNt.out] at ho ⊢
  clear bz23
  refine ⟨_, rfl, ?_⟩
  refine hK' _ _ ?_
  clear hK' K'
  go_frame
  refine ls_op rfl (fun K' hK' => ?_)
  have lz27 := hB.size
  have lz28 := hz5.lt
  have lz29 := hz11.lt
  have naz34 := ho.newP_ne
  refine wp_new (some 6) rfl (al_impl_Tensor rfl) (fun Wz30 nnz31 => ?_)
  have bz32 := nnz31.below (Below.refl _ _) (Nat.le_refl _)
  replace hB := below_after hB bz32
  replace hz5 := hz5.after bz32
  replace hz11 := hz11.after bz32
  replace ho := ho.below bz32
  have hz33 : At Wz30 Wz22.heap.size (.cells #[.int .i64 0, .int .i64 0, .int .i64 0, .int .i64 0, .slice none 0 0] 52 (0, 0)) := nnz31.at_
  refine hK' _ _ ?_
  clear hK' K' nnz31 bz32
  go_frame
  refine ls_op rfl (fun K' hK' => ?_)
  refine wp_store_all 52 _ _ rfl rfl Wz22.heap.size rfl #[.int .i64 P, .int .i64 N0, .int .i64 N1, .int .i64 N2, .slice A7 N c7] rfl _ _ hz33 5 (by kernel_rfl) rfl rfl (one5 _ _ _ _ _ _ _) (fun Wz35 pz36 => ?_)
  replace hB := pz36.below hB (by omega)
  replace hz5 := pz36.other hz5 (by omega)
  replace hz11 := pz36.other hz11 (by omega)
  replace ho := ho.put pz36 naz34
  replace hz33 : At Wz35 Wz22.heap.size (.cells #[.int .i64 P, .int .i64 N0, .int .i64 N1, .int .i64 N2, .slice A7 N c7] 52 (0, 0)) := pz36.at_
  refine hK' _ _ ?_
  clear hK' K' pz36
  refine wpList_nil ?_
  go_upto_region 4 with (fail)
  refine wp_region_lit ?_
  refine ls_ex (some 19) (.pointer (some ⟨Wz22.heap.size, 0, none⟩)) rfl rfl (exec_fieldAddr 52 _ 0 rfl _ (by kernel_rfl)) ?_
  go_frame
  refine ls_ex (some 20) (.int .i64 P) rfl rfl (exec_load_one 2 _ rfl Wz22.heap.size 0 rfl (.int .i64 P) _ Try.underlying2 rfl (hz33.at_ 0)) ?_
  go_frame
  refine ls_ex (some 21) (.pointer (some ⟨Wz2.heap.size, 0, none⟩)) rfl rfl (exec_fieldAddr 52 _ 0 rfl _ (by kernel_rfl)) ?_
  go_frame
  refine ls_ex (some 22) (.int .i64 tp) rfl rfl (exec_load_one 2 _ rfl Wz2.heap.size 0 rfl (.int .i64 tp) _ Try.underlying2 rfl (hz11.at_ 0)) ?_
  go_frame
  refine ls_ex (some 23) (.bool true) rfl rfl (exec_eql _ _ _ _ rfl P tp rfl rfl true HQ0.out) ?_
  go_frame
  refine ls_ex (some 24) (.bool true) rfl rfl (exec_move _ rfl (.bool true) rfl) ?_
  go_frame
  refine ls_ex_g (some 25) (.pointer (some ⟨Wz22.heap.size, 1, none⟩)) rfl rfl (exec_fieldAddr 52 _ 1 rfl _ (by kernel_rfl)) ?_
  go_frame
  refine ls_ex_g (some 26) (.int .i64 N0) rfl rfl (exec_load_one 2 _ rfl Wz22.heap.size 1 rfl (.int .i64 N0) _ Try.underlying2 rfl (hz33.at_ 1)) ?_
  go_frame
  refine ls_ex_g (some 27) (.pointer (some ⟨Wz2.heap.size, 1, none⟩)) rfl rfl (exec_fieldAddr 52 _ 1 rfl _ (by kernel_rfl)) ?_
  go_frame
  refine ls_ex_g (some 28) (.int .i64 ti) rfl rfl (exec_load_one 2 _ rfl Wz2.heap.size 1 rfl (.int .i64 ti) _ Try.underlying2 rfl (hz11.at_ 1)) ?_
  go_frame
  refine ls_ex_g (some 29) (.bool true) rfl rfl (exec_eql _ _ _ _ rfl N0 ti rfl rfl true HQ1.out) ?_
  go_frame
  refine ls_ex (some 30) (.bool true) rfl rfl (exec_pick _ _ _ rfl true rfl (.bool true) rfl) ?_
  go_frame
  refine ls_ex (some 31) (.bool true) rfl rfl (exec_move _ rfl (.bool true) rfl) ?_
  go_frame
  refine ls_ex_g (some 32) (.pointer (some ⟨Wz22.heap.size, 2, none⟩)) rfl rfl (exec_fieldAddr 52 _ 2 rfl _ (by kernel_rfl)) ?_
  go_frame
  refine ls_ex_g (some 33) (.int .i64 N1) rfl rfl (exec_load_one 2 _ rfl Wz22.heap.size 2 rfl (.int .i64 N1) _ Try.underlying2 rfl (hz33.at_ 2)) ?_
  go_frame
  refine ls_ex_g (some 34) (.pointer (some ⟨Wz2.heap.size, 2, none⟩)) rfl rfl (exec_fieldAddr 52 _ 2 rfl _ (by kernel_rfl)) ?_
  go_frame
  refine ls_ex_g (some 35) (.int .i64 tj) rfl rfl (exec_load_one 2 _ rfl Wz2.heap.size 2 rfl (.int .i64 tj) _ Try.underlying2 rfl (hz11.at_ 2)) ?_
  go_frame
  refine ls_ex_g (some 36) (.bool true) rfl rfl (exec_eql _ _ _ _ rfl N1 tj rfl rfl true HQ2.out) ?_
  go_frame
  refine ls_ex (some 37) (.bool true) rfl rfl (exec_pick _ _ _ rfl true rfl (.bool true) rfl) ?_
  go_frame
  refine ls_ex (some 38) (.bool true) rfl rfl (exec_move _ rfl (.bool true) rfl) ?_
  go_frame
  refine ls_ex_g (some 39) (.pointer (some ⟨Wz22.heap.size, 3, none⟩)) rfl rfl (exec_fieldAddr 52 _ 3 rfl _ (by kernel_rfl)) ?_
  go_frame
  refine ls_ex_g (some 40) (.int .i64 N2) rfl rfl (exec_load_one 2 _ rfl Wz22.heap.size 3 rfl (.int .i64 N2) _ Try.underlying2 rfl (hz33.at_ 3)) ?_
  go_frame
  refine ls_ex_g (some 41) (.pointer (some ⟨Wz2.heap.size, 3, none⟩)) rfl rfl (exec_fieldAddr 52 _ 3 rfl _ (by kernel_rfl)) ?_
  go_frame
  refine ls_ex_g (some 42) (.int .i64 tk) rfl rfl (exec_load_one 2 _ rfl Wz2.heap.size 3 rfl (.int .i64 tk) _ Try.underlying2 rfl (hz11.at_ 3)) ?_
  go_frame
  refine ls_ex_g (some 43) (.bool false) rfl rfl (exec_eql _ _ _ _ rfl N2 tk rfl rfl false HQ3.out) ?_
  go_frame
  refine ls_ex (some 44) (.bool false) rfl rfl (exec_pick _ _ _ rfl true rfl (.bool false) rfl) ?_
  go_frame
  refine ls_ex (some 7) (.bool false) rfl rfl (exec_assign _ rfl (.bool false) rfl) ?_
  go_frame
  refine wpList_nil ?_
  go_upto_region 5 with (fail)
  refine wp_region_lit ?_
  refine ls_ex (some 8) (.int .i64 0) rfl rfl (exec_assign _ rfl (.int .i64 0) rfl) ?_
  go_frame
  refine wpList_nil ?_
  go_wp2_with fail
  go_loopw [7, 8] (fun s7 s8 wr => s7 = .bool false ∧ s8 = .int .i64 0 ∧ Below w.heap.size w wr ∧ At wr w.heap.size (.cells #[.int .i64 P, .int .i64 N0, .int .i64 N1, .int .i64 N2, .slice A qs.length c] 29 (0, 0)) ∧ At wr Wz2.heap.size (.cells #[.int .i64 tp, .int .i64 ti, .int .i64 tj, .int .i64 tk, .slice B xs.length d] 52 (0, 0)) ∧ At wr Wz22.heap.size (.cells #[.int .i64 P, .int .i64 N0, .int .i64 N1, .int .i64 N2, .slice A7 N c7] 52 (0, 0)) ∧ OwnI wr Wz17.heap.size (.slice A7 N c7) (topL P N0 N1 N2 qs)) (fun _ _ _ => 0)
  case atStart => exact ⟨rfl, rfl, hB, hz5, hz11, hz33, ho⟩
  case round =>
    clear hB hz5 hz11 ho hz33
    obtain ⟨rfl, rfl, hB, h0, h1, h2, ho⟩ := hrel
    by_cases hlt : 0 < xs.length
    · go_upto_region 6 with (fail)
      refine wp_region_lit ?_
      refine ls_ex (some 45) (.int .i64 0) rfl rfl (exec_move _ rfl (.int .i64 0) rfl) ?_
      go_frame
      refine ls_ex (some 46) (.pointer (some ⟨Wz2.heap.size, 4, none⟩)) rfl rfl (exec_fieldAddr 52 _ 4 rfl _ (by kernel_rfl)) ?_
      go_frame
      refine ls_ex (some 47) (.slice B xs.length d) rfl rfl (exec_load_one 46 _ rfl Wz2.heap.size 4 rfl (.slice B xs.length d) _ Try.underlying46 rfl (h1.at_ 4)) ?_
      go_frame
      refine ls_ex (some 48) (.int .i64 xs.length) rfl rfl (exec_len _ 46 2 rfl B xs.length d rfl Try.underlying46) ?_
      go_frame
      refine ls_ex (some 49) (.bool true) rfl rfl (exec_lss _ _ _ _ rfl 0 xs.length rfl rfl true (decide_eq_true (by omega))) ?_
      go_frame
      refine ls_ex (some 50) (.bool true) rfl rfl (exec_move _ rfl (.bool true) rfl) ?_
      go_frame
      refine ls_ex_g (some 51) (.bool false) rfl rfl (exec_move _ rfl (.bool false) rfl) ?_
      go_frame
      refine ls_ex (some 52) (.bool false) rfl rfl (exec_pick _ _ _ rfl true rfl (.bool false) rfl) ?_
      go_frame
      refine wpList_nil ?_
      go_upto_region 9 with (fail)
      refine wp_region_lit ?_
      refine ls_ex (some 66) (.bool false) rfl rfl (exec_move _ rfl (.bool false) rfl) ?_
      go_frame
      refine ls_ex (some 4) (.bool false) rfl rfl (exec_assign _ rfl (.bool false) rfl) ?_
      go_frame
      refine ls_ex (some 5) (.int .i64 0) rfl rfl (exec_assign _ rfl (.int .i64 0) rfl) ?_
      go_frame
      refine wpList_nil ?_
      go_wp2_with fail
      go_ret2
      exact ⟨by rw [HV.out, HC.out]; rfl, hB⟩
    · go_upto_region 6 with (fail)
      refine wp_region_lit ?_
      refine ls_ex (some 45) (.int .i64 0) rfl rfl (exec_move _ rfl (.int .i64 0) rfl) ?_
      go_frame
      refine ls_ex (some 46) (.pointer (some ⟨Wz2.heap.size, 4, none⟩)) rfl rfl (exec_fieldAddr 52 _ 4 rfl _ (by kernel_rfl)) ?_
      go_frame
      refine ls_ex (some 47) (.slice B xs.length d) rfl rfl (exec_load_one 46 _ rfl Wz2.heap.size 4 rfl (.slice B xs.length d) _ Try.underlying46 rfl (h1.at_ 4)) ?_
      go_frame
      refine ls_ex (some 48) (.int .i64 xs.length) rfl rfl (exec_len _ 46 2 rfl B xs.length d rfl Try.underlying46) ?_
      go_frame
      refine ls_ex (some 49) (.bool false) rfl rfl (exec_lss _ _ _ _ rfl 0 xs.length rfl rfl false (decide_eq_false (by omega))) ?_
      go_frame
      refine ls_ex (some 50) (.bool false) rfl rfl (exec_move _ rfl (.bool false) rfl) ?_
      go_frame
      refine ls_skip_g (some 51) rfl rfl ?_
      go_frame
      refine ls_ex (some 52) (.bool false) rfl rfl (exec_pick _ _ _ rfl false rfl (.bool false) rfl) ?_
      go_frame
      refine wpList_nil ?_
      go_upto_region 9 with (fail)
      refine wp_region_lit ?_
      refine ls_ex (some 66) (.bool false) rfl rfl (exec_move _ rfl (.bool false) rfl) ?_
      go_frame
      refine ls_ex (some 4) (.bool false) rfl rfl (exec_assign _ rfl (.bool false) rfl) ?_
      go_frame
      refine ls_ex (some 5) (.int .i64 0) rfl rfl (exec_assign _ rfl (.int .i64 0) rfl) ?_
      go_frame
      refine wpList_nil ?_
      go_wp2_with fail
      go_ret2
      exact ⟨by rw [HV.out, HC.out]; rfl, hB⟩
set_option maxHeartbeats 25600000 in
theorem specMf_q (P N0 N1 N2 : Nat) (A : Option Addr) (c : Nat) (qs : List (List Nat)) (tp ti tj tk : Int) (B : Option Addr) (d : Nat) (xs : List Int) (w : World) (hR : Rd w A qs) (hlen : qs.length ≤ 30) (hX : RdI w B xs) (hxl : xs.length ≤ 1048576) (hP : 2 ≤ P ∧ P ≤ 5) (l0 : 1 ≤ N0 ∧ N0 ≤ 9) (l1 : 1 ≤ N1 ∧ N1 ≤ 9) (l2 : 1 ≤ N2 ∧ N2 ≤ 9) (hs : methB P N0 N1 N2 qs = true) (ht : tenB tp ti tj tk xs = true) (hq0 : ((P : Int) == tp) = true) (hq1 : ((N0 : Int) == ti) = true) (hq2 : ((N1 : Int) == tj) = true) (hq3 : ((N2 : Int) == tk) = true) :
    Calls Try.prog 23 #[.agg #[.int .i64 P, .int .i64 N0, .int .i64 N1, .int .i64 N2, .slice A qs.length c], .agg #[.int .i64 tp, .int .i64 ti, .int .i64 tj, .int .i64 tk, .slice B xs.length d]] w (fun e w' => e = .returned (.tuple #[.bool (mfB P N0 N1 N2 qs tp ti tj tk xs), .int .i64 (mfCode P N0 N1 N2 qs tp ti tj tk xs)]) ∧ Below w.heap.size w w') := by
  have hB := Below.refl w.heap.size w
  have HC : Hid (mfCode P N0 N1 N2 qs tp ti tj tk xs = 0) := Lib.hid (by simp [mfCode, hs, ht])
  have Hs := Lib.hid hs
  have Ht := Lib.hid ht
  obtain ⟨N, hNt⟩ : ∃ N, (topL P N0 N1 N2 qs).length = N := ⟨_, rfl⟩
  have HNt := Lib.hid hNt
  have HF : Hid (mfB P N0 N1 N2 qs tp ti tj tk xs = (topL P N0 N1 N2 qs == xs)) := Lib.hid (by unfold mfB; rw [hs, ht, hq0, hq1, hq2, hq3]; rfl)
  have Hxs : Hid (xs.length = N) := Lib.hid (by rw [← hNt, topL_len]; simp only [tenB, Bool.and_eq_true, decide_eq_true_eq] at ht; rw [beq_iff_eq] at hq1 hq2 hq3; have h9 := ht.1.2; rw [← hq1, ← hq2, ← hq3, ← Int.natCast_mul, ← Int.natCast_mul] at h9; omega)
  have HQ0 := Lib.hid hq0
  have HQ1 := Lib.hid hq1
  have HQ2 := Lib.hid hq2
  have HQ3 := Lib.hid hq3
  clear hs ht hNt hq0 hq1 hq2 hq3
  go_enter Try.func23, Try.ntmps23
  go_upto_region 0 with (fail)
  refine wp_region_lit ?_
  refine ls_op rfl (fun K' hK' => ?_)
  have lz1 := hB.size
  refine wp_new (some 2) rfl (exec_box 29 _ rfl (#[.int .i64 P, .int .i64 N0, .int .i64 N1, .int .i64 N2, .slice A qs.length c]) rfl) (fun Wz2 nnz3 => ?_)
  have bz4 := nnz3.below (Below.refl _ _) (Nat.le_refl _)
  replace hB := below_after hB bz4
  have hz5 : At Wz2 w.heap.size (.cells #[.int .i64 P, .int .i64 N0, .int .i64 N1, .int .i64 N2, .slice A qs.length c] 29 (0, 0)) := nnz3.at_
  refine hK' _ _ ?_
  clear hK' K' nnz3 bz4
  go_frame
  refine ls_op rfl (fun K' hK' => ?_)
  have lz6 := hB.size
  have lz7 := hz5.lt
  refine wp_new (some 3) rfl (exec_box 52 _ rfl (#[.int .i64 tp, .int .i64 ti, .int .i64 tj, .int .i64 tk, .slice B xs.length d]) rfl) (fun Wz8 nnz9 => ?_)
  have bz10 := nnz9.below (Below.refl _ _) (Nat.le_refl _)
  replace hB := below_after hB bz10
  replace hz5 := hz5.after bz10
  have hz11 : At Wz8 Wz2.heap.size (.cells #[.int .i64 tp, .int .i64 ti, .int .i64 tj, .int .i64 tk, .slice B xs.length d] 52 (0, 0)) := nnz9.at_
  refine hK' _ _ ?_
  clear hK' K' nnz9 bz10
  go_frame
  refine ls_ex (some 4) (.bool false) rfl rfl (exec_assign _ rfl (.bool false) rfl) ?_
  go_frame
  refine ls_ex (some 5) (.int .i64 0) rfl rfl (exec_assign _ rfl (.int .i64 0) rfl) ?_
  go_frame
  refine wpList_nil ?_
  go_upto_region 1 with (fail)
  refine wp_region_lit ?_
  refine ls_ex (some 9) (.agg #[.int .i64 P, .int .i64 N0, .int .i64 N1, .int .i64 N2, .slice A qs.length c]) rfl rfl (exec_load_all 29 _ rfl w.heap.size rfl _ _ _ hz5 Try.underlying29 rfl 5 (by kernel_rfl) rfl) ?_
  go_frame
  refine ls_op rfl (fun K' hK' => ?_)
  have lz14 := hB.size
  have lz15 := hz5.lt
  have lz16 := hz11.lt
  refine wp_call1 (some 10) rfl 28 _ _ rfl (fun args w => by kernel_rfl) _ rfl _ (l09Is_c P N0 N1 N2 A c qs _ (hR.keep hB) (by omega)) (fun e Wz12 h => ?_)
  obtain ⟨rfl, bz13⟩ := h
  replace hB := below_after hB bz13
  replace hz5 := hz5.after bz13
  replace hz11 := hz11.after bz13
  rw [Hs.out]
  clear bz13
  refine ⟨_, rfl, ?_⟩
  refine hK' _ _ ?_
  clear hK' K'
  go_frame
  refine ls_ex (some 11) (.bool false) rfl rfl (exec_not _ _ rfl true rfl) ?_
  go_frame
  refine ls_ex (some 12) (.bool false) rfl rfl (exec_move _ rfl (.bool false) rfl) ?_
  go_frame
  refine ls_ex_g (some 13) (.agg #[.int .i64 tp, .int .i64 ti, .int .i64 tj, .int .i64 tk, .slice B xs.length d]) rfl rfl (exec_load_all 52 _ rfl Wz2.heap.size rfl _ _ _ hz11 Try.underlying52 rfl 5 (by kernel_rfl) rfl) ?_
  go_frame
  refine ls_op_g rfl (fun K' hK' => ?_)
  have lz19 := hB.size
  have lz20 := hz5.lt
  have lz21 := hz11.lt
  refine wp_call1 (some 14) rfl 45 _ _ rfl (fun args w => by kernel_rfl) _ rfl _ (l05Is_c tp ti tj tk B d xs _ (hX.keep hB) hxl) (fun e Wz17 h => ?_)
  obtain ⟨rfl, bz18⟩ := h
  replace hB := below_after hB bz18
  replace hz5 := hz5.after bz18
  replace hz11 := hz11.after bz18
  rw [Ht.out]
  clear bz18
  refine ⟨_, rfl, ?_⟩
  refine hK' _ _ ?_
  clear hK' K'
  go_frame
  refine ls_ex_g (some 15) (.bool false) rfl rfl (exec_not _ _ rfl true rfl) ?_
  go_frame
  refine ls_ex (some 16) (.bool false) rfl rfl (exec_pick _ _ _ rfl false rfl (.bool false) rfl) ?_
  go_frame
  refine wpList_nil ?_
  go_upto_region 3 with (fail)
  refine wp_region_lit ?_
  refine ls_ex (some 17) (.agg #[.int .i64 P, .int .i64 N0, .int .i64 N1, .int .i64 N2, .slice A qs.length c]) rfl rfl (exec_load_all 29 _ rfl w.heap.size rfl _ _ _ hz5 Try.underlying29 rfl 5 (by kernel_rfl) rfl) ?_
  go_frame
  refine ls_op rfl (fun K' hK' => ?_)
  have lz24 := hB.size
  have lz25 := hz5.lt
  have lz26 := hz11.lt
  refine wp_call1 (some 18) rfl 46 _ _ rfl (fun args w => by kernel_rfl) _ rfl _ (l09Tensor_c P N0 N1 N2 A c qs _ (hR.keep hB) hlen hP l0 l1 l2) (fun e Wz22 h => ?_)
  obtain ⟨v7, rfl, ho, bz23⟩ := h
  replace hB := below_after hB bz23
  replace hz5 := hz5.after bz23
  replace hz11 := hz11.after bz23
  obtain ⟨A7, c7, rfl, _⟩ := ho.rd
  rw [HNt.out] at ho ⊢
  clear bz23
  refine ⟨_, rfl, ?_⟩
  refine hK' _ _ ?_
  clear hK' K'
  go_frame
  refine ls_op rfl (fun K' hK' => ?_)
  have lz27 := hB.size
  have lz28 := hz5.lt
  have lz29 := hz11.lt
  have naz34 := ho.newP_ne
  refine wp_new (some 6) rfl (al_impl_Tensor rfl) (fun Wz30 nnz31 => ?_)
  have bz32 := nnz31.below (Below.refl _ _) (Nat.le_refl _)
  replace hB := below_after hB bz32
  replace hz5 := hz5.after bz32
  replace hz11 := hz11.after bz32
  replace ho := ho.below bz32
  have hz33 : At Wz30 Wz22.heap.size (.cells #[.int .i64 0, .int .i64 0, .int .i64 0, .int .i64 0, .slice none 0 0] 52 (0, 0)) := nnz31.at_
  refine hK' _ _ ?_
  clear hK' K' nnz31 bz32
  go_frame
  refine ls_op rfl (fun K' hK' => ?_)
  refine wp_store_all 52 _ _ rfl rfl Wz22.heap.size rfl #[.int .i64 P, .int .i64 N0, .int .i64 N1, .int .i64 N2, .slice A7 N c7] rfl _ _ hz33 5 (by kernel_rfl) rfl rfl (one5 _ _ _ _ _ _ _) (fun Wz35 pz36 => ?_)
  replace hB := pz36.below hB (by omega)
  replace hz5 := pz36.other hz5 (by omega)
  replace hz11 := pz36.other hz11 (by omega)
  replace ho := ho.put pz36 naz34
  replace hz33 : At Wz35 Wz22.heap.size (.cells #[.int .i64 P, .int .i64 N0, .int .i64 N1, .int .i64 N2, .slice A7 N c7] 52 (0, 0)) := pz36.at_
  refine hK' _ _ ?_
  clear hK' K' pz36
  refine wpList_nil ?_
  go_upto_region 4 with (fail)
  refine wp_region_lit ?_
  refine ls_ex (some 19) (.pointer (some ⟨Wz22.heap.size, 0, none⟩)) rfl rfl (exec_fieldAddr 52 _ 0 rfl _ (by kernel_rfl)) ?_
  go_frame
  refine ls_ex (some 20) (.int .i64 P) rfl rfl (exec_load_one 2 _ rfl Wz22.heap.size 0 rfl (.int .i64 P) _ Try.underlying2 rfl (hz33.at_ 0)) ?_
  go_frame
  refine ls_ex (some 21) (.pointer (some ⟨Wz2.heap.size, 0, none⟩)) rfl rfl (exec_fieldAddr 52 _ 0 rfl _ (by kernel_rfl)) ?_
  go_frame
  refine ls_ex (some 22) (.int .i64 tp) rfl rfl (exec_load_one 2 _ rfl Wz2.heap.size 0 rfl (.int .i64 tp) _ Try.underlying2 rfl (hz11.at_ 0)) ?_
  go_frame
  refine ls_ex (some 23) (.bool true) rfl rfl (exec_eql _ _ _ _ rfl P tp rfl rfl true HQ0.out) ?_
  go_frame
  refine ls_ex (some 24) (.bool true) rfl rfl (exec_move _ rfl (.bool true) rfl) ?_
  go_frame
  refine ls_ex_g (some 25) (.pointer (some ⟨Wz22.heap.size, 1, none⟩)) rfl rfl (exec_fieldAddr 52 _ 1 rfl _ (by kernel_rfl)) ?_
  go_frame
  refine ls_ex_g (some 26) (.int .i64 N0) rfl rfl (exec_load_one 2 _ rfl Wz22.heap.size 1 rfl (.int .i64 N0) _ Try.underlying2 rfl (hz33.at_ 1)) ?_
  go_frame
  refine ls_ex_g (some 27) (.pointer (some ⟨Wz2.heap.size, 1, none⟩)) rfl rfl (exec_fieldAddr 52 _ 1 rfl _ (by kernel_rfl)) ?_
  go_frame
  refine ls_ex_g (some 28) (.int .i64 ti) rfl rfl (exec_load_one 2 _ rfl Wz2.heap.size 1 rfl (.int .i64 ti) _ Try.underlying2 rfl (hz11.at_ 1)) ?_
  go_frame
  refine ls_ex_g (some 29) (.bool true) rfl rfl (exec_eql _ _ _ _ rfl N0 ti rfl rfl true HQ1.out) ?_
  go_frame
  refine ls_ex (some 30) (.bool true) rfl rfl (exec_pick _ _ _ rfl true rfl (.bool true) rfl) ?_
  go_frame
  refine ls_ex (some 31) (.bool true) rfl rfl (exec_move _ rfl (.bool true) rfl) ?_
  go_frame
  refine ls_ex_g (some 32) (.pointer (some ⟨Wz22.heap.size, 2, none⟩)) rfl rfl (exec_fieldAddr 52 _ 2 rfl _ (by kernel_rfl)) ?_
  go_frame
  refine ls_ex_g (some 33) (.int .i64 N1) rfl rfl (exec_load_one 2 _ rfl Wz22.heap.size 2 rfl (.int .i64 N1) _ Try.underlying2 rfl (hz33.at_ 2)) ?_
  go_frame
  refine ls_ex_g (some 34) (.pointer (some ⟨Wz2.heap.size, 2, none⟩)) rfl rfl (exec_fieldAddr 52 _ 2 rfl _ (by kernel_rfl)) ?_
  go_frame
  refine ls_ex_g (some 35) (.int .i64 tj) rfl rfl (exec_load_one 2 _ rfl Wz2.heap.size 2 rfl (.int .i64 tj) _ Try.underlying2 rfl (hz11.at_ 2)) ?_
  go_frame
  refine ls_ex_g (some 36) (.bool true) rfl rfl (exec_eql _ _ _ _ rfl N1 tj rfl rfl true HQ2.out) ?_
  go_frame
  refine ls_ex (some 37) (.bool true) rfl rfl (exec_pick _ _ _ rfl true rfl (.bool true) rfl) ?_
  go_frame
  refine ls_ex (some 38) (.bool true) rfl rfl (exec_move _ rfl (.bool true) rfl) ?_
  go_frame
  refine ls_ex_g (some 39) (.pointer (some ⟨Wz22.heap.size, 3, none⟩)) rfl rfl (exec_fieldAddr 52 _ 3 rfl _ (by kernel_rfl)) ?_
  go_frame
  refine ls_ex_g (some 40) (.int .i64 N2) rfl rfl (exec_load_one 2 _ rfl Wz22.heap.size 3 rfl (.int .i64 N2) _ Try.underlying2 rfl (hz33.at_ 3)) ?_
  go_frame
  refine ls_ex_g (some 41) (.pointer (some ⟨Wz2.heap.size, 3, none⟩)) rfl rfl (exec_fieldAddr 52 _ 3 rfl _ (by kernel_rfl)) ?_
  go_frame
  refine ls_ex_g (some 42) (.int .i64 tk) rfl rfl (exec_load_one 2 _ rfl Wz2.heap.size 3 rfl (.int .i64 tk) _ Try.underlying2 rfl (hz11.at_ 3)) ?_
  go_frame
  refine ls_ex_g (some 43) (.bool true) rfl rfl (exec_eql _ _ _ _ rfl N2 tk rfl rfl true HQ3.out) ?_
  go_frame
  refine ls_ex (some 44) (.bool true) rfl rfl (exec_pick _ _ _ rfl true rfl (.bool true) rfl) ?_
  go_frame
  refine ls_ex (some 7) (.bool true) rfl rfl (exec_assign _ rfl (.bool true) rfl) ?_
  go_frame
  refine wpList_nil ?_
  go_upto_region 5 with (fail)
  refine wp_region_lit ?_
  refine ls_ex (some 8) (.int .i64 0) rfl rfl (exec_assign _ rfl (.int .i64 0) rfl) ?_
  go_frame
  refine wpList_nil ?_
  go_wp2_with fail
  go_loopw [7, 8] (fun s7 s8 wr => ∃ (a : Nat) (b : Bool), a ≤ xs.length ∧ s7 = .bool b ∧ s8 = .int .i64 a ∧ Hid (eqU (topL P N0 N1 N2 qs) xs a = b) ∧ Below w.heap.size w wr ∧ At wr w.heap.size (.cells #[.int .i64 P, .int .i64 N0, .int .i64 N1, .int .i64 N2, .slice A qs.length c] 29 (0, 0)) ∧ At wr Wz2.heap.size (.cells #[.int .i64 tp, .int .i64 ti, .int .i64 tj, .int .i64 tk, .slice B xs.length d] 52 (0, 0)) ∧ At wr Wz22.heap.size (.cells #[.int .i64 P, .int .i64 N0, .int .i64 N1, .int .i64 N2, .slice A7 N c7] 52 (0, 0)) ∧ OwnI wr Wz17.heap.size (.slice A7 N c7) (topL P N0 N1 N2 qs)) (fun _ s8 _ => xs.length - (intOf s8).toNat)
  case atStart => exact ⟨0, true, by omega, rfl, rfl, Lib.hid (eqU_zero _ _), hB, hz5, hz11, hz33, ho⟩
  case round =>
    clear hB hz5 hz11 ho hz33
    obtain ⟨a, b, ha, rfl, rfl, HU, hB, h0, h1, h2, ho⟩ := hrel
    by_cases hlt : a < xs.length
    · cases b with
      | false =>
        have HV : Hid (mfB P N0 N1 N2 qs tp ti tj tk xs = false) := Lib.hid (by rw [HF.out]; exact eqU_no HU.out)
        go_upto_region 6 with (fail)
        refine wp_region_lit ?_
        refine ls_ex (some 45) (.int .i64 a) rfl rfl (exec_move _ rfl (.int .i64 a) rfl) ?_
        go_frame
        refine ls_ex (some 46) (.pointer (some ⟨Wz2.heap.size, 4, none⟩)) rfl rfl (exec_fieldAddr 52 _ 4 rfl _ (by kernel_rfl)) ?_
        go_frame
        refine ls_ex (some 47) (.slice B xs.length d) rfl rfl (exec_load_one 46 _ rfl Wz2.heap.size 4 rfl (.slice B xs.length d) _ Try.underlying46 rfl (h1.at_ 4)) ?_
        go_frame
        refine ls_ex (some 48) (.int .i64 xs.length) rfl rfl (exec_len _ 46 2 rfl B xs.length d rfl Try.underlying46) ?_
        go_frame
        refine ls_ex (some 49) (.bool true) rfl rfl (exec_lss _ _ _ _ rfl a xs.length rfl rfl true (decide_eq_true (by omega))) ?_
        go_frame
        refine ls_ex (some 50) (.bool true) rfl rfl (exec_move _ rfl (.bool true) rfl) ?_
        go_frame
        refine ls_ex_g (some 51) (.bool false) rfl rfl (exec_move _ rfl (.bool false) rfl) ?_
        go_frame
        refine ls_ex (some 52) (.bool false) rfl rfl (exec_pick _ _ _ rfl true rfl (.bool false) rfl) ?_
        go_frame
        refine wpList_nil ?_
        go_upto_region 9 with (fail)
        refine wp_region_lit ?_
        refine ls_ex (some 66) (.bool false) rfl rfl (exec_move _ rfl (.bool false) rfl) ?_
        go_frame
        refine ls_ex (some 4) (.bool false) rfl rfl (exec_assign _ rfl (.bool false) rfl) ?_
        go_frame
        refine ls_ex (some 5) (.int .i64 0) rfl rfl (exec_assign _ rfl (.int .i64 0) rfl) ?_
        go_frame
        refine wpList_nil ?_
        go_wp2_with fail
        go_ret2
        exact ⟨by rw [HV.out, HC.out]; rfl, hB⟩
      | true =>
        have hxn := Hxs.out
        obtain ⟨b1, o1, rfl, hc1⟩ := ho.rd'.at_ (i := a) (by rw [HNt.out]; omega)
        obtain ⟨b2, o2, rfl, hc2⟩ := (hX.keep hB).at_ hlt
        clear hc1 hc2
        have hlt1 : a < (topL P N0 N1 N2 qs).length := by rw [HNt.out]; omega
        have HSt := Lib.hid (eqU_step hlt1 hlt HU.out)
        have hno := fun h => eqU_no (xs := topL P N0 N1 N2 qs) (ys := xs) (i := a + 1) h
        have HrO := Lib.hid (fun (W : World) (h : OwnI W Wz17.heap.size (.slice (some ⟨b1, o1, none⟩) N c7) (topL P N0 N1 N2 qs)) => RdI.c1m h.rd' hlt1)
        obtain ⟨x, hx⟩ : ∃ x, (topL P N0 N1 N2 qs)[a] = x := ⟨_, rfl⟩
        obtain ⟨y, hy⟩ : ∃ y, xs[a] = y := ⟨_, rfl⟩
        rw [hx, hy] at HSt
        have Hx := Lib.hid hx
        have Hy := Lib.hid hy
        clear hx hy
        by_cases hxy : x = y
        · have HU2 : Hid (eqU (topL P N0 N1 N2 qs) xs (a + 1) = true) := Lib.hid (by rw [HSt.out]; simp [hxy])
          have Hxy : Hid ((x == y) = true) := Lib.hid (by simp [hxy])
          clear hxy hno
          go_upto_region 6 with (fail)
          refine wp_region_lit ?_
          refine ls_ex (some 45) (.int .i64 a) rfl rfl (exec_move _ rfl (.int .i64 a) rfl) ?_
          go_frame
          refine ls_ex (some 46) (.pointer (some ⟨Wz2.heap.size, 4, none⟩)) rfl rfl (exec_fieldAddr 52 _ 4 rfl _ (by kernel_rfl)) ?_
          go_frame
          refine ls_ex (some 47) (.slice (some ⟨b2, o2, none⟩) xs.length d) rfl rfl (exec_load_one 46 _ rfl Wz2.heap.size 4 rfl (.slice (some ⟨b2, o2, none⟩) xs.length d) _ Try.underlying46 rfl (h1.at_ 4)) ?_
          go_frame
          refine ls_ex (some 48) (.int .i64 xs.length) rfl rfl (exec_len _ 46 2 rfl ((some ⟨b2, o2, none⟩)) xs.length d rfl Try.underlying46) ?_
          go_frame
          refine ls_ex (some 49) (.bool true) rfl rfl (exec_lss _ _ _ _ rfl a xs.length rfl rfl true (decide_eq_true (by omega))) ?_
          go_frame
          refine ls_ex (some 50) (.bool true) rfl rfl (exec_move _ rfl (.bool true) rfl) ?_
          go_frame
          refine ls_ex_g (some 51) (.bool true) rfl rfl (exec_move _ rfl (.bool true) rfl) ?_
          go_frame
          refine ls_ex (some 52) (.bool true) rfl rfl (exec_pick _ _ _ rfl true rfl (.bool true) rfl) ?_
          go_frame
          refine wpList_nil ?_
          go_upto_region 8 with (fail)
          refine wp_region_y (zs := []) (S := fun w' => Below w.heap.size w w' ∧ At w' Wz22.heap.size (.cells #[.int .i64 P, .int .i64 N0, .int .i64 N1, .int .i64 N2, .slice (some ⟨b1, o1, none⟩) N c7] 52 (0, 0)) ∧ OwnI w' Wz17.heap.size (.slice (some ⟨b1, o1, none⟩) N c7) (topL P N0 N1 N2 qs) ∧ At w' Wz2.heap.size (.cells #[.int .i64 tp, .int .i64 ti, .int .i64 tj, .int .i64 tk, .slice (some ⟨b2, o2, none⟩) xs.length d] 52 (0, 0))) (S2 := fun w' => True) (by kernel_rfl) ?_
          change wpAnyY _ _ _ _ _ _ _ _ _ _ (World.drew _)
          generalize hwdz37 : World.drew _ = wdz37
          replace hB : Below w.heap.size w wdz37 := by rw [← hwdz37]; exact hB.drew
          replace h0 : At wdz37 w.heap.size (.cells #[.int .i64 P, .int .i64 N0, .int .i64 N1, .int .i64 N2, .slice A qs.length c] 29 (0, 0)) := by rw [← hwdz37]; exact h0
          replace h1 : At wdz37 Wz2.heap.size (.cells #[.int .i64 tp, .int .i64 ti, .int .i64 tj, .int .i64 tk, .slice (some ⟨b2, o2, none⟩) xs.length d] 52 (0, 0)) := by rw [← hwdz37]; exact h1
          replace h2 : At wdz37 Wz22.heap.size (.cells #[.int .i64 P, .int .i64 N0, .int .i64 N1, .int .i64 N2, .slice (some ⟨b1, o1, none⟩) N c7] 52 (0, 0)) := by rw [← hwdz37]; exact h2
          replace ho : OwnI wdz37 Wz17.heap.size (.slice (some ⟨b1, o1, none⟩) N c7) (topL P N0 N1 N2 qs) := by rw [← hwdz37]; exact ho.drew
          clear hwdz37
          refine y_yield 0 (some 55) (.pointer (some ⟨Wz22.heap.size, 4, none⟩)) rfl (by kernel_rfl) (by kernel_rfl) (by kernel_rfl) (fun _ _ _ h => h) rfl rfl ⟨hB, h2, ho, h1⟩ (fun w' h' => exec_fieldAddr 52 _ 4 rfl _ (by kernel_rfl)) ?_
          go_frame
          refine y_yield 1 (some 56) (.slice (some ⟨b1, o1, none⟩) N c7) rfl (by kernel_rfl) (by kernel_rfl) (by kernel_rfl) (fun _ _ _ h => h) rfl rfl ⟨hB, h2, ho, h1⟩ (fun w' h' => exec_load_one 46 _ rfl Wz22.heap.size 4 rfl (.slice (some ⟨b1, o1, none⟩) N c7) _ Try.underlying46 rfl (h'.2.1.at_ 4)) ?_
          go_frame
          refine y_yield 2 (some 57) (.int .i64 a) rfl (by kernel_rfl) (by kernel_rfl) (by kernel_rfl) (fun _ _ _ h => h) rfl rfl ⟨hB, h2, ho, h1⟩ (fun w' h' => exec_move _ rfl (.int .i64 a) rfl) ?_
          go_frame
          refine y_yield 3 (some 58) (.pointer (some ⟨b1, o1 + a * 1, none⟩)) rfl (by kernel_rfl) (by kernel_rfl) (by kernel_rfl) (fun _ _ _ h => h) rfl rfl ⟨hB, h2, ho, h1⟩ (fun w' h' => exec_index_slice _ 2 _ _ rfl b1 o1 N c7 a 1 rfl rfl Try.underlying46 (by kernel_rfl) (by omega)) ?_
          go_frame
          refine y_yield 4 (some 59) (.int .i64 x) rfl (by kernel_rfl) (by kernel_rfl) (by kernel_rfl) (fun _ _ _ h => h) rfl rfl ⟨hB, h2, ho, h1⟩ (fun w' h' => exec_load_one 2 _ rfl b1 (o1 + a * 1) rfl (.int .i64 x) _ Try.underlying2 rfl (by rw [← Hx.out]; exact HrO.out _ h'.2.2.1)) ?_
          go_frame
          refine y_yield 5 (some 60) (.pointer (some ⟨Wz2.heap.size, 4, none⟩)) rfl (by kernel_rfl) (by kernel_rfl) (by kernel_rfl) (fun _ _ _ h => h) rfl rfl ⟨hB, h2, ho, h1⟩ (fun w' h' => exec_fieldAddr 52 _ 4 rfl _ (by kernel_rfl)) ?_
          go_frame
          refine y_yield 6 (some 61) (.slice (some ⟨b2, o2, none⟩) xs.length d) rfl (by kernel_rfl) (by kernel_rfl) (by kernel_rfl) (fun _ _ _ h => h) rfl rfl ⟨hB, h2, ho, h1⟩ (fun w' h' => exec_load_one 46 _ rfl Wz2.heap.size 4 rfl (.slice (some ⟨b2, o2, none⟩) xs.length d) _ Try.underlying46 rfl (h'.2.2.2.at_ 4)) ?_
          go_frame
          refine y_yield 7 (some 62) (.int .i64 a) rfl (by kernel_rfl) (by kernel_rfl) (by kernel_rfl) (fun _ _ _ h => h) rfl rfl ⟨hB, h2, ho, h1⟩ (fun w' h' => exec_move _ rfl (.int .i64 a) rfl) ?_
          go_frame
          refine y_yield 8 (some 63) (.pointer (some ⟨b2, o2 + a * 1, none⟩)) rfl (by kernel_rfl) (by kernel_rfl) (by kernel_rfl) (fun _ _ _ h => h) rfl rfl ⟨hB, h2, ho, h1⟩ (fun w' h' => exec_index_slice _ 2 _ _ rfl b2 o2 xs.length d a 1 rfl rfl Try.underlying46 (by kernel_rfl) hlt) ?_
          go_frame
          refine y_yield 9 (some 64) (.int .i64 y) rfl (by kernel_rfl) (by kernel_rfl) (by kernel_rfl) (fun _ _ _ h => h) rfl rfl ⟨hB, h2, ho, h1⟩ (fun w' h' => exec_load_one 2 _ rfl b2 (o2 + a * 1) rfl (.int .i64 y) _ Try.underlying2 rfl (by rw [← Hy.out]; exact RdI.c1m (hX.keep h'.1) hlt)) ?_
          go_frame
          refine y_yield 10 (some 65) (.bool true) rfl (by kernel_rfl) (by kernel_rfl) (by kernel_rfl) (fun _ _ _ h => h) rfl rfl ⟨hB, h2, ho, h1⟩ (fun w' h' => exec_eql _ _ _ _ rfl x y rfl rfl true Hxy.out) ?_
          go_frame
          refine y_oper 11 (by kernel_rfl) rfl rfl (fun K' hK' => ?_)
          refine wp_exec (some 7) rfl (.bool true) (exec_assign _ rfl (.bool true) rfl) ?_
          refine hK' _ _ ⟨hB, h2, ho, h1⟩ (fun _ => trivial) ?_
          clear hK' K'
          go_frame
          refine y_done (by kernel_rfl) ?_ _
          go_upto_region 7 with (fail)
          refine wp_region_lit ?_
          refine ls_ex (some 53) (.int .i64 a) rfl rfl (exec_move _ rfl (.int .i64 a) rfl) ?_
          go_frame
          refine ls_ex (some 54) (.int .i64 (a + 1)) rfl rfl (exec_add _ _ _ _ rfl a 1 (a + 1) rfl rfl (IntWalk.i64_in _ (by omega))) ?_
          go_frame
          refine ls_ex (some 8) (.int .i64 (a + 1)) rfl rfl (exec_assign _ rfl (.int .i64 (a + 1)) rfl) ?_
          go_frame
          refine wpList_nil ?_
          go_wp2_with fail
          go_roundw
          case rel => exact ⟨a + 1, true, by omega, rfl, by go_num, HU2, hB, h0, h1, h2, ho⟩
          case measure => simp [intOf]; omega
        · have HU2 : Hid (eqU (topL P N0 N1 N2 qs) xs (a + 1) = false) := Lib.hid (by rw [HSt.out]; simp [hxy])
          have Hxy : Hid ((x == y) = false) := Lib.hid (by simp [hxy])
          clear hxy hno
          go_upto_region 6 with (fail)
          refine wp_region_lit ?_
          refine ls_ex (some 45) (.int .i64 a) rfl rfl (exec_move _ rfl (.int .i64 a) rfl) ?_
          go_frame
          refine ls_ex (some 46) (.pointer (some ⟨Wz2.heap.size, 4, none⟩)) rfl rfl (exec_fieldAddr 52 _ 4 rfl _ (by kernel_rfl)) ?_
          go_frame
          refine ls_ex (some 47) (.slice (some ⟨b2, o2, none⟩) xs.length d) rfl rfl (exec_load_one 46 _ rfl Wz2.heap.size 4 rfl (.slice (some ⟨b2, o2, none⟩) xs.length d) _ Try.underlying46 rfl (h1.at_ 4)) ?_
          go_frame
          refine ls_ex (some 48) (.int .i64 xs.length) rfl rfl (exec_len _ 46 2 rfl ((some ⟨b2, o2, none⟩)) xs.length d rfl Try.underlying46) ?_
          go_frame
          refine ls_ex (some 49) (.bool true) rfl rfl (exec_lss _ _ _ _ rfl a xs.length rfl rfl true (decide_eq_true (by omega))) ?_
          go_frame
          refine ls_ex (some 50) (.bool true) rfl rfl (exec_move _ rfl (.bool true) rfl) ?_
          go_frame
          refine ls_ex_g (some 51) (.bool true) rfl rfl (exec_move _ rfl (.bool true) rfl) ?_
          go_frame
          refine ls_ex (some 52) (.bool true) rfl rfl (exec_pick _ _ _ rfl true rfl (.bool true) rfl) ?_
          go_frame
          refine wpList_nil ?_
          go_upto_region 8 with (fail)
          refine wp_region_y (zs := []) (S := fun w' => Below w.heap.size w w' ∧ At w' Wz22.heap.size (.cells #[.int .i64 P, .int .i64 N0, .int .i64 N1, .int .i64 N2, .slice (some ⟨b1, o1, none⟩) N c7] 52 (0, 0)) ∧ OwnI w' Wz17.heap.size (.slice (some ⟨b1, o1, none⟩) N c7) (topL P N0 N1 N2 qs) ∧ At w' Wz2.heap.size (.cells #[.int .i64 tp, .int .i64 ti, .int .i64 tj, .int .i64 tk, .slice (some ⟨b2, o2, none⟩) xs.length d] 52 (0, 0))) (S2 := fun w' => True) (by kernel_rfl) ?_
          change wpAnyY _ _ _ _ _ _ _ _ _ _ (World.drew _)
          generalize hwdz38 : World.drew _ = wdz38
          replace hB : Below w.heap.size w wdz38 := by rw [← hwdz38]; exact hB.drew
          replace h0 : At wdz38 w.heap.size (.cells #[.int .i64 P, .int .i64 N0, .int .i64 N1, .int .i64 N2, .slice A qs.length c] 29 (0, 0)) := by rw [← hwdz38]; exact h0
          replace h1 : At wdz38 Wz2.heap.size (.cells #[.int .i64 tp, .int .i64 ti, .int .i64 tj, .int .i64 tk, .slice (some ⟨b2, o2, none⟩) xs.length d] 52 (0, 0)) := by rw [← hwdz38]; exact h1
          replace h2 : At wdz38 Wz22.heap.size (.cells #[.int .i64 P, .int .i64 N0, .int .i64 N1, .int .i64 N2, .slice (some ⟨b1, o1, none⟩) N c7] 52 (0, 0)) := by rw [← hwdz38]; exact h2
          replace ho : OwnI wdz38 Wz17.heap.size (.slice (some ⟨b1, o1, none⟩) N c7) (topL P N0 N1 N2 qs) := by rw [← hwdz38]; exact ho.drew
          clear hwdz38
          refine y_yield 0 (some 55) (.pointer (some ⟨Wz22.heap.size, 4, none⟩)) rfl (by kernel_rfl) (by kernel_rfl) (by kernel_rfl) (fun _ _ _ h => h) rfl rfl ⟨hB, h2, ho, h1⟩ (fun w' h' => exec_fieldAddr 52 _ 4 rfl _ (by kernel_rfl)) ?_
          go_frame
          refine y_yield 1 (some 56) (.slice (some ⟨b1, o1, none⟩) N c7) rfl (by kernel_rfl) (by kernel_rfl) (by kernel_rfl) (fun _ _ _ h => h) rfl rfl ⟨hB, h2, ho, h1⟩ (fun w' h' => exec_load_one 46 _ rfl Wz22.heap.size 4 rfl (.slice (some ⟨b1, o1, none⟩) N c7) _ Try.underlying46 rfl (h'.2.1.at_ 4)) ?_
          go_frame
          refine y_yield 2 (some 57) (.int .i64 a) rfl (by kernel_rfl) (by kernel_rfl) (by kernel_rfl) (fun _ _ _ h => h) rfl rfl ⟨hB, h2, ho, h1⟩ (fun w' h' => exec_move _ rfl (.int .i64 a) rfl) ?_
          go_frame
          refine y_yield 3 (some 58) (.pointer (some ⟨b1, o1 + a * 1, none⟩)) rfl (by kernel_rfl) (by kernel_rfl) (by kernel_rfl) (fun _ _ _ h => h) rfl rfl ⟨hB, h2, ho, h1⟩ (fun w' h' => exec_index_slice _ 2 _ _ rfl b1 o1 N c7 a 1 rfl rfl Try.underlying46 (by kernel_rfl) (by omega)) ?_
          go_frame
          refine y_yield 4 (some 59) (.int .i64 x) rfl (by kernel_rfl) (by kernel_rfl) (by kernel_rfl) (fun _ _ _ h => h) rfl rfl ⟨hB, h2, ho, h1⟩ (fun w' h' => exec_load_one 2 _ rfl b1 (o1 + a * 1) rfl (.int .i64 x) _ Try.underlying2 rfl (by rw [← Hx.out]; exact HrO.out _ h'.2.2.1)) ?_
          go_frame
          refine y_yield 5 (some 60) (.pointer (some ⟨Wz2.heap.size, 4, none⟩)) rfl (by kernel_rfl) (by kernel_rfl) (by kernel_rfl) (fun _ _ _ h => h) rfl rfl ⟨hB, h2, ho, h1⟩ (fun w' h' => exec_fieldAddr 52 _ 4 rfl _ (by kernel_rfl)) ?_
          go_frame
          refine y_yield 6 (some 61) (.slice (some ⟨b2, o2, none⟩) xs.length d) rfl (by kernel_rfl) (by kernel_rfl) (by kernel_rfl) (fun _ _ _ h => h) rfl rfl ⟨hB, h2, ho, h1⟩ (fun w' h' => exec_load_one 46 _ rfl Wz2.heap.size 4 rfl (.slice (some ⟨b2, o2, none⟩) xs.length d) _ Try.underlying46 rfl (h'.2.2.2.at_ 4)) ?_
          go_frame
          refine y_yield 7 (some 62) (.int .i64 a) rfl (by kernel_rfl) (by kernel_rfl) (by kernel_rfl) (fun _ _ _ h => h) rfl rfl ⟨hB, h2, ho, h1⟩ (fun w' h' => exec_move _ rfl (.int .i64 a) rfl) ?_
          go_frame
          refine y_yield 8 (some 63) (.pointer (some ⟨b2, o2 + a * 1, none⟩)) rfl (by kernel_rfl) (by kernel_rfl) (by kernel_rfl) (fun _ _ _ h => h) rfl rfl ⟨hB, h2, ho, h1⟩ (fun w' h' => exec_index_slice _ 2 _ _ rfl b2 o2 xs.length d a 1 rfl rfl Try.underlying46 (by kernel_rfl) hlt) ?_
          go_frame
          refine y_yield 9 (some 64) (.int .i64 y) rfl (by kernel_rfl) (by kernel_rfl) (by kernel_rfl) (fun _ _ _ h => h) rfl rfl ⟨hB, h2, ho, h1⟩ (fun w' h' => exec_load_one 2 _ rfl b2 (o2 + a * 1) rfl (.int .i64 y) _ Try.underlying2 rfl (by rw [← Hy.out]; exact RdI.c1m (hX.keep h'.1) hlt)) ?_
          go_frame
          refine y_yield 10 (some 65) (.bool false) rfl (by kernel_rfl) (by kernel_rfl) (by kernel_rfl) (fun _ _ _ h => h) rfl rfl ⟨hB, h2, ho, h1⟩ (fun w' h' => exec_eql _ _ _ _ rfl x y rfl rfl false Hxy.out) ?_
          go_frame
          refine y_oper 11 (by kernel_rfl) rfl rfl (fun K' hK' => ?_)
          refine wp_exec (some 7) rfl (.bool false) (exec_assign _ rfl (.bool false) rfl) ?_
          refine hK' _ _ ⟨hB, h2, ho, h1⟩ (fun _ => trivial) ?_
          clear hK' K'
          go_frame
          refine y_done (by kernel_rfl) ?_ _
          go_upto_region 7 with (fail)
          refine wp_region_lit ?_
          refine ls_ex (some 53) (.int .i64 a) rfl rfl (exec_move _ rfl (.int .i64 a) rfl) ?_
          go_frame
          refine ls_ex (some 54) (.int .i64 (a + 1)) rfl rfl (exec_add _ _ _ _ rfl a 1 (a + 1) rfl rfl (IntWalk.i64_in _ (by omega))) ?_
          go_frame
          refine ls_ex (some 8) (.int .i64 (a + 1)) rfl rfl (exec_assign _ rfl (.int .i64 (a + 1)) rfl) ?_
          go_frame
          refine wpList_nil ?_
          go_wp2_with fail
          go_roundw
          case rel => exact ⟨a + 1, false, by omega, rfl, by go_num, HU2, hB, h0, h1, h2, ho⟩
          case measure => simp [intOf]; omega
    · cases b with
      | false =>
        have HV : Hid (mfB P N0 N1 N2 qs tp ti tj tk xs = false) := Lib.hid (by rw [HF.out]; exact eqU_no HU.out)
        go_upto_region 6 with (fail)
        refine wp_region_lit ?_
        refine ls_ex (some 45) (.int .i64 a) rfl rfl (exec_move _ rfl (.int .i64 a) rfl) ?_
        go_frame
        refine ls_ex (some 46) (.pointer (some ⟨Wz2.heap.size, 4, none⟩)) rfl rfl (exec_fieldAddr 52 _ 4 rfl _ (by kernel_rfl)) ?_
        go_frame
        refine ls_ex (some 47) (.slice B xs.length d) rfl rfl (exec_load_one 46 _ rfl Wz2.heap.size 4 rfl (.slice B xs.length d) _ Try.underlying46 rfl (h1.at_ 4)) ?_
        go_frame
        refine ls_ex (some 48) (.int .i64 xs.length) rfl rfl (exec_len _ 46 2 rfl B xs.length d rfl Try.underlying46) ?_
        go_frame
        refine ls_ex (some 49) (.bool false) rfl rfl (exec_lss _ _ _ _ rfl a xs.length rfl rfl false (decide_eq_false (by omega))) ?_
        go_frame
        refine ls_ex (some 50) (.bool false) rfl rfl (exec_move _ rfl (.bool false) rfl) ?_
        go_frame
        refine ls_skip_g (some 51) rfl rfl ?_
        go_frame
        refine ls_ex (some 52) (.bool false) rfl rfl (exec_pick _ _ _ rfl false rfl (.bool false) rfl) ?_
        go_frame
        refine wpList_nil ?_
        go_upto_region 9 with (fail)
        refine wp_region_lit ?_
        refine ls_ex (some 66) (.bool false) rfl rfl (exec_move _ rfl (.bool false) rfl) ?_
        go_frame
        refine ls_ex (some 4) (.bool false) rfl rfl (exec_assign _ rfl (.bool false) rfl) ?_
        go_frame
        refine ls_ex (some 5) (.int .i64 0) rfl rfl (exec_assign _ rfl (.int .i64 0) rfl) ?_
        go_frame
        refine wpList_nil ?_
        go_wp2_with fail
        go_ret2
        exact ⟨by rw [HV.out, HC.out]; rfl, hB⟩
      | true =>
        have HV : Hid (mfB P N0 N1 N2 qs tp ti tj tk xs = true) := Lib.hid (by rw [HF.out, ← eqU_all HNt.out Hxs.out, ← show a = N by have := Hxs.out; omega]; exact HU.out)
        go_upto_region 6 with (fail)
        refine wp_region_lit ?_
        refine ls_ex (some 45) (.int .i64 a) rfl rfl (exec_move _ rfl (.int .i64 a) rfl) ?_
        go_frame
        refine ls_ex (some 46) (.pointer (some ⟨Wz2.heap.size, 4, none⟩)) rfl rfl (exec_fieldAddr 52 _ 4 rfl _ (by kernel_rfl)) ?_
        go_frame
        refine ls_ex (some 47) (.slice B xs.length d) rfl rfl (exec_load_one 46 _ rfl Wz2.heap.size 4 rfl (.slice B xs.length d) _ Try.underlying46 rfl (h1.at_ 4)) ?_
        go_frame
        refine ls_ex (some 48) (.int .i64 xs.length) rfl rfl (exec_len _ 46 2 rfl B xs.length d rfl Try.underlying46) ?_
        go_frame
        refine ls_ex (some 49) (.bool false) rfl rfl (exec_lss _ _ _ _ rfl a xs.length rfl rfl false (decide_eq_false (by omega))) ?_
        go_frame
        refine ls_ex (some 50) (.bool false) rfl rfl (exec_move _ rfl (.bool false) rfl) ?_
        go_frame
        refine ls_skip_g (some 51) rfl rfl ?_
        go_frame
        refine ls_ex (some 52) (.bool false) rfl rfl (exec_pick _ _ _ rfl false rfl (.bool false) rfl) ?_
        go_frame
        refine wpList_nil ?_
        go_upto_region 9 with (fail)
        refine wp_region_lit ?_
        refine ls_ex (some 66) (.bool true) rfl rfl (exec_move _ rfl (.bool true) rfl) ?_
        go_frame
        refine ls_ex (some 4) (.bool true) rfl rfl (exec_assign _ rfl (.bool true) rfl) ?_
        go_frame
        refine ls_ex (some 5) (.int .i64 0) rfl rfl (exec_assign _ rfl (.int .i64 0) rfl) ?_
        go_frame
        refine wpList_nil ?_
        go_wp2_with fail
        go_ret2
        exact ⟨by rw [HV.out, HC.out]; rfl, hB⟩
theorem specMethodFits_c (p i j k : Int) (A : Option Addr) (c : Nat) (qs : List (List Nat)) (tp ti tj tk : Int) (B : Option Addr) (d : Nat) (xs : List Int) (w : World) (hR : Rd w A qs) (hlen : qs.length ≤ 1048576) (hX : RdI w B xs) (hxl : xs.length ≤ 1048576) : Calls Try.prog 23 #[.agg #[.int .i64 p, .int .i64 i, .int .i64 j, .int .i64 k, .slice A qs.length c], .agg #[.int .i64 tp, .int .i64 ti, .int .i64 tj, .int .i64 tk, .slice B xs.length d]] w (fun e w' => e = .returned (.tuple #[.bool (mfB p i j k qs tp ti tj tk xs), .int .i64 (mfCode p i j k qs tp ti tj tk xs)]) ∧ Below w.heap.size w w') := by
  cases hs : methB p i j k qs with
  | false => exact specMf_a p i j k A c qs tp ti tj tk B d xs w hR hlen hX hxl hs
  | true =>
    cases ht : tenB tp ti tj tk xs with
    | false => exact specMf_b p i j k A c qs tp ti tj tk B d xs w hR hlen hX hxl hs ht
    | true =>
      obtain ⟨P, N0, N1, N2, rfl, rfl, rfl, rfl, hP, l0, l1, l2⟩ := methB_nums hs
      cases hq0 : ((P : Int) == tp) with
      | false => exact specMf_q0 P N0 N1 N2 A c qs tp ti tj tk B d xs w hR (methB_parts hs).2.2.2.2.1 hX hxl hP l0 l1 l2 hs ht hq0
      | true =>
        cases hq1 : ((N0 : Int) == ti) with
        | false => exact specMf_q1 P N0 N1 N2 A c qs tp ti tj tk B d xs w hR (methB_parts hs).2.2.2.2.1 hX hxl hP l0 l1 l2 hs ht hq0 hq1
        | true =>
          cases hq2 : ((N1 : Int) == tj) with
          | false => exact specMf_q2 P N0 N1 N2 A c qs tp ti tj tk B d xs w hR (methB_parts hs).2.2.2.2.1 hX hxl hP l0 l1 l2 hs ht hq0 hq1 hq2
          | true =>
            cases hq3 : ((N2 : Int) == tk) with
            | false => exact specMf_q3 P N0 N1 N2 A c qs tp ti tj tk B d xs w hR (methB_parts hs).2.2.2.2.1 hX hxl hP l0 l1 l2 hs ht hq0 hq1 hq2 hq3
            | true => exact specMf_q P N0 N1 N2 A c qs tp ti tj tk B d xs w hR (methB_parts hs).2.2.2.2.1 hX hxl hP l0 l1 l2 hs ht hq0 hq1 hq2 hq3
set_option maxHeartbeats 4000000 in
theorem implMf_a (p i j k : Int) (A : Option Addr) (c : Nat) (qs : List (List Nat)) (tp ti tj tk : Int) (B : Option Addr) (d : Nat) (xs : List Int) (w : World) (hR : Rd w A qs) (hlen : qs.length ≤ 1048576) (hX : RdI w B xs) (hxl : xs.length ≤ 1048576) (hs : methB p i j k qs = false) :
    Calls Try.prog 25 #[.agg #[.int .i64 p, .int .i64 i, .int .i64 j, .int .i64 k, .slice A qs.length c], .agg #[.int .i64 tp, .int .i64 ti, .int .i64 tj, .int .i64 tk, .slice B xs.length d]] w (fun e w' => e = .returned (.tuple #[.bool (mfB p i j k qs tp ti tj tk xs), .int .i64 (mfCode p i j k qs tp ti tj tk xs)]) ∧ Below w.heap.size w w') := by
  have hB := Below.refl w.heap.size w
  have _u0 := hX
  have _u1 := hxl
  clear _u0 _u1
  have HC : Hid (mfCode p i j k qs tp ti tj tk xs = 1) := Lib.hid (by simp [mfCode, hs])
  have HV : Hid (mfB p i j k qs tp ti tj tk xs = false) := Lib.hid (by simp [mfB, hs])
  have Hs := Lib.hid hs
  clear hs
  go_enter Try.func25, Try.ntmps25
  go_upto_region 0 with (fail)
  refine wp_region_lit ?_
  refine ls_op rfl (fun K' hK' => ?_)
  have lz1 := hB.size
  refine wp_new (some 2) rfl (exec_box 29 _ rfl (#[.int .i64 p, .int .i64 i, .int .i64 j, .int .i64 k, .slice A qs.length c]) rfl) (fun Wz2 nnz3 => ?_)
  have bz4 := nnz3.below (Below.refl _ _) (Nat.le_refl _)
  replace hB := below_after hB bz4
  have hz5 : At Wz2 w.heap.size (.cells #[.int .i64 p, .int .i64 i, .int .i64 j, .int .i64 k, .slice A qs.length c] 29 (0, 0)) := nnz3.at_
  refine hK' _ _ ?_
  clear hK' K' nnz3 bz4
  go_frame
  refine ls_op rfl (fun K' hK' => ?_)
  have lz6 := hB.size
  have lz7 := hz5.lt
  refine wp_new (some 3) rfl (exec_box 52 _ rfl (#[.int .i64 tp, .int .i64 ti, .int .i64 tj, .int .i64 tk, .slice B xs.length d]) rfl) (fun Wz8 nnz9 => ?_)
  have bz10 := nnz9.below (Below.refl _ _) (Nat.le_refl _)
  replace hB := below_after hB bz10
  replace hz5 := hz5.after bz10
  have hz11 : At Wz8 Wz2.heap.size (.cells #[.int .i64 tp, .int .i64 ti, .int .i64 tj, .int .i64 tk, .slice B xs.length d] 52 (0, 0)) := nnz9.at_
  refine hK' _ _ ?_
  clear hK' K' nnz9 bz10
  go_frame
  refine ls_ex (some 4) (.bool false) rfl rfl (exec_assign _ rfl (.bool false) rfl) ?_
  go_frame
  refine ls_ex (some 5) (.int .i64 0) rfl rfl (exec_assign _ rfl (.int .i64 0) rfl) ?_
  go_frame
  refine wpList_nil ?_
  go_upto_region 1 with (fail)
  refine wp_region_lit ?_
  refine ls_ex (some 7) (.agg #[.int .i64 p, .int .i64 i, .int .i64 j, .int .i64 k, .slice A qs.length c]) rfl rfl (exec_load_all 29 _ rfl w.heap.size rfl _ _ _ hz5 Try.underlying29 rfl 5 (by kernel_rfl) rfl) ?_
  go_frame
  refine ls_op rfl (fun K' hK' => ?_)
  have lz14 := hB.size
  have lz15 := hz5.lt
  have lz16 := hz11.lt
  refine wp_call1 (some 8) rfl 10 _ _ rfl (fun args w => by kernel_rfl) _ rfl _ (implIsMethod_c p i j k A c qs _ (hR.keep hB) (by omega)) (fun e Wz12 h => ?_)
  obtain ⟨rfl, bz13⟩ := h
  replace hB := below_after hB bz13
  replace hz5 := hz5.after bz13
  replace hz11 := hz11.after bz13
  rw [Hs.out]
  clear bz13
  refine ⟨_, rfl, ?_⟩
  refine hK' _ _ ?_
  clear hK' K'
  go_frame
  refine ls_ex (some 9) (.bool true) rfl rfl (exec_not _ _ rfl false rfl) ?_
  go_frame
  refine ls_ex (some 10) (.bool true) rfl rfl (exec_move _ rfl (.bool true) rfl) ?_
  go_frame
  refine ls_skip_g (some 11) rfl rfl ?_
  go_frame
  refine ls_skip_g (some 12) rfl rfl ?_
  go_frame
  refine ls_skip_g (some 13) rfl rfl ?_
  go_frame
  refine ls_ex (some 14) (.bool true) rfl rfl (exec_pick _ _ _ rfl true rfl (.bool true) rfl) ?_
  go_frame
  refine wpList_nil ?_
  go_upto_region 2 with (fail)
  refine wp_region_lit ?_
  refine ls_ex (some 4) (.bool false) rfl rfl (exec_assign _ rfl (.bool false) rfl) ?_
  go_frame
  refine ls_ex (some 5) (.int .i64 1) rfl rfl (exec_assign _ rfl (.int .i64 1) rfl) ?_
  go_frame
  refine wpList_nil ?_
  go_wp2_with fail
  go_ret2
  exact ⟨by rw [HV.out, HC.out]; rfl, hB⟩
set_option maxHeartbeats 4000000 in
theorem implMf_b (p i j k : Int) (A : Option Addr) (c : Nat) (qs : List (List Nat)) (tp ti tj tk : Int) (B : Option Addr) (d : Nat) (xs : List Int) (w : World) (hR : Rd w A qs) (hlen : qs.length ≤ 1048576) (hX : RdI w B xs) (hxl : xs.length ≤ 1048576) (hs : methB p i j k qs = true) (ht : tenB tp ti tj tk xs = false) :
    Calls Try.prog 25 #[.agg #[.int .i64 p, .int .i64 i, .int .i64 j, .int .i64 k, .slice A qs.length c], .agg #[.int .i64 tp, .int .i64 ti, .int .i64 tj, .int .i64 tk, .slice B xs.length d]] w (fun e w' => e = .returned (.tuple #[.bool (mfB p i j k qs tp ti tj tk xs), .int .i64 (mfCode p i j k qs tp ti tj tk xs)]) ∧ Below w.heap.size w w') := by
  have hB := Below.refl w.heap.size w
  have HC : Hid (mfCode p i j k qs tp ti tj tk xs = 1) := Lib.hid (by simp [mfCode, hs, ht])
  have HV : Hid (mfB p i j k qs tp ti tj tk xs = false) := Lib.hid (by simp [mfB, hs, ht])
  have Hs := Lib.hid hs
  have Ht := Lib.hid ht
  clear hs ht
  go_enter Try.func25, Try.ntmps25
  go_upto_region 0 with (fail)
  refine wp_region_lit ?_
  refine ls_op rfl (fun K' hK' => ?_)
  have lz1 := hB.size
  refine wp_new (some 2) rfl (exec_box 29 _ rfl (#[.int .i64 p, .int .i64 i, .int .i64 j, .int .i64 k, .slice A qs.length c]) rfl) (fun Wz2 nnz3 => ?_)
  have bz4 := nnz3.below (Below.refl _ _) (Nat.le_refl _)
  replace hB := below_after hB bz4
  have hz5 : At Wz2 w.heap.size (.cells #[.int .i64 p, .int .i64 i, .int .i64 j, .int .i64 k, .slice A qs.length c] 29 (0, 0)) := nnz3.at_
  refine hK' _ _ ?_
  clear hK' K' nnz3 bz4
  go_frame
  refine ls_op rfl (fun K' hK' => ?_)
  have lz6 := hB.size
  have lz7 := hz5.lt
  refine wp_new (some 3) rfl (exec_box 52 _ rfl (#[.int .i64 tp, .int .i64 ti, .int .i64 tj, .int .i64 tk, .slice B xs.length d]) rfl) (fun Wz8 nnz9 => ?_)
  have bz10 := nnz9.below (Below.refl _ _) (Nat.le_refl _)
  replace hB := below_after hB bz10
  replace hz5 := hz5.after bz10
  have hz11 : At Wz8 Wz2.heap.size (.cells #[.int .i64 tp, .int .i64 ti, .int .i64 tj, .int .i64 tk, .slice B xs.length d] 52 (0, 0)) := nnz9.at_
  refine hK' _ _ ?_
  clear hK' K' nnz9 bz10
  go_frame
  refine ls_ex (some 4) (.bool false) rfl rfl (exec_assign _ rfl (.bool false) rfl) ?_
  go_frame
  refine ls_ex (some 5) (.int .i64 0) rfl rfl (exec_assign _ rfl (.int .i64 0) rfl) ?_
  go_frame
  refine wpList_nil ?_
  go_upto_region 1 with (fail)
  refine wp_region_lit ?_
  refine ls_ex (some 7) (.agg #[.int .i64 p, .int .i64 i, .int .i64 j, .int .i64 k, .slice A qs.length c]) rfl rfl (exec_load_all 29 _ rfl w.heap.size rfl _ _ _ hz5 Try.underlying29 rfl 5 (by kernel_rfl) rfl) ?_
  go_frame
  refine ls_op rfl (fun K' hK' => ?_)
  have lz14 := hB.size
  have lz15 := hz5.lt
  have lz16 := hz11.lt
  refine wp_call1 (some 8) rfl 10 _ _ rfl (fun args w => by kernel_rfl) _ rfl _ (implIsMethod_c p i j k A c qs _ (hR.keep hB) (by omega)) (fun e Wz12 h => ?_)
  obtain ⟨rfl, bz13⟩ := h
  replace hB := below_after hB bz13
  replace hz5 := hz5.after bz13
  replace hz11 := hz11.after bz13
  rw [Hs.out]
  clear bz13
  refine ⟨_, rfl, ?_⟩
  refine hK' _ _ ?_
  clear hK' K'
  go_frame
  refine ls_ex (some 9) (.bool false) rfl rfl (exec_not _ _ rfl true rfl) ?_
  go_frame
  refine ls_ex (some 10) (.bool false) rfl rfl (exec_move _ rfl (.bool false) rfl) ?_
  go_frame
  refine ls_ex_g (some 11) (.agg #[.int .i64 tp, .int .i64 ti, .int .i64 tj, .int .i64 tk, .slice B xs.length d]) rfl rfl (exec_load_all 52 _ rfl Wz2.heap.size rfl _ _ _ hz11 Try.underlying52 rfl 5 (by kernel_rfl) rfl) ?_
  go_frame
  refine ls_op_g rfl (fun K' hK' => ?_)
  have lz19 := hB.size
  have lz20 := hz5.lt
  have lz21 := hz11.lt
  refine wp_call1 (some 12) rfl 48 _ _ rfl (fun args w => by kernel_rfl) _ rfl _ (implIsTensor_c tp ti tj tk B d xs _ (hX.keep hB) hxl) (fun e Wz17 h => ?_)
  obtain ⟨rfl, bz18⟩ := h
  replace hB := below_after hB bz18
  replace hz5 := hz5.after bz18
  replace hz11 := hz11.after bz18
  rw [Ht.out]
  clear bz18
  refine ⟨_, rfl, ?_⟩
  refine hK' _ _ ?_
  clear hK' K'
  go_frame
  refine ls_ex_g (some 13) (.bool true) rfl rfl (exec_not _ _ rfl false rfl) ?_
  go_frame
  refine ls_ex (some 14) (.bool true) rfl rfl (exec_pick _ _ _ rfl false rfl (.bool true) rfl) ?_
  go_frame
  refine wpList_nil ?_
  go_upto_region 2 with (fail)
  refine wp_region_lit ?_
  refine ls_ex (some 4) (.bool false) rfl rfl (exec_assign _ rfl (.bool false) rfl) ?_
  go_frame
  refine ls_ex (some 5) (.int .i64 1) rfl rfl (exec_assign _ rfl (.int .i64 1) rfl) ?_
  go_frame
  refine wpList_nil ?_
  go_wp2_with fail
  go_ret2
  exact ⟨by rw [HV.out, HC.out]; rfl, hB⟩
set_option maxHeartbeats 25600000 in
theorem implMf_q0 (P N0 N1 N2 : Nat) (A : Option Addr) (c : Nat) (qs : List (List Nat)) (tp ti tj tk : Int) (B : Option Addr) (d : Nat) (xs : List Int) (w : World) (hR : Rd w A qs) (hlen : qs.length ≤ 30) (hX : RdI w B xs) (hxl : xs.length ≤ 1048576) (hP : 2 ≤ P ∧ P ≤ 5) (l0 : 1 ≤ N0 ∧ N0 ≤ 9) (l1 : 1 ≤ N1 ∧ N1 ≤ 9) (l2 : 1 ≤ N2 ∧ N2 ≤ 9) (hs : methB P N0 N1 N2 qs = true) (ht : tenB tp ti tj tk xs = true) (hq0 : ((P : Int) == tp) = false) :
    Calls Try.prog 25 #[.agg #[.int .i64 P, .int .i64 N0, .int .i64 N1, .int .i64 N2, .slice A qs.length c], .agg #[.int .i64 tp, .int .i64 ti, .int .i64 tj, .int .i64 tk, .slice B xs.length d]] w (fun e w' => e = .returned (.tuple #[.bool (mfB P N0 N1 N2 qs tp ti tj tk xs), .int .i64 (mfCode P N0 N1 N2 qs tp ti tj tk xs)]) ∧ Below w.heap.size w w') := by
  have hB := Below.refl w.heap.size w
  have _u0 := hP
  have _u1 := l0
  have _u2 := l1
  have _u3 := l2
  clear _u0 _u1 _u2 _u3
  have HC : Hid (mfCode P N0 N1 N2 qs tp ti tj tk xs = 0) := Lib.hid (by simp [mfCode, hs, ht])
  have Hs := Lib.hid hs
  have Ht := Lib.hid ht
  obtain ⟨N, hNt⟩ : ∃ N, (topL P N0 N1 N2 qs).length = N := ⟨_, rfl⟩
  have HNt := Lib.hid hNt
  have HV : Hid (mfB P N0 N1 N2 qs tp ti tj tk xs = false) := Lib.hid (by unfold mfB; rw [hq0]; simp)
  have HQ0 := Lib.hid hq0
  clear hs ht hNt hq0
  go_enter Try.func25, Try.ntmps25
  go_upto_region 0 with (fail)
  refine wp_region_lit ?_
  refine ls_op rfl (fun K' hK' => ?_)
  have lz1 := hB.size
  refine wp_new (some 2) rfl (exec_box 29 _ rfl (#[.int .i64 P, .int .i64 N0, .int .i64 N1, .int .i64 N2, .slice A qs.length c]) rfl) (fun Wz2 nnz3 => ?_)
  have bz4 := nnz3.below (Below.refl _ _) (Nat.le_refl _)
  replace hB := below_after hB bz4
  have hz5 : At Wz2 w.heap.size (.cells #[.int .i64 P, .int .i64 N0, .int .i64 N1, .int .i64 N2, .slice A qs.length c] 29 (0, 0)) := nnz3.at_
  refine hK' _ _ ?_
  clear hK' K' nnz3 bz4
  go_frame
  refine ls_op rfl (fun K' hK' => ?_)
  have lz6 := hB.size
  have lz7 := hz5.lt
  refine wp_new (some 3) rfl (exec_box 52 _ rfl (#[.int .i64 tp, .int .i64 ti, .int .i64 tj, .int .i64 tk, .slice B xs.length d]) rfl) (fun Wz8 nnz9 => ?_)
  have bz10 := nnz9.below (Below.refl _ _) (Nat.le_refl _)
  replace hB := below_after hB bz10
  replace hz5 := hz5.after bz10
  have hz11 : At Wz8 Wz2.heap.size (.cells #[.int .i64 tp, .int .i64 ti, .int .i64 tj, .int .i64 tk, .slice B xs.length d] 52 (0, 0)) := nnz9.at_
  refine hK' _ _ ?_
  clear hK' K' nnz9 bz10
  go_frame
  refine ls_ex (some 4) (.bool false) rfl rfl (exec_assign _ rfl (.bool false) rfl) ?_
  go_frame
  refine ls_ex (some 5) (.int .i64 0) rfl rfl (exec_assign _ rfl (.int .i64 0) rfl) ?_
  go_frame
  refine wpList_nil ?_
  go_upto_region 1 with (fail)
  refine wp_region_lit ?_
  refine ls_ex (some 7) (.agg #[.int .i64 P, .int .i64 N0, .int .i64 N1, .int .i64 N2, .slice A qs.length c]) rfl rfl (exec_load_all 29 _ rfl w.heap.size rfl _ _ _ hz5 Try.underlying29 rfl 5 (by kernel_rfl) rfl) ?_
  go_frame
  refine ls_op rfl (fun K' hK' => ?_)
  have lz14 := hB.size
  have lz15 := hz5.lt
  have lz16 := hz11.lt
  refine wp_call1 (some 8) rfl 10 _ _ rfl (fun args w => by kernel_rfl) _ rfl _ (implIsMethod_c P N0 N1 N2 A c qs _ (hR.keep hB) (by omega)) (fun e Wz12 h => ?_)
  obtain ⟨rfl, bz13⟩ := h
  replace hB := below_after hB bz13
  replace hz5 := hz5.after bz13
  replace hz11 := hz11.after bz13
  rw [Hs.out]
  clear bz13
  refine ⟨_, rfl, ?_⟩
  refine hK' _ _ ?_
  clear hK' K'
  go_frame
  refine ls_ex (some 9) (.bool false) rfl rfl (exec_not _ _ rfl true rfl) ?_
  go_frame
  refine ls_ex (some 10) (.bool false) rfl rfl (exec_move _ rfl (.bool false) rfl) ?_
  go_frame
  refine ls_ex_g (some 11) (.agg #[.int .i64 tp, .int .i64 ti, .int .i64 tj, .int .i64 tk, .slice B xs.length d]) rfl rfl (exec_load_all 52 _ rfl Wz2.heap.size rfl _ _ _ hz11 Try.underlying52 rfl 5 (by kernel_rfl) rfl) ?_
  go_frame
  refine ls_op_g rfl (fun K' hK' => ?_)
  have lz19 := hB.size
  have lz20 := hz5.lt
  have lz21 := hz11.lt
  refine wp_call1 (some 12) rfl 48 _ _ rfl (fun args w => by kernel_rfl) _ rfl _ (implIsTensor_c tp ti tj tk B d xs _ (hX.keep hB) hxl) (fun e Wz17 h => ?_)
  obtain ⟨rfl, bz18⟩ := h
  replace hB := below_after hB bz18
  replace hz5 := hz5.after bz18
  replace hz11 := hz11.after bz18
  rw [Ht.out]
  clear bz18
  refine ⟨_, rfl, ?_⟩
  refine hK' _ _ ?_
  clear hK' K'
  go_frame
  refine ls_ex_g (some 13) (.bool false) rfl rfl (exec_not _ _ rfl true rfl) ?_
  go_frame
  refine ls_ex (some 14) (.bool false) rfl rfl (exec_pick _ _ _ rfl false rfl (.bool false) rfl) ?_
  go_frame
  refine wpList_nil ?_
  go_upto_region 3 with (fail)
  refine wp_region_y (zs := []) (S := fun w' => Below w.heap.size w w' ∧ At w' w.heap.size (.cells #[.int .i64 P, .int .i64 N0, .int .i64 N1, .int .i64 N2, .slice A qs.length c] 29 (0, 0)) ∧ At w' Wz2.heap.size (.cells #[.int .i64 tp, .int .i64 ti, .int .i64 tj, .int .i64 tk, .slice B xs.length d] 52 (0, 0))) (S2 := fun w' => True) (by kernel_rfl) ?_
  change wpAnyY _ _ _ _ _ _ _ _ _ _ (World.drew _)
  generalize hwdz22 : World.drew _ = wdz22
  replace hB : Below w.heap.size w wdz22 := by rw [← hwdz22]; exact hB.drew
  replace hz5 : At wdz22 w.heap.size (.cells #[.int .i64 P, .int .i64 N0, .int .i64 N1, .int .i64 N2, .slice A qs.length c] 29 (0, 0)) := by rw [← hwdz22]; exact hz5
  replace hz11 : At wdz22 Wz2.heap.size (.cells #[.int .i64 tp, .int .i64 ti, .int .i64 tj, .int .i64 tk, .slice B xs.length d] 52 (0, 0)) := by rw [← hwdz22]; exact hz11
  clear hwdz22
  refine y_yield 0 (some 15) (.pointer (some ⟨w.heap.size, 0, none⟩)) rfl (by kernel_rfl) (by kernel_rfl) (by kernel_rfl) (fun _ _ _ h => h) rfl rfl ⟨hB, hz5, hz11⟩ (fun w' h' => exec_fieldAddr 29 _ 0 rfl _ (by kernel_rfl)) ?_
  go_frame
  refine y_yield 1 (some 16) (.int .i64 P) rfl (by kernel_rfl) (by kernel_rfl) (by kernel_rfl) (fun _ _ _ h => h) rfl rfl ⟨hB, hz5, hz11⟩ (fun w' h' => exec_load_one 2 _ rfl w.heap.size 0 rfl (.int .i64 P) _ Try.underlying2 rfl (h'.2.1.at_ 0)) ?_
  go_frame
  refine y_yield 2 (some 17) (.pointer (some ⟨Wz2.heap.size, 0, none⟩)) rfl (by kernel_rfl) (by kernel_rfl) (by kernel_rfl) (fun _ _ _ h => h) rfl rfl ⟨hB, hz5, hz11⟩ (fun w' h' => exec_fieldAddr 52 _ 0 rfl _ (by kernel_rfl)) ?_
  go_frame
  refine y_yield 3 (some 18) (.int .i64 tp) rfl (by kernel_rfl) (by kernel_rfl) (by kernel_rfl) (fun _ _ _ h => h) rfl rfl ⟨hB, hz5, hz11⟩ (fun w' h' => exec_load_one 2 _ rfl Wz2.heap.size 0 rfl (.int .i64 tp) _ Try.underlying2 rfl (h'.2.2.at_ 0)) ?_
  go_frame
  refine y_yield 4 (some 19) (.bool false) rfl (by kernel_rfl) (by kernel_rfl) (by kernel_rfl) (fun _ _ _ h => h) rfl rfl ⟨hB, hz5, hz11⟩ (fun w' h' => exec_eql _ _ _ _ rfl P tp rfl rfl false HQ0.out) ?_
  go_frame
  refine y_yield 5 (some 20) (.bool false) rfl (by kernel_rfl) (by kernel_rfl) (by kernel_rfl) (fun _ _ _ h => h) rfl rfl ⟨hB, hz5, hz11⟩ (fun w' h' => exec_move _ rfl (.bool false) rfl) ?_
  go_frame
  refine y_skip 6 (some 21) rfl (by kernel_rfl) (by kernel_rfl) (by kernel_rfl) (fun _ _ _ h => h) rfl rfl ⟨hB, hz5, hz11⟩ ?_
  go_frame
  refine y_skip 8 (some 23) rfl (by kernel_rfl) (by kernel_rfl) (by kernel_rfl) (fun _ _ _ h => h) rfl rfl ⟨hB, hz5, hz11⟩ ?_
  go_frame
  refine y_pass 7 (some 22) (by kernel_rfl) rfl rfl rfl ⟨hB, hz5, hz11⟩ ?_
  go_frame
  refine y_pass 9 (some 24) (by kernel_rfl) rfl rfl rfl ⟨hB, hz5, hz11⟩ ?_
  go_frame
  refine y_skip 10 (some 25) rfl (by kernel_rfl) (by kernel_rfl) (by kernel_rfl) (fun _ _ _ h => h) rfl rfl ⟨hB, hz5, hz11⟩ ?_
  go_frame
  refine y_yield 11 (some 26) (.bool false) rfl (by kernel_rfl) (by kernel_rfl) (by kernel_rfl) (fun _ _ _ h => h) rfl rfl ⟨hB, hz5, hz11⟩ (fun w' h' => exec_pick _ _ _ rfl false rfl (.bool false) rfl) ?_
  go_frame
  refine y_oper 12 (by kernel_rfl) rfl rfl (fun K' hK' => ?_)
  refine wp_exec (some 6) rfl (.bool false) (exec_assign _ rfl (.bool false) rfl) ?_
  refine hK' _ _ ⟨hB, hz5, hz11⟩ (fun _ => trivial) ?_
  clear hK' K'
  go_frame
  refine y_done (by kernel_rfl) ?_ _
  go_upto_region 4 with (fail)
  refine wp_region_y (zs := []) (S := fun w' => Below w.heap.size w w') (S2 := fun w' => True) (by kernel_rfl) ?_
  change wpAnyY _ _ _ _ _ _ _ _ _ _ (World.drew _)
  generalize hwdz23 : World.drew _ = wdz23
  replace hB : Below w.heap.size w wdz23 := by rw [← hwdz23]; exact hB.drew
  replace hz5 : At wdz23 w.heap.size (.cells #[.int .i64 P, .int .i64 N0, .int .i64 N1, .int .i64 N2, .slice A qs.length c] 29 (0, 0)) := by rw [← hwdz23]; exact hz5
  replace hz11 : At wdz23 Wz2.heap.size (.cells #[.int .i64 tp, .int .i64 ti, .int .i64 tj, .int .i64 tk, .slice B xs.length d] 52 (0, 0)) := by rw [← hwdz23]; exact hz11
  clear hwdz23
  refine y_yield 0 (some 27) (.bool false) rfl (by kernel_rfl) (by kernel_rfl) (by kernel_rfl) (fun _ _ _ h => h) rfl rfl hB (fun w' h' => exec_move _ rfl (.bool false) rfl) ?_
  go_frame
  refine y_yield 1 (some 28) (.bool false) rfl (by kernel_rfl) (by kernel_rfl) (by kernel_rfl) (fun _ _ _ h => h) rfl rfl hB (fun w' h' => exec_move _ rfl (.bool false) rfl) ?_
  go_frame
  refine y_skip 2 (some 29) rfl (by kernel_rfl) (by kernel_rfl) (by kernel_rfl) (fun _ _ _ h => h) rfl rfl hB ?_
  go_frame
  refine y_skip 5 (some 32) rfl (by kernel_rfl) (by kernel_rfl) (by kernel_rfl) (fun _ _ _ h => h) rfl rfl hB ?_
  go_frame
  refine y_skip 6 (some 33) rfl (by kernel_rfl) (by kernel_rfl) (by kernel_rfl) (fun _ _ _ h => h) rfl rfl hB ?_
  go_frame
  refine y_pass 3 (some 30) (by kernel_rfl) rfl rfl rfl hB ?_
  go_frame
  refine y_skip 4 (some 31) rfl (by kernel_rfl) (by kernel_rfl) (by kernel_rfl) (fun _ _ _ h => h) rfl rfl hB ?_
  go_frame
  refine y_pass 7 (some 34) (by kernel_rfl) rfl rfl rfl hB ?_
  go_frame
  refine y_yield 8 (some 35) (.bool false) rfl (by kernel_rfl) (by kernel_rfl) (by kernel_rfl) (fun _ _ _ h => h) rfl rfl hB (fun w' h' => exec_pick _ _ _ rfl false rfl (.bool false) rfl) ?_
  go_frame
  refine y_oper 9 (by kernel_rfl) rfl rfl (fun K' hK' => ?_)
  refine wp_exec (some 4) rfl (.bool false) (exec_assign _ rfl (.bool false) rfl) ?_
  refine hK' _ _ hB (fun _ => trivial) ?_
  clear hK' K'
  go_frame
  refine y_oper 10 (by kernel_rfl) rfl rfl (fun K' hK' => ?_)
  refine wp_exec (some 5) rfl (.int .i64 0) (exec_assign _ rfl (.int .i64 0) rfl) ?_
  refine hK' _ _ hB (fun _ => trivial) ?_
  clear hK' K'
  go_frame
  refine y_done (by kernel_rfl) ?_ _
  go_wp2_with fail
  go_ret2
  exact ⟨by rw [HV.out, HC.out]; rfl, hB⟩
set_option maxHeartbeats 25600000 in
theorem implMf_q1 (P N0 N1 N2 : Nat) (A : Option Addr) (c : Nat) (qs : List (List Nat)) (tp ti tj tk : Int) (B : Option Addr) (d : Nat) (xs : List Int) (w : World) (hR : Rd w A qs) (hlen : qs.length ≤ 30) (hX : RdI w B xs) (hxl : xs.length ≤ 1048576) (hP : 2 ≤ P ∧ P ≤ 5) (l0 : 1 ≤ N0 ∧ N0 ≤ 9) (l1 : 1 ≤ N1 ∧ N1 ≤ 9) (l2 : 1 ≤ N2 ∧ N2 ≤ 9) (hs : methB P N0 N1 N2 qs = true) (ht : tenB tp ti tj tk xs = true) (hq0 : ((P : Int) == tp) = true) (hq1 : ((N0 : Int) == ti) = false) :
    Calls Try.prog 25 #[.agg #[.int .i64 P, .int .i64 N0, .int .i64 N1, .int .i64 N2, .slice A qs.length c], .agg #[.int .i64 tp, .int .i64 ti, .int .i64 tj, .int .i64 tk, .slice B xs.length d]] w (fun e w' => e = .returned (.tuple #[.bool (mfB P N0 N1 N2 qs tp ti tj tk xs), .int .i64 (mfCode P N0 N1 N2 qs tp ti tj tk xs)]) ∧ Below w.heap.size w w') := by
  have hB := Below.refl w.heap.size w
  have _u0 := hP
  have _u1 := l0
  have _u2 := l1
  have _u3 := l2
  clear _u0 _u1 _u2 _u3
  have HC : Hid (mfCode P N0 N1 N2 qs tp ti tj tk xs = 0) := Lib.hid (by simp [mfCode, hs, ht])
  have Hs := Lib.hid hs
  have Ht := Lib.hid ht
  obtain ⟨N, hNt⟩ : ∃ N, (topL P N0 N1 N2 qs).length = N := ⟨_, rfl⟩
  have HNt := Lib.hid hNt
  have HV : Hid (mfB P N0 N1 N2 qs tp ti tj tk xs = false) := Lib.hid (by unfold mfB; rw [hq0, hq1]; simp)
  have HQS : Hid (((N0 : Int) == ti && ((N1 : Int) == tj && (N2 : Int) == tk)) = false) := Lib.hid (by rw [hq1]; simp)
  have HQ0 := Lib.hid hq0
  have HQ1 := Lib.hid hq1
  clear hs ht hNt hq0 hq1
  go_enter Try.func25, Try.ntmps25
  go_upto_region 0 with (fail)
  refine wp_region_lit ?_
  refine ls_op rfl (fun K' hK' => ?_)
  have lz1 := hB.size
  refine wp_new (some 2) rfl (exec_box 29 _ rfl (#[.int .i64 P, .int .i64 N0, .int .i64 N1, .int .i64 N2, .slice A qs.length c]) rfl) (fun Wz2 nnz3 => ?_)
  have bz4 := nnz3.below (Below.refl _ _) (Nat.le_refl _)
  replace hB := below_after hB bz4
  have hz5 : At Wz2 w.heap.size (.cells #[.int .i64 P, .int .i64 N0, .int .i64 N1, .int .i64 N2, .slice A qs.length c] 29 (0, 0)) := nnz3.at_
  refine hK' _ _ ?_
  clear hK' K' nnz3 bz4
  go_frame
  refine ls_op rfl (fun K' hK' => ?_)
  have lz6 := hB.size
  have lz7 := hz5.lt
  refine wp_new (some 3) rfl (exec_box 52 _ rfl (#[.int .i64 tp, .int .i64 ti, .int .i64 tj, .int .i64 tk, .slice B xs.length d]) rfl) (fun Wz8 nnz9 => ?_)
  have bz10 := nnz9.below (Below.refl _ _) (Nat.le_refl _)
  replace hB := below_after hB bz10
  replace hz5 := hz5.after bz10
  have hz11 : At Wz8 Wz2.heap.size (.cells #[.int .i64 tp, .int .i64 ti, .int .i64 tj, .int .i64 tk, .slice B xs.length d] 52 (0, 0)) := nnz9.at_
  refine hK' _ _ ?_
  clear hK' K' nnz9 bz10
  go_frame
  refine ls_ex (some 4) (.bool false) rfl rfl (exec_assign _ rfl (.bool false) rfl) ?_
  go_frame
  refine ls_ex (some 5) (.int .i64 0) rfl rfl (exec_assign _ rfl (.int .i64 0) rfl) ?_
  go_frame
  refine wpList_nil ?_
  go_upto_region 1 with (fail)
  refine wp_region_lit ?_
  refine ls_ex (some 7) (.agg #[.int .i64 P, .int .i64 N0, .int .i64 N1, .int .i64 N2, .slice A qs.length c]) rfl rfl (exec_load_all 29 _ rfl w.heap.size rfl _ _ _ hz5 Try.underlying29 rfl 5 (by kernel_rfl) rfl) ?_
  go_frame
  refine ls_op rfl (fun K' hK' => ?_)
  have lz14 := hB.size
  have lz15 := hz5.lt
  have lz16 := hz11.lt
  refine wp_call1 (some 8) rfl 10 _ _ rfl (fun args w => by kernel_rfl) _ rfl _ (implIsMethod_c P N0 N1 N2 A c qs _ (hR.keep hB) (by omega)) (fun e Wz12 h => ?_)
  obtain ⟨rfl, bz13⟩ := h
  replace hB := below_after hB bz13
  replace hz5 := hz5.after bz13
  replace hz11 := hz11.after bz13
  rw [Hs.out]
  clear bz13
  refine ⟨_, rfl, ?_⟩
  refine hK' _ _ ?_
  clear hK' K'
  go_frame
  refine ls_ex (some 9) (.bool false) rfl rfl (exec_not _ _ rfl true rfl) ?_
  go_frame
  refine ls_ex (some 10) (.bool false) rfl rfl (exec_move _ rfl (.bool false) rfl) ?_
  go_frame
  refine ls_ex_g (some 11) (.agg #[.int .i64 tp, .int .i64 ti, .int .i64 tj, .int .i64 tk, .slice B xs.length d]) rfl rfl (exec_load_all 52 _ rfl Wz2.heap.size rfl _ _ _ hz11 Try.underlying52 rfl 5 (by kernel_rfl) rfl) ?_
  go_frame
  refine ls_op_g rfl (fun K' hK' => ?_)
  have lz19 := hB.size
  have lz20 := hz5.lt
  have lz21 := hz11.lt
  refine wp_call1 (some 12) rfl 48 _ _ rfl (fun args w => by kernel_rfl) _ rfl _ (implIsTensor_c tp ti tj tk B d xs _ (hX.keep hB) hxl) (fun e Wz17 h => ?_)
  obtain ⟨rfl, bz18⟩ := h
  replace hB := below_after hB bz18
  replace hz5 := hz5.after bz18
  replace hz11 := hz11.after bz18
  rw [Ht.out]
  clear bz18
  refine ⟨_, rfl, ?_⟩
  refine hK' _ _ ?_
  clear hK' K'
  go_frame
  refine ls_ex_g (some 13) (.bool false) rfl rfl (exec_not _ _ rfl true rfl) ?_
  go_frame
  refine ls_ex (some 14) (.bool false) rfl rfl (exec_pick _ _ _ rfl false rfl (.bool false) rfl) ?_
  go_frame
  refine wpList_nil ?_
  go_upto_region 3 with (fail)
  refine wp_region_y (zs := []) (S := fun w' => Below w.heap.size w w' ∧ At w' w.heap.size (.cells #[.int .i64 P, .int .i64 N0, .int .i64 N1, .int .i64 N2, .slice A qs.length c] 29 (0, 0)) ∧ At w' Wz2.heap.size (.cells #[.int .i64 tp, .int .i64 ti, .int .i64 tj, .int .i64 tk, .slice B xs.length d] 52 (0, 0))) (S2 := fun w' => True) (by kernel_rfl) ?_
  change wpAnyY _ _ _ _ _ _ _ _ _ _ (World.drew _)
  generalize hwdz22 : World.drew _ = wdz22
  replace hB : Below w.heap.size w wdz22 := by rw [← hwdz22]; exact hB.drew
  replace hz5 : At wdz22 w.heap.size (.cells #[.int .i64 P, .int .i64 N0, .int .i64 N1, .int .i64 N2, .slice A qs.length c] 29 (0, 0)) := by rw [← hwdz22]; exact hz5
  replace hz11 : At wdz22 Wz2.heap.size (.cells #[.int .i64 tp, .int .i64 ti, .int .i64 tj, .int .i64 tk, .slice B xs.length d] 52 (0, 0)) := by rw [← hwdz22]; exact hz11
  clear hwdz22
  refine y_yield 0 (some 15) (.pointer (some ⟨w.heap.size, 0, none⟩)) rfl (by kernel_rfl) (by kernel_rfl) (by kernel_rfl) (fun _ _ _ h => h) rfl rfl ⟨hB, hz5, hz11⟩ (fun w' h' => exec_fieldAddr 29 _ 0 rfl _ (by kernel_rfl)) ?_
  go_frame
  refine y_yield 1 (some 16) (.int .i64 P) rfl (by kernel_rfl) (by kernel_rfl) (by kernel_rfl) (fun _ _ _ h => h) rfl rfl ⟨hB, hz5, hz11⟩ (fun w' h' => exec_load_one 2 _ rfl w.heap.size 0 rfl (.int .i64 P) _ Try.underlying2 rfl (h'.2.1.at_ 0)) ?_
  go_frame
  refine y_yield 2 (some 17) (.pointer (some ⟨Wz2.heap.size, 0, none⟩)) rfl (by kernel_rfl) (by kernel_rfl) (by kernel_rfl) (fun _ _ _ h => h) rfl rfl ⟨hB, hz5, hz11⟩ (fun w' h' => exec_fieldAddr 52 _ 0 rfl _ (by kernel_rfl)) ?_
  go_frame
  refine y_yield 3 (some 18) (.int .i64 tp) rfl (by kernel_rfl) (by kernel_rfl) (by kernel_rfl) (fun _ _ _ h => h) rfl rfl ⟨hB, hz5, hz11⟩ (fun w' h' => exec_load_one 2 _ rfl Wz2.heap.size 0 rfl (.int .i64 tp) _ Try.underlying2 rfl (h'.2.2.at_ 0)) ?_
  go_frame
  refine y_yield 4 (some 19) (.bool true) rfl (by kernel_rfl) (by kernel_rfl) (by kernel_rfl) (fun _ _ _ h => h) rfl rfl ⟨hB, hz5, hz11⟩ (fun w' h' => exec_eql _ _ _ _ rfl P tp rfl rfl true HQ0.out) ?_
  go_frame
  refine y_yield 5 (some 20) (.bool true) rfl (by kernel_rfl) (by kernel_rfl) (by kernel_rfl) (fun _ _ _ h => h) rfl rfl ⟨hB, hz5, hz11⟩ (fun w' h' => exec_move _ rfl (.bool true) rfl) ?_
  go_frame
  refine y_yield 6 (some 21) (.agg #[.int .i64 P, .int .i64 N0, .int .i64 N1, .int .i64 N2, .slice A qs.length c]) rfl (by kernel_rfl) (by kernel_rfl) (by kernel_rfl) (fun _ _ _ h => h) rfl rfl ⟨hB, hz5, hz11⟩ (fun w' h' => exec_load_all 29 _ rfl w.heap.size rfl _ _ _ h'.2.1 Try.underlying29 rfl 5 (by kernel_rfl) rfl) ?_
  go_frame
  refine y_yield 8 (some 23) (.agg #[.int .i64 tp, .int .i64 ti, .int .i64 tj, .int .i64 tk, .slice B xs.length d]) rfl (by kernel_rfl) (by kernel_rfl) (by kernel_rfl) (fun _ _ _ h => h) rfl rfl ⟨hB, hz5, hz11⟩ (fun w' h' => exec_load_all 52 _ rfl Wz2.heap.size rfl _ _ _ h'.2.2 Try.underlying52 rfl 5 (by kernel_rfl) rfl) ?_
  go_frame
  refine y_oper 7 (by kernel_rfl) rfl rfl (fun K' hK' => ?_)
  have lz25 := hB.size
  have lz26 := hz5.lt
  have lz27 := hz11.lt
  refine wp_call1 (some 22) rfl 31 _ _ rfl (fun args w => by kernel_rfl) _ rfl _ (mSides_c P N0 N1 N2 (.slice A qs.length c) _) (fun e Wz23 h => ?_)
  obtain ⟨rfl, bz24⟩ := h
  replace hB := below_after hB bz24
  replace hz5 := hz5.after bz24
  replace hz11 := hz11.after bz24
  clear bz24
  refine ⟨_, rfl, ?_⟩
  refine hK' _ _ ⟨hB, hz5, hz11⟩ (fun _ => trivial) ?_
  clear hK' K'
  go_frame
  refine y_oper 9 (by kernel_rfl) rfl rfl (fun K' hK' => ?_)
  have lz30 := hB.size
  have lz31 := hz5.lt
  have lz32 := hz11.lt
  refine wp_call1 (some 24) rfl 49 _ _ rfl (fun args w => by kernel_rfl) _ rfl _ (boxOf_c tp ti tj tk (.slice B xs.length d) _) (fun e Wz28 h => ?_)
  obtain ⟨rfl, bz29⟩ := h
  replace hB := below_after hB bz29
  replace hz5 := hz5.after bz29
  replace hz11 := hz11.after bz29
  clear bz29
  refine ⟨_, rfl, ?_⟩
  refine hK' _ _ ⟨hB, hz5, hz11⟩ (fun _ => trivial) ?_
  clear hK' K'
  go_frame
  refine y_yield 10 (some 25) (.bool false) rfl (by kernel_rfl) (by kernel_rfl) (by kernel_rfl) (fun _ _ _ h => h) rfl rfl ⟨hB, hz5, hz11⟩ (fun w' h' => exec_eql_bxm _ _ _ rfl N0 N1 N2 ti tj tk rfl rfl false HQS.out) ?_
  go_frame
  refine y_yield 11 (some 26) (.bool false) rfl (by kernel_rfl) (by kernel_rfl) (by kernel_rfl) (fun _ _ _ h => h) rfl rfl ⟨hB, hz5, hz11⟩ (fun w' h' => exec_pick _ _ _ rfl true rfl (.bool false) rfl) ?_
  go_frame
  refine y_oper 12 (by kernel_rfl) rfl rfl (fun K' hK' => ?_)
  refine wp_exec (some 6) rfl (.bool false) (exec_assign _ rfl (.bool false) rfl) ?_
  refine hK' _ _ ⟨hB, hz5, hz11⟩ (fun _ => trivial) ?_
  clear hK' K'
  go_frame
  refine y_done (by kernel_rfl) ?_ _
  go_upto_region 4 with (fail)
  refine wp_region_y (zs := []) (S := fun w' => Below w.heap.size w w') (S2 := fun w' => True) (by kernel_rfl) ?_
  change wpAnyY _ _ _ _ _ _ _ _ _ _ (World.drew _)
  generalize hwdz33 : World.drew _ = wdz33
  replace hB : Below w.heap.size w wdz33 := by rw [← hwdz33]; exact hB.drew
  replace hz5 : At wdz33 w.heap.size (.cells #[.int .i64 P, .int .i64 N0, .int .i64 N1, .int .i64 N2, .slice A qs.length c] 29 (0, 0)) := by rw [← hwdz33]; exact hz5
  replace hz11 : At wdz33 Wz2.heap.size (.cells #[.int .i64 tp, .int .i64 ti, .int .i64 tj, .int .i64 tk, .slice B xs.length d] 52 (0, 0)) := by rw [← hwdz33]; exact hz11
  clear hwdz33
  refine y_yield 0 (some 27) (.bool false) rfl (by kernel_rfl) (by kernel_rfl) (by kernel_rfl) (fun _ _ _ h => h) rfl rfl hB (fun w' h' => exec_move _ rfl (.bool false) rfl) ?_
  go_frame
  refine y_yield 1 (some 28) (.bool false) rfl (by kernel_rfl) (by kernel_rfl) (by kernel_rfl) (fun _ _ _ h => h) rfl rfl hB (fun w' h' => exec_move _ rfl (.bool false) rfl) ?_
  go_frame
  refine y_skip 2 (some 29) rfl (by kernel_rfl) (by kernel_rfl) (by kernel_rfl) (fun _ _ _ h => h) rfl rfl hB ?_
  go_frame
  refine y_skip 5 (some 32) rfl (by kernel_rfl) (by kernel_rfl) (by kernel_rfl) (fun _ _ _ h => h) rfl rfl hB ?_
  go_frame
  refine y_skip 6 (some 33) rfl (by kernel_rfl) (by kernel_rfl) (by kernel_rfl) (fun _ _ _ h => h) rfl rfl hB ?_
  go_frame
  refine y_pass 3 (some 30) (by kernel_rfl) rfl rfl rfl hB ?_
  go_frame
  refine y_skip 4 (some 31) rfl (by kernel_rfl) (by kernel_rfl) (by kernel_rfl) (fun _ _ _ h => h) rfl rfl hB ?_
  go_frame
  refine y_pass 7 (some 34) (by kernel_rfl) rfl rfl rfl hB ?_
  go_frame
  refine y_yield 8 (some 35) (.bool false) rfl (by kernel_rfl) (by kernel_rfl) (by kernel_rfl) (fun _ _ _ h => h) rfl rfl hB (fun w' h' => exec_pick _ _ _ rfl false rfl (.bool false) rfl) ?_
  go_frame
  refine y_oper 9 (by kernel_rfl) rfl rfl (fun K' hK' => ?_)
  refine wp_exec (some 4) rfl (.bool false) (exec_assign _ rfl (.bool false) rfl) ?_
  refine hK' _ _ hB (fun _ => trivial) ?_
  clear hK' K'
  go_frame
  refine y_oper 10 (by kernel_rfl) rfl rfl (fun K' hK' => ?_)
  refine wp_exec (some 5) rfl (.int .i64 0) (exec_assign _ rfl (.int .i64 0) rfl) ?_
  refine hK' _ _ hB (fun _ => trivial) ?_
  clear hK' K'
  go_frame
  refine y_done (by kernel_rfl) ?_ _
  go_wp2_with fail
  go_ret2
  exact ⟨by rw [HV.out, HC.out]; rfl, hB⟩
set_option maxHeartbeats 25600000 in
theorem implMf_q2 (P N0 N1 N2 : Nat) (A : Option Addr) (c : Nat) (qs : List (List Nat)) (tp ti tj tk : Int) (B : Option Addr) (d : Nat) (xs : List Int) (w : World) (hR : Rd w A qs) (hlen : qs.length ≤ 30) (hX : RdI w B xs) (hxl : xs.length ≤ 1048576) (hP : 2 ≤ P ∧ P ≤ 5) (l0 : 1 ≤ N0 ∧ N0 ≤ 9) (l1 : 1 ≤ N1 ∧ N1 ≤ 9) (l2 : 1 ≤ N2 ∧ N2 ≤ 9) (hs : methB P N0 N1 N2 qs = true) (ht : tenB tp ti tj tk xs = true) (hq0 : ((P : Int) == tp) = true) (hq1 : ((N0 : Int) == ti) = true) (hq2 : ((N1 : Int) == tj) = false) :
    Calls Try.prog 25 #[.agg #[.int .i64 P, .int .i64 N0, .int .i64 N1, .int .i64 N2, .slice A qs.length c], .agg #[.int .i64 tp, .int .i64 ti, .int .i64 tj, .int .i64 tk, .slice B xs.length d]] w (fun e w' => e = .returned (.tuple #[.bool (mfB P N0 N1 N2 qs tp ti tj tk xs), .int .i64 (mfCode P N0 N1 N2 qs tp ti tj tk xs)]) ∧ Below w.heap.size w w') := by
  have hB := Below.refl w.heap.size w
  have _u0 := hP
  have _u1 := l0
  have _u2 := l1
  have _u3 := l2
  clear _u0 _u1 _u2 _u3
  have HC : Hid (mfCode P N0 N1 N2 qs tp ti tj tk xs = 0) := Lib.hid (by simp [mfCode, hs, ht])
  have Hs := Lib.hid hs
  have Ht := Lib.hid ht
  obtain ⟨N, hNt⟩ : ∃ N, (topL P N0 N1 N2 qs).length = N := ⟨_, rfl⟩
  have HNt := Lib.hid hNt
  have HV : Hid (mfB P N0 N1 N2 qs tp ti tj tk xs = false) := Lib.hid (by unfold mfB; rw [hq0, hq1, hq2]; simp)
  have HQS : Hid (((N0 : Int) == ti && ((N1 : Int) == tj && (N2 : Int) == tk)) = false) := Lib.hid (by rw [hq1, hq2]; simp)
  have HQ0 := Lib.hid hq0
  have HQ1 := Lib.hid hq1
  have HQ2 := Lib.hid hq2
  clear hs ht hNt hq0 hq1 hq2
  go_enter Try.func25, Try.ntmps25
  go_upto_region 0 with (fail)
  refine wp_region_lit ?_
  refine ls_op rfl (fun K' hK' => ?_)
  have lz1 := hB.size
  refine wp_new (some 2) rfl (exec_box 29 _ rfl (#[.int .i64 P, .int .i64 N0, .int .i64 N1, .int .i64 N2, .slice A qs.length c]) rfl) (fun Wz2 nnz3 => ?_)
  have bz4 := nnz3.below (Below.refl _ _) (Nat.le_refl _)
  replace hB := below_after hB bz4
  have hz5 : At Wz2 w.heap.size (.cells #[.int .i64 P, .int .i64 N0, .int .i64 N1, .int .i64 N2, .slice A qs.length c] 29 (0, 0)) := nnz3.at_
  refine hK' _ _ ?_
  clear hK' K' nnz3 bz4
  go_frame
  refine ls_op rfl (fun K' hK' => ?_)
  have lz6 := hB.size
  have lz7 := hz5.lt
  refine wp_new (some 3) rfl (exec_box 52 _ rfl (#[.int .i64 tp, .int .i64 ti, .int .i64 tj, .int .i64 tk, .slice B xs.length d]) rfl) (fun Wz8 nnz9 => ?_)
  have bz10 := nnz9.below (Below.refl _ _) (Nat.le_refl _)
  replace hB := below_after hB bz10
  replace hz5 := hz5.after bz10
  have hz11 : At Wz8 Wz2.heap.size (.cells #[.int .i64 tp, .int .i64 ti, .int .i64 tj, .int .i64 tk, .slice B xs.length d] 52 (0, 0)) := nnz9.at_
  refine hK' _ _ ?_
  clear hK' K' nnz9 bz10
  go_frame
  refine ls_ex (some 4) (.bool false) rfl rfl (exec_assign _ rfl (.bool false) rfl) ?_
  go_frame
  refine ls_ex (some 5) (.int .i64 0) rfl rfl (exec_assign _ rfl (.int .i64 0) rfl) ?_
  go_frame
  refine wpList_nil ?_
  go_upto_region 1 with (fail)
  refine wp_region_lit ?_
  refine ls_ex (some 7) (.agg #[.int .i64 P, .int .i64 N0, .int .i64 N1, .int .i64 N2, .slice A qs.length c]) rfl rfl (exec_load_all 29 _ rfl w.heap.size rfl _ _ _ hz5 Try.underlying29 rfl 5 (by kernel_rfl) rfl) ?_
  go_frame
  refine ls_op rfl (fun K' hK' => ?_)
  have lz14 := hB.size
  have lz15 := hz5.lt
  have lz16 := hz11.lt
  refine wp_call1 (some 8) rfl 10 _ _ rfl (fun args w => by kernel_rfl) _ rfl _ (implIsMethod_c P N0 N1 N2 A c qs _ (hR.keep hB) (by omega)) (fun e Wz12 h => ?_)
  obtain ⟨rfl, bz13⟩ := h
  replace hB := below_after hB bz13
  replace hz5 := hz5.after bz13
  replace hz11 := hz11.after bz13
  rw [Hs.out]
  clear bz13
  refine ⟨_, rfl, ?_⟩
  refine hK' _ _ ?_
  clear hK' K'
  go_frame
  refine ls_ex (some 9) (.bool false) rfl rfl (exec_not _ _ rfl true rfl) ?_
  go_frame
  refine ls_ex (some 10) (.bool false) rfl rfl (exec_move _ rfl (.bool false) rfl) ?_
  go_frame
  refine ls_ex_g (some 11) (.agg #[.int .i64 tp, .int .i64 ti, .int .i64 tj, .int .i64 tk, .slice B xs.length d]) rfl rfl (exec_load_all 52 _ rfl Wz2.heap.size rfl _ _ _ hz11 Try.underlying52 rfl 5 (by kernel_rfl) rfl) ?_
  go_frame
  refine ls_op_g rfl (fun K' hK' => ?_)
  have lz19 := hB.size
  have lz20 := hz5.lt
  have lz21 := hz11.lt
  refine wp_call1 (some 12) rfl 48 _ _ rfl (fun args w => by kernel_rfl) _ rfl _ (implIsTensor_c tp ti tj tk B d xs _ (hX.keep hB) hxl) (fun e Wz17 h => ?_)
  obtain ⟨rfl, bz18⟩ := h
  replace hB := below_after hB bz18
  replace hz5 := hz5.after bz18
  replace hz11 := hz11.after bz18
  rw [Ht.out]
  clear bz18
  refine ⟨_, rfl, ?_⟩
  refine hK' _ _ ?_
  clear hK' K'
  go_frame
  refine ls_ex_g (some 13) (.bool false) rfl rfl (exec_not _ _ rfl true rfl) ?_
  go_frame
  refine ls_ex (some 14) (.bool false) rfl rfl (exec_pick _ _ _ rfl false rfl (.bool false) rfl) ?_
  go_frame
  refine wpList_nil ?_
  go_upto_region 3 with (fail)
  refine wp_region_y (zs := []) (S := fun w' => Below w.heap.size w w' ∧ At w' w.heap.size (.cells #[.int .i64 P, .int .i64 N0, .int .i64 N1, .int .i64 N2, .slice A qs.length c] 29 (0, 0)) ∧ At w' Wz2.heap.size (.cells #[.int .i64 tp, .int .i64 ti, .int .i64 tj, .int .i64 tk, .slice B xs.length d] 52 (0, 0))) (S2 := fun w' => True) (by kernel_rfl) ?_
  change wpAnyY _ _ _ _ _ _ _ _ _ _ (World.drew _)
  generalize hwdz22 : World.drew _ = wdz22
  replace hB : Below w.heap.size w wdz22 := by rw [← hwdz22]; exact hB.drew
  replace hz5 : At wdz22 w.heap.size (.cells #[.int .i64 P, .int .i64 N0, .int .i64 N1, .int .i64 N2, .slice A qs.length c] 29 (0, 0)) := by rw [← hwdz22]; exact hz5
  replace hz11 : At wdz22 Wz2.heap.size (.cells #[.int .i64 tp, .int .i64 ti, .int .i64 tj, .int .i64 tk, .slice B xs.length d] 52 (0, 0)) := by rw [← hwdz22]; exact hz11
  clear hwdz22
  refine y_yield 0 (some 15) (.pointer (some ⟨w.heap.size, 0, none⟩)) rfl (by kernel_rfl) (by kernel_rfl) (by kernel_rfl) (fun _ _ _ h => h) rfl rfl ⟨hB, hz5, hz11⟩ (fun w' h' => exec_fieldAddr 29 _ 0 rfl _ (by kernel_rfl)) ?_
  go_frame
  refine y_yield 1 (some 16) (.int .i64 P) rfl (by kernel_rfl) (by kernel_rfl) (by kernel_rfl) (fun _ _ _ h => h) rfl rfl ⟨hB, hz5, hz11⟩ (fun w' h' => exec_load_one 2 _ rfl w.heap.size 0 rfl (.int .i64 P) _ Try.underlying2 rfl (h'.2.1.at_ 0)) ?_
  go_frame
  refine y_yield 2 (some 17) (.pointer (some ⟨Wz2.heap.size, 0, none⟩)) rfl (by kernel_rfl) (by kernel_rfl) (by kernel_rfl) (fun _ _ _ h => h) rfl rfl ⟨hB, hz5, hz11⟩ (fun w' h' => exec_fieldAddr 52 _ 0 rfl _ (by kernel_rfl)) ?_
  go_frame
  refine y_yield 3 (some 18) (.int .i64 tp) rfl (by kernel_rfl) (by kernel_rfl) (by kernel_rfl) (fun _ _ _ h => h) rfl rfl ⟨hB, hz5, hz11⟩ (fun w' h' => exec_load_one 2 _ rfl Wz2.heap.size 0 rfl (.int .i64 tp) _ Try.underlying2 rfl (h'.2.2.at_ 0)) ?_
  go_frame
  refine y_yield 4 (some 19) (.bool true) rfl (by kernel_rfl) (by kernel_rfl) (by kernel_rfl) (fun _ _ _ h => h) rfl rfl ⟨hB, hz5, hz11⟩ (fun w' h' => exec_eql _ _ _ _ rfl P tp rfl rfl true HQ0.out) ?_
  go_frame
  refine y_yield 5 (some 20) (.bool true) rfl (by kernel_rfl) (by kernel_rfl) (by kernel_rfl) (fun _ _ _ h => h) rfl rfl ⟨hB, hz5, hz11⟩ (fun w' h' => exec_move _ rfl (.bool true) rfl) ?_
  go_frame
  refine y_yield 6 (some 21) (.agg #[.int .i64 P, .int .i64 N0, .int .i64 N1, .int .i64 N2, .slice A qs.length c]) rfl (by kernel_rfl) (by kernel_rfl) (by kernel_rfl) (fun _ _ _ h => h) rfl rfl ⟨hB, hz5, hz11⟩ (fun w' h' => exec_load_all 29 _ rfl w.heap.size rfl _ _ _ h'.2.1 Try.underlying29 rfl 5 (by kernel_rfl) rfl) ?_
  go_frame
  refine y_yield 8 (some 23) (.agg #[.int .i64 tp, .int .i64 ti, .int .i64 tj, .int .i64 tk, .slice B xs.length d]) rfl (by kernel_rfl) (by kernel_rfl) (by kernel_rfl) (fun _ _ _ h => h) rfl rfl ⟨hB, hz5, hz11⟩ (fun w' h' => exec_load_all 52 _ rfl Wz2.heap.size rfl _ _ _ h'.2.2 Try.underlying52 rfl 5 (by kernel_rfl) rfl) ?_
  go_frame
  refine y_oper 7 (by kernel_rfl) rfl rfl (fun K' hK' => ?_)
  have lz25 := hB.size
  have lz26 := hz5.lt
  have lz27 := hz11.lt
  refine wp_call1 (some 22) rfl 31 _ _ rfl (fun args w => by kernel_rfl) _ rfl _ (mSides_c P N0 N1 N2 (.slice A qs.length c) _) (fun e Wz23 h => ?_)
  obtain ⟨rfl, bz24⟩ := h
  replace hB := below_after hB bz24
  replace hz5 := hz5.after bz24
  replace hz11 := hz11.after bz24
  clear bz24
  refine ⟨_, rfl, ?_⟩
  refine hK' _ _ ⟨hB, hz5, hz11⟩ (fun _ => trivial) ?_
  clear hK' K'
  go_frame
  refine y_oper 9 (by kernel_rfl) rfl rfl (fun K' hK' => ?_)
  have lz30 := hB.size
  have lz31 := hz5.lt
  have lz32 := hz11.lt
  refine wp_call1 (some 24) rfl 49 _ _ rfl (fun args w => by kernel_rfl) _ rfl _ (boxOf_c tp ti tj tk (.slice B xs.length d) _) (fun e Wz28 h => ?_)
  obtain ⟨rfl, bz29⟩ := h
  replace hB := below_after hB bz29
  replace hz5 := hz5.after bz29
  replace hz11 := hz11.after bz29
  clear bz29
  refine ⟨_, rfl, ?_⟩
  refine hK' _ _ ⟨hB, hz5, hz11⟩ (fun _ => trivial) ?_
  clear hK' K'
  go_frame
  refine y_yield 10 (some 25) (.bool false) rfl (by kernel_rfl) (by kernel_rfl) (by kernel_rfl) (fun _ _ _ h => h) rfl rfl ⟨hB, hz5, hz11⟩ (fun w' h' => exec_eql_bxm _ _ _ rfl N0 N1 N2 ti tj tk rfl rfl false HQS.out) ?_
  go_frame
  refine y_yield 11 (some 26) (.bool false) rfl (by kernel_rfl) (by kernel_rfl) (by kernel_rfl) (fun _ _ _ h => h) rfl rfl ⟨hB, hz5, hz11⟩ (fun w' h' => exec_pick _ _ _ rfl true rfl (.bool false) rfl) ?_
  go_frame
  refine y_oper 12 (by kernel_rfl) rfl rfl (fun K' hK' => ?_)
  refine wp_exec (some 6) rfl (.bool false) (exec_assign _ rfl (.bool false) rfl) ?_
  refine hK' _ _ ⟨hB, hz5, hz11⟩ (fun _ => trivial) ?_
  clear hK' K'
  go_frame
  refine y_done (by kernel_rfl) ?_ _
  go_upto_region 4 with (fail)
  refine wp_region_y (zs := []) (S := fun w' => Below w.heap.size w w') (S2 := fun w' => True) (by kernel_rfl) ?_
  change wpAnyY _ _ _ _ _ _ _ _ _ _ (World.drew _)
  generalize hwdz33 : World.drew _ = wdz33
  replace hB : Below w.heap.size w wdz33 := by rw [← hwdz33]; exact hB.drew
  replace hz5 : At wdz33 w.heap.size (.cells #[.int .i64 P, .int .i64 N0, .int .i64 N1, .int .i64 N2, .slice A qs.length c] 29 (0, 0)) := by rw [← hwdz33]; exact hz5
  replace hz11 : At wdz33 Wz2.heap.size (.cells #[.int .i64 tp, .int .i64 ti, .int .i64 tj, .int .i64 tk, .slice B xs.length d] 52 (0, 0)) := by rw [← hwdz33]; exact hz11
  clear hwdz33
  refine y_yield 0 (some 27) (.bool false) rfl (by kernel_rfl) (by kernel_rfl) (by kernel_rfl) (fun _ _ _ h => h) rfl rfl hB (fun w' h' => exec_move _ rfl (.bool false) rfl) ?_
  go_frame
  refine y_yield 1 (some 28) (.bool false) rfl (by kernel_rfl) (by kernel_rfl) (by kernel_rfl) (fun _ _ _ h => h) rfl rfl hB (fun w' h' => exec_move _ rfl (.bool false) rfl) ?_
  go_frame
  refine y_skip 2 (some 29) rfl (by kernel_rfl) (by kernel_rfl) (by kernel_rfl) (fun _ _ _ h => h) rfl rfl hB ?_
  go_frame
  refine y_skip 5 (some 32) rfl (by kernel_rfl) (by kernel_rfl) (by kernel_rfl) (fun _ _ _ h => h) rfl rfl hB ?_
  go_frame
  refine y_skip 6 (some 33) rfl (by kernel_rfl) (by kernel_rfl) (by kernel_rfl) (fun _ _ _ h => h) rfl rfl hB ?_
  go_frame
  refine y_pass 3 (some 30) (by kernel_rfl) rfl rfl rfl hB ?_
  go_frame
  refine y_skip 4 (some 31) rfl (by kernel_rfl) (by kernel_rfl) (by kernel_rfl) (fun _ _ _ h => h) rfl rfl hB ?_
  go_frame
  refine y_pass 7 (some 34) (by kernel_rfl) rfl rfl rfl hB ?_
  go_frame
  refine y_yield 8 (some 35) (.bool false) rfl (by kernel_rfl) (by kernel_rfl) (by kernel_rfl) (fun _ _ _ h => h) rfl rfl hB (fun w' h' => exec_pick _ _ _ rfl false rfl (.bool false) rfl) ?_
  go_frame
  refine y_oper 9 (by kernel_rfl) rfl rfl (fun K' hK' => ?_)
  refine wp_exec (some 4) rfl (.bool false) (exec_assign _ rfl (.bool false) rfl) ?_
  refine hK' _ _ hB (fun _ => trivial) ?_
  clear hK' K'
  go_frame
  refine y_oper 10 (by kernel_rfl) rfl rfl (fun K' hK' => ?_)
  refine wp_exec (some 5) rfl (.int .i64 0) (exec_assign _ rfl (.int .i64 0) rfl) ?_
  refine hK' _ _ hB (fun _ => trivial) ?_
  clear hK' K'
  go_frame
  refine y_done (by kernel_rfl) ?_ _
  go_wp2_with fail
  go_ret2
  exact ⟨by rw [HV.out, HC.out]; rfl, hB⟩
set_option maxHeartbeats 25600000 in
theorem implMf_q3 (P N0 N1 N2 : Nat) (A : Option Addr) (c : Nat) (qs : List (List Nat)) (tp ti tj tk : Int) (B : Option Addr) (d : Nat) (xs : List Int) (w : World) (hR : Rd w A qs) (hlen : qs.length ≤ 30) (hX : RdI w B xs) (hxl : xs.length ≤ 1048576) (hP : 2 ≤ P ∧ P ≤ 5) (l0 : 1 ≤ N0 ∧ N0 ≤ 9) (l1 : 1 ≤ N1 ∧ N1 ≤ 9) (l2 : 1 ≤ N2 ∧ N2 ≤ 9) (hs : methB P N0 N1 N2 qs = true) (ht : tenB tp ti tj tk xs = true) (hq0 : ((P : Int) == tp) = true) (hq1 : ((N0 : Int) == ti) = true) (hq2 : ((N1 : Int) == tj) = true) (hq3 : ((N2 : Int) == tk) = false) :
    Calls Try.prog 25 #[.agg #[.int .i64 P, .int .i64 N0, .int .i64 N1, .int .i64 N2, .slice A qs.length c], .agg #[.int .i64 tp, .int .i64 ti, .int .i64 tj, .int .i64 tk, .slice B xs.length d]] w (fun e w' => e = .returned (.tuple #[.bool (mfB P N0 N1 N2 qs tp ti tj tk xs), .int .i64 (mfCode P N0 N1 N2 qs tp ti tj tk xs)]) ∧ Below w.heap.size w w') := by
  have hB := Below.refl w.heap.size w
  have _u0 := hP
  have _u1 := l0
  have _u2 := l1
  have _u3 := l2
  clear _u0 _u1 _u2 _u3
  have HC : Hid (mfCode P N0 N1 N2 qs tp ti tj tk xs = 0) := Lib.hid (by simp [mfCode, hs, ht])
  have Hs := Lib.hid hs
  have Ht := Lib.hid ht
  obtain ⟨N, hNt⟩ : ∃ N, (topL P N0 N1 N2 qs).length = N := ⟨_, rfl⟩
  have HNt := Lib.hid hNt
  have HV : Hid (mfB P N0 N1 N2 qs tp ti tj tk xs = false) := Lib.hid (by unfold mfB; rw [hq0, hq1, hq2, hq3]; simp)
  have HQS : Hid (((N0 : Int) == ti && ((N1 : Int) == tj && (N2 : Int) == tk)) = false) := Lib.hid (by rw [hq1, hq2, hq3]; simp)
  have HQ0 := Lib.hid hq0
  have HQ1 := Lib.hid hq1
  have HQ2 := Lib.hid hq2
  have HQ3 := Lib.hid hq3
  clear hs ht hNt hq0 hq1 hq2 hq3
  go_enter Try.func25, Try.ntmps25
  go_upto_region 0 with (fail)
  refine wp_region_lit ?_
  refine ls_op rfl (fun K' hK' => ?_)
  have lz1 := hB.size
  refine wp_new (some 2) rfl (exec_box 29 _ rfl (#[.int .i64 P, .int .i64 N0, .int .i64 N1, .int .i64 N2, .slice A qs.length c]) rfl) (fun Wz2 nnz3 => ?_)
  have bz4 := nnz3.below (Below.refl _ _) (Nat.le_refl _)
  replace hB := below_after hB bz4
  have hz5 : At Wz2 w.heap.size (.cells #[.int .i64 P, .int .i64 N0, .int .i64 N1, .int .i64 N2, .slice A qs.length c] 29 (0, 0)) := nnz3.at_
  refine hK' _ _ ?_
  clear hK' K' nnz3 bz4
  go_frame
  refine ls_op rfl (fun K' hK' => ?_)
  have lz6 := hB.size
  have lz7 := hz5.lt
  refine wp_new (some 3) rfl (exec_box 52 _ rfl (#[.int .i64 tp, .int .i64 ti, .int .i64 tj, .int .i64 tk, .slice B xs.length d]) rfl) (fun Wz8 nnz9 => ?_)
  have bz10 := nnz9.below (Below.refl _ _) (Nat.le_refl _)
  replace hB := below_after hB bz10
  replace hz5 := hz5.after bz10
  have hz11 : At Wz8 Wz2.heap.size (.cells #[.int .i64 tp, .int .i64 ti, .int .i64 tj, .int .i64 tk, .slice B xs.length d] 52 (0, 0)) := nnz9.at_
  refine hK' _ _ ?_
  clear hK' K' nnz9 bz10
  go_frame
  refine ls_ex (some 4) (.bool false) rfl rfl (exec_assign _ rfl (.bool false) rfl) ?_
  go_frame
  refine ls_ex (some 5) (.int .i64 0) rfl rfl (exec_assign _ rfl (.int .i64 0) rfl) ?_
  go_frame
  refine wpList_nil ?_
  go_upto_region 1 with (fail)
  refine wp_region_lit ?_
  refine ls_ex (some 7) (.agg #[.int .i64 P, .int .i64 N0, .int .i64 N1, .int .i64 N2, .slice A qs.length c]) rfl rfl (exec_load_all 29 _ rfl w.heap.size rfl _ _ _ hz5 Try.underlying29 rfl 5 (by kernel_rfl) rfl) ?_
  go_frame
  refine ls_op rfl (fun K' hK' => ?_)
  have lz14 := hB.size
  have lz15 := hz5.lt
  have lz16 := hz11.lt
  refine wp_call1 (some 8) rfl 10 _ _ rfl (fun args w => by kernel_rfl) _ rfl _ (implIsMethod_c P N0 N1 N2 A c qs _ (hR.keep hB) (by omega)) (fun e Wz12 h => ?_)
  obtain ⟨rfl, bz13⟩ := h
  replace hB := below_after hB bz13
  replace hz5 := hz5.after bz13
  replace hz11 := hz11.after bz13
  rw [Hs.out]
  clear bz13
  refine ⟨_, rfl, ?_⟩
  refine hK' _ _ ?_
  clear hK' K'
  go_frame
  refine ls_ex (some 9) (.bool false) rfl rfl (exec_not _ _ rfl true rfl) ?_
  go_frame
  refine ls_ex (some 10) (.bool false) rfl rfl (exec_move _ rfl (.bool false) rfl) ?_
  go_frame
  refine ls_ex_g (some 11) (.agg #[.int .i64 tp, .int .i64 ti, .int .i64 tj, .int .i64 tk, .slice B xs.length d]) rfl rfl (exec_load_all 52 _ rfl Wz2.heap.size rfl _ _ _ hz11 Try.underlying52 rfl 5 (by kernel_rfl) rfl) ?_
  go_frame
  refine ls_op_g rfl (fun K' hK' => ?_)
  have lz19 := hB.size
  have lz20 := hz5.lt
  have lz21 := hz11.lt
  refine wp_call1 (some 12) rfl 48 _ _ rfl (fun args w => by kernel_rfl) _ rfl _ (implIsTensor_c tp ti tj tk B d xs _ (hX.keep hB) hxl) (fun e Wz17 h => ?_)
  obtain ⟨rfl, bz18⟩ := h
  replace hB := below_after hB bz18
  replace hz5 := hz5.after bz18
  replace hz11 := hz11.after bz18
  rw [Ht.out]
  clear bz18
  refine ⟨_, rfl, ?_⟩
  refine hK' _ _ ?_
  clear hK' K'
  go_frame
  refine ls_ex_g (some 13) (.bool false) rfl rfl (exec_not _ _ rfl true rfl) ?_
  go_frame
  refine ls_ex (some 14) (.bool false) rfl rfl (exec_pick _ _ _ rfl false rfl (.bool false) rfl) ?_
  go_frame
  refine wpList_nil ?_
  go_upto_region 3 with (fail)
  refine wp_region_y (zs := []) (S := fun w' => Below w.heap.size w w' ∧ At w' w.heap.size (.cells #[.int .i64 P, .int .i64 N0, .int .i64 N1, .int .i64 N2, .slice A qs.length c] 29 (0, 0)) ∧ At w' Wz2.heap.size (.cells #[.int .i64 tp, .int .i64 ti, .int .i64 tj, .int .i64 tk, .slice B xs.length d] 52 (0, 0))) (S2 := fun w' => True) (by kernel_rfl) ?_
  change wpAnyY _ _ _ _ _ _ _ _ _ _ (World.drew _)
  generalize hwdz22 : World.drew _ = wdz22
  replace hB : Below w.heap.size w wdz22 := by rw [← hwdz22]; exact hB.drew
  replace hz5 : At wdz22 w.heap.size (.cells #[.int .i64 P, .int .i64 N0, .int .i64 N1, .int .i64 N2, .slice A qs.length c] 29 (0, 0)) := by rw [← hwdz22]; exact hz5
  replace hz11 : At wdz22 Wz2.heap.size (.cells #[.int .i64 tp, .int .i64 ti, .int .i64 tj, .int .i64 tk, .slice B xs.length d] 52 (0, 0)) := by rw [← hwdz22]; exact hz11
  clear hwdz22
  refine y_yield 0 (some 15) (.pointer (some ⟨w.heap.size, 0, none⟩)) rfl (by kernel_rfl) (by kernel_rfl) (by kernel_rfl) (fun _ _ _ h => h) rfl rfl ⟨hB, hz5, hz11⟩ (fun w' h' => exec_fieldAddr 29 _ 0 rfl _ (by kernel_rfl)) ?_
  go_frame
  refine y_yield 1 (some 16) (.int .i64 P) rfl (by kernel_rfl) (by kernel_rfl) (by kernel_rfl) (fun _ _ _ h => h) rfl rfl ⟨hB, hz5, hz11⟩ (fun w' h' => exec_load_one 2 _ rfl w.heap.size 0 rfl (.int .i64 P) _ Try.underlying2 rfl (h'.2.1.at_ 0)) ?_
  go_frame
  refine y_yield 2 (some 17) (.pointer (some ⟨Wz2.heap.size, 0, none⟩)) rfl (by kernel_rfl) (by kernel_rfl) (by kernel_rfl) (fun _ _ _ h => h) rfl rfl ⟨hB, hz5, hz11⟩ (fun w' h' => exec_fieldAddr 52 _ 0 rfl _ (by kernel_rfl)) ?_
  go_frame
  refine y_yield 3 (some 18) (.int .i64 tp) rfl (by kernel_rfl) (by kernel_rfl) (by kernel_rfl) (fun _ _ _ h => h) rfl rfl ⟨hB, hz5, hz11⟩ (fun w' h' => exec_load_one 2 _ rfl Wz2.heap.size 0 rfl (.int .i64 tp) _ Try.underlying2 rfl (h'.2.2.at_ 0)) ?_
  go_frame
  refine y_yield 4 (some 19) (.bool true) rfl (by kernel_rfl) (by kernel_rfl) (by kernel_rfl) (fun _ _ _ h => h) rfl rfl ⟨hB, hz5, hz11⟩ (fun w' h' => exec_eql _ _ _ _ rfl P tp rfl rfl true HQ0.out) ?_
  go_frame
  refine y_yield 5 (some 20) (.bool true) rfl (by kernel_rfl) (by kernel_rfl) (by kernel_rfl) (fun _ _ _ h => h) rfl rfl ⟨hB, hz5, hz11⟩ (fun w' h' => exec_move _ rfl (.bool true) rfl) ?_
  go_frame
  refine y_yield 6 (some 21) (.agg #[.int .i64 P, .int .i64 N0, .int .i64 N1, .int .i64 N2, .slice A qs.length c]) rfl (by kernel_rfl) (by kernel_rfl) (by kernel_rfl) (fun _ _ _ h => h) rfl rfl ⟨hB, hz5, hz11⟩ (fun w' h' => exec_load_all 29 _ rfl w.heap.size rfl _ _ _ h'.2.1 Try.underlying29 rfl 5 (by kernel_rfl) rfl) ?_
  go_frame
  refine y_yield 8 (some 23) (.agg #[.int .i64 tp, .int .i64 ti, .int .i64 tj, .int .i64 tk, .slice B xs.length d]) rfl (by kernel_rfl) (by kernel_rfl) (by kernel_rfl) (fun _ _ _ h => h) rfl rfl ⟨hB, hz5, hz11⟩ (fun w' h' => exec_load_all 52 _ rfl Wz2.heap.size rfl _ _ _ h'.2.2 Try.underlying52 rfl 5 (by kernel_rfl) rfl) ?_
  go_frame
  refine y_oper 7 (by kernel_rfl) rfl rfl (fun K' hK' => ?_)
  have lz25 := hB.size
  have lz26 := hz5.lt
  have lz27 := hz11.lt
  refine wp_call1 (some 22) rfl 31 _ _ rfl (fun args w => by kernel_rfl) _ rfl _ (mSides_c P N0 N1 N2 (.slice A qs.length c) _) (fun e Wz23 h => ?_)
  obtain ⟨rfl, bz24⟩ := h
  replace hB := below_after hB bz24
  replace hz5 := hz5.after bz24
  replace hz11 := hz11.after bz24
  clear bz24
  refine ⟨_, rfl, ?_⟩
  refine hK' _ _ ⟨hB, hz5, hz11⟩ (fun _ => trivial) ?_
  clear hK' K'
  go_frame
  refine y_oper 9 (by kernel_rfl) rfl rfl (fun K' hK' => ?_)
  have lz30 := hB.size
  have lz31 := hz5.lt
  have lz32 := hz11.lt
  refine wp_call1 (some 24) rfl 49 _ _ rfl (fun args w => by kernel_rfl) _ rfl _ (boxOf_c tp ti tj tk (.slice B xs.length d) _) (fun e Wz28 h => ?_)
  obtain ⟨rfl, bz29⟩ := h
  replace hB := below_after hB bz29
  replace hz5 := hz5.after bz29
  replace hz11 := hz11.after bz29
  clear bz29
  refine ⟨_, rfl, ?_⟩
  refine hK' _ _ ⟨hB, hz5, hz11⟩ (fun _ => trivial) ?_
  clear hK' K'
  go_frame
  refine y_yield 10 (some 25) (.bool false) rfl (by kernel_rfl) (by kernel_rfl) (by kernel_rfl) (fun _ _ _ h => h) rfl rfl ⟨hB, hz5, hz11⟩ (fun w' h' => exec_eql_bxm _ _ _ rfl N0 N1 N2 ti tj tk rfl rfl false HQS.out) ?_
  go_frame
  refine y_yield 11 (some 26) (.bool false) rfl (by kernel_rfl) (by kernel_rfl) (by kernel_rfl) (fun _ _ _ h => h) rfl rfl ⟨hB, hz5, hz11⟩ (fun w' h' => exec_pick _ _ _ rfl true rfl (.bool false) rfl) ?_
  go_frame
  refine y_oper 12 (by kernel_rfl) rfl rfl (fun K' hK' => ?_)
  refine wp_exec (some 6) rfl (.bool false) (exec_assign _ rfl (.bool false) rfl) ?_
  refine hK' _ _ ⟨hB, hz5, hz11⟩ (fun _ => trivial) ?_
  clear hK' K'
  go_frame
  refine y_done (by kernel_rfl) ?_ _
  go_upto_region 4 with (fail)
  refine wp_region_y (zs := []) (S := fun w' => Below w.heap.size w w') (S2 := fun w' => True) (by kernel_rfl) ?_
  change wpAnyY _ _ _ _ _ _ _ _ _ _ (World.drew _)
  generalize hwdz33 : World.drew _ = wdz33
  replace hB : Below w.heap.size w wdz33 := by rw [← hwdz33]; exact hB.drew
  replace hz5 : At wdz33 w.heap.size (.cells #[.int .i64 P, .int .i64 N0, .int .i64 N1, .int .i64 N2, .slice A qs.length c] 29 (0, 0)) := by rw [← hwdz33]; exact hz5
  replace hz11 : At wdz33 Wz2.heap.size (.cells #[.int .i64 tp, .int .i64 ti, .int .i64 tj, .int .i64 tk, .slice B xs.length d] 52 (0, 0)) := by rw [← hwdz33]; exact hz11
  clear hwdz33
  refine y_yield 0 (some 27) (.bool false) rfl (by kernel_rfl) (by kernel_rfl) (by kernel_rfl) (fun _ _ _ h => h) rfl rfl hB (fun w' h' => exec_move _ rfl (.bool false) rfl) ?_
  go_frame
  refine y_yield 1 (some 28) (.bool false) rfl (by kernel_rfl) (by kernel_rfl) (by kernel_rfl) (fun _ _ _ h => h) rfl rfl hB (fun w' h' => exec_move _ rfl (.bool false) rfl) ?_
  go_frame
  refine y_skip 2 (some 29) rfl (by kernel_rfl) (by kernel_rfl) (by kernel_rfl) (fun _ _ _ h => h) rfl rfl hB ?_
  go_frame
  refine y_skip 5 (some 32) rfl (by kernel_rfl) (by kernel_rfl) (by kernel_rfl) (fun _ _ _ h => h) rfl rfl hB ?_
  go_frame
  refine y_skip 6 (some 33) rfl (by kernel_rfl) (by kernel_rfl) (by kernel_rfl) (fun _ _ _ h => h) rfl rfl hB ?_
  go_frame
  refine y_pass 3 (some 30) (by kernel_rfl) rfl rfl rfl hB ?_
  go_frame
  refine y_skip 4 (some 31) rfl (by kernel_rfl) (by kernel_rfl) (by kernel_rfl) (fun _ _ _ h => h) rfl rfl hB ?_
  go_frame
  refine y_pass 7 (some 34) (by kernel_rfl) rfl rfl rfl hB ?_
  go_frame
  refine y_yield 8 (some 35) (.bool false) rfl (by kernel_rfl) (by kernel_rfl) (by kernel_rfl) (fun _ _ _ h => h) rfl rfl hB (fun w' h' => exec_pick _ _ _ rfl false rfl (.bool false) rfl) ?_
  go_frame
  refine y_oper 9 (by kernel_rfl) rfl rfl (fun K' hK' => ?_)
  refine wp_exec (some 4) rfl (.bool false) (exec_assign _ rfl (.bool false) rfl) ?_
  refine hK' _ _ hB (fun _ => trivial) ?_
  clear hK' K'
  go_frame
  refine y_oper 10 (by kernel_rfl) rfl rfl (fun K' hK' => ?_)
  refine wp_exec (some 5) rfl (.int .i64 0) (exec_assign _ rfl (.int .i64 0) rfl) ?_
  refine hK' _ _ hB (fun _ => trivial) ?_
  clear hK' K'
  go_frame
  refine y_done (by kernel_rfl) ?_ _
  go_wp2_with fail
  go_ret2
  exact ⟨by rw [HV.out, HC.out]; rfl, hB⟩
set_option maxHeartbeats 25600000 in
theorem implMf_q (P N0 N1 N2 : Nat) (A : Option Addr) (c : Nat) (qs : List (List Nat)) (tp ti tj tk : Int) (B : Option Addr) (d : Nat) (xs : List Int) (w : World) (hR : Rd w A qs) (hlen : qs.length ≤ 30) (hX : RdI w B xs) (hxl : xs.length ≤ 1048576) (hP : 2 ≤ P ∧ P ≤ 5) (l0 : 1 ≤ N0 ∧ N0 ≤ 9) (l1 : 1 ≤ N1 ∧ N1 ≤ 9) (l2 : 1 ≤ N2 ∧ N2 ≤ 9) (hs : methB P N0 N1 N2 qs = true) (ht : tenB tp ti tj tk xs = true) (hq0 : ((P : Int) == tp) = true) (hq1 : ((N0 : Int) == ti) = true) (hq2 : ((N1 : Int) == tj) = true) (hq3 : ((N2 : Int) == tk) = true) :
    Calls Try.prog 25 #[.agg #[.int .i64 P, .int .i64 N0, .int .i64 N1, .int .i64 N2, .slice A qs.length c], .agg #[.int .i64 tp, .int .i64 ti, .int .i64 tj, .int .i64 tk, .slice B xs.length d]] w (fun e w' => e = .returned (.tuple #[.bool (mfB P N0 N1 N2 qs tp ti tj tk xs), .int .i64 (mfCode P N0 N1 N2 qs tp ti tj tk xs)]) ∧ Below w.heap.size w w') := by
  have hB := Below.refl w.heap.size w
  have HC : Hid (mfCode P N0 N1 N2 qs tp ti tj tk xs = 0) := Lib.hid (by simp [mfCode, hs, ht])
  have Hs := Lib.hid hs
  have Ht := Lib.hid ht
  obtain ⟨N, hNt⟩ : ∃ N, (topL P N0 N1 N2 qs).length = N := ⟨_, rfl⟩
  have HNt := Lib.hid hNt
  have HF : Hid (mfB P N0 N1 N2 qs tp ti tj tk xs = (topL P N0 N1 N2 qs == xs)) := Lib.hid (by unfold mfB; rw [hs, ht, hq0, hq1, hq2, hq3]; rfl)
  have Hxs : Hid (xs.length = N) := Lib.hid (by rw [← hNt, topL_len]; simp only [tenB, Bool.and_eq_true, decide_eq_true_eq] at ht; rw [beq_iff_eq] at hq1 hq2 hq3; have h9 := ht.1.2; rw [← hq1, ← hq2, ← hq3, ← Int.natCast_mul, ← Int.natCast_mul] at h9; omega)
  have HV := HF
  have HQS : Hid (((N0 : Int) == ti && ((N1 : Int) == tj && (N2 : Int) == tk)) = true) := Lib.hid (by rw [hq1, hq2, hq3]; simp)
  have HQ0 := Lib.hid hq0
  have HQ1 := Lib.hid hq1
  have HQ2 := Lib.hid hq2
  have HQ3 := Lib.hid hq3
  clear hs ht hNt hq0 hq1 hq2 hq3
  go_enter Try.func25, Try.ntmps25
  go_upto_region 0 with (fail)
  refine wp_region_lit ?_
  refine ls_op rfl (fun K' hK' => ?_)
  have lz1 := hB.size
  refine wp_new (some 2) rfl (exec_box 29 _ rfl (#[.int .i64 P, .int .i64 N0, .int .i64 N1, .int .i64 N2, .slice A qs.length c]) rfl) (fun Wz2 nnz3 => ?_)
  have bz4 := nnz3.below (Below.refl _ _) (Nat.le_refl _)
  replace hB := below_after hB bz4
  have hz5 : At Wz2 w.heap.size (.cells #[.int .i64 P, .int .i64 N0, .int .i64 N1, .int .i64 N2, .slice A qs.length c] 29 (0, 0)) := nnz3.at_
  refine hK' _ _ ?_
  clear hK' K' nnz3 bz4
  go_frame
  refine ls_op rfl (fun K' hK' => ?_)
  have lz6 := hB.size
  have lz7 := hz5.lt
  refine wp_new (some 3) rfl (exec_box 52 _ rfl (#[.int .i64 tp, .int .i64 ti, .int .i64 tj, .int .i64 tk, .slice B xs.length d]) rfl) (fun Wz8 nnz9 => ?_)
  have bz10 := nnz9.below (Below.refl _ _) (Nat.le_refl _)
  replace hB := below_after hB bz10
  replace hz5 := hz5.after bz10
  have hz11 : At Wz8 Wz2.heap.size (.cells #[.int .i64 tp, .int .i64 ti, .int .i64 tj, .int .i64 tk, .slice B xs.length d] 52 (0, 0)) := nnz9.at_
  refine hK' _ _ ?_
  clear hK' K' nnz9 bz10
  go_frame
  refine ls_ex (some 4) (.bool false) rfl rfl (exec_assign _ rfl (.bool false) rfl) ?_
  go_frame
  refine ls_ex (some 5) (.int .i64 0) rfl rfl (exec_assign _ rfl (.int .i64 0) rfl) ?_
  go_frame
  refine wpList_nil ?_
  go_upto_region 1 with (fail)
  refine wp_region_lit ?_
  refine ls_ex (some 7) (.agg #[.int .i64 P, .int .i64 N0, .int .i64 N1, .int .i64 N2, .slice A qs.length c]) rfl rfl (exec_load_all 29 _ rfl w.heap.size rfl _ _ _ hz5 Try.underlying29 rfl 5 (by kernel_rfl) rfl) ?_
  go_frame
  refine ls_op rfl (fun K' hK' => ?_)
  have lz14 := hB.size
  have lz15 := hz5.lt
  have lz16 := hz11.lt
  refine wp_call1 (some 8) rfl 10 _ _ rfl (fun args w => by kernel_rfl) _ rfl _ (implIsMethod_c P N0 N1 N2 A c qs _ (hR.keep hB) (by omega)) (fun e Wz12 h => ?_)
  obtain ⟨rfl, bz13⟩ := h
  replace hB := below_after hB bz13
  replace hz5 := hz5.after bz13
  replace hz11 := hz11.after bz13
  rw [Hs.out]
  clear bz13
  refine ⟨_, rfl, ?_⟩
  refine hK' _ _ ?_
  clear hK' K'
  go_frame
  refine ls_ex (some 9) (.bool false) rfl rfl (exec_not _ _ rfl true rfl) ?_
  go_frame
  refine ls_ex (some 10) (.bool false) rfl rfl (exec_move _ rfl (.bool false) rfl) ?_
  go_frame
  refine ls_ex_g (some 11) (.agg #[.int .i64 tp, .int .i64 ti, .int .i64 tj, .int .i64 tk, .slice B xs.length d]) rfl rfl (exec_load_all 52 _ rfl Wz2.heap.size rfl _ _ _ hz11 Try.underlying52 rfl 5 (by kernel_rfl) rfl) ?_
  go_frame
  refine ls_op_g rfl (fun K' hK' => ?_)
  have lz19 := hB.size
  have lz20 := hz5.lt
  have lz21 := hz11.lt
  refine wp_call1 (some 12) rfl 48 _ _ rfl (fun args w => by kernel_rfl) _ rfl _ (implIsTensor_c tp ti tj tk B d xs _ (hX.keep hB) hxl) (fun e Wz17 h => ?_)
  obtain ⟨rfl, bz18⟩ := h
  replace hB := below_after hB bz18
  replace hz5 := hz5.after bz18
  replace hz11 := hz11.after bz18
  rw [Ht.out]
  clear bz18
  refine ⟨_, rfl, ?_⟩
  refine hK' _ _ ?_
  clear hK' K'
  go_frame
  refine ls_ex_g (some 13) (.bool false) rfl rfl (exec_not _ _ rfl true rfl) ?_
  go_frame
  refine ls_ex (some 14) (.bool false) rfl rfl (exec_pick _ _ _ rfl false rfl (.bool false) rfl) ?_
  go_frame
  refine wpList_nil ?_
  go_upto_region 3 with (fail)
  refine wp_region_y (zs := []) (S := fun w' => Below w.heap.size w w' ∧ At w' w.heap.size (.cells #[.int .i64 P, .int .i64 N0, .int .i64 N1, .int .i64 N2, .slice A qs.length c] 29 (0, 0)) ∧ At w' Wz2.heap.size (.cells #[.int .i64 tp, .int .i64 ti, .int .i64 tj, .int .i64 tk, .slice B xs.length d] 52 (0, 0))) (S2 := fun w' => True) (by kernel_rfl) ?_
  change wpAnyY _ _ _ _ _ _ _ _ _ _ (World.drew _)
  generalize hwdz22 : World.drew _ = wdz22
  replace hB : Below w.heap.size w wdz22 := by rw [← hwdz22]; exact hB.drew
  replace hz5 : At wdz22 w.heap.size (.cells #[.int .i64 P, .int .i64 N0, .int .i64 N1, .int .i64 N2, .slice A qs.length c] 29 (0, 0)) := by rw [← hwdz22]; exact hz5
  replace hz11 : At wdz22 Wz2.heap.size (.cells #[.int .i64 tp, .int .i64 ti, .int .i64 tj, .int .i64 tk, .slice B xs.length d] 52 (0, 0)) := by rw [← hwdz22]; exact hz11
  clear hwdz22
  refine y_yield 0 (some 15) (.pointer (some ⟨w.heap.size, 0, none⟩)) rfl (by kernel_rfl) (by kernel_rfl) (by kernel_rfl) (fun _ _ _ h => h) rfl rfl ⟨hB, hz5, hz11⟩ (fun w' h' => exec_fieldAddr 29 _ 0 rfl _ (by kernel_rfl)) ?_
  go_frame
  refine y_yield 1 (some 16) (.int .i64 P) rfl (by kernel_rfl) (by kernel_rfl) (by kernel_rfl) (fun _ _ _ h => h) rfl rfl ⟨hB, hz5, hz11⟩ (fun w' h' => exec_load_one 2 _ rfl w.heap.size 0 rfl (.int .i64 P) _ Try.underlying2 rfl (h'.2.1.at_ 0)) ?_
  go_frame
  refine y_yield 2 (some 17) (.pointer (some ⟨Wz2.heap.size, 0, none⟩)) rfl (by kernel_rfl) (by kernel_rfl) (by kernel_rfl) (fun _ _ _ h => h) rfl rfl ⟨hB, hz5, hz11⟩ (fun w' h' => exec_fieldAddr 52 _ 0 rfl _ (by kernel_rfl)) ?_
  go_frame
  refine y_yield 3 (some 18) (.int .i64 tp) rfl (by kernel_rfl) (by kernel_rfl) (by kernel_rfl) (fun _ _ _ h => h) rfl rfl ⟨hB, hz5, hz11⟩ (fun w' h' => exec_load_one 2 _ rfl Wz2.heap.size 0 rfl (.int .i64 tp) _ Try.underlying2 rfl (h'.2.2.at_ 0)) ?_
  go_frame
  refine y_yield 4 (some 19) (.bool true) rfl (by kernel_rfl) (by kernel_rfl) (by kernel_rfl) (fun _ _ _ h => h) rfl rfl ⟨hB, hz5, hz11⟩ (fun w' h' => exec_eql _ _ _ _ rfl P tp rfl rfl true HQ0.out) ?_
  go_frame
  refine y_yield 5 (some 20) (.bool true) rfl (by kernel_rfl) (by kernel_rfl) (by kernel_rfl) (fun _ _ _ h => h) rfl rfl ⟨hB, hz5, hz11⟩ (fun w' h' => exec_move _ rfl (.bool true) rfl) ?_
  go_frame
  refine y_yield 6 (some 21) (.agg #[.int .i64 P, .int .i64 N0, .int .i64 N1, .int .i64 N2, .slice A qs.length c]) rfl (by kernel_rfl) (by kernel_rfl) (by kernel_rfl) (fun _ _ _ h => h) rfl rfl ⟨hB, hz5, hz11⟩ (fun w' h' => exec_load_all 29 _ rfl w.heap.size rfl _ _ _ h'.2.1 Try.underlying29 rfl 5 (by kernel_rfl) rfl) ?_
  go_frame
  refine y_yield 8 (some 23) (.agg #[.int .i64 tp, .int .i64 ti, .int .i64 tj, .int .i64 tk, .slice B xs.length d]) rfl (by kernel_rfl) (by kernel_rfl) (by kernel_rfl) (fun _ _ _ h => h) rfl rfl ⟨hB, hz5, hz11⟩ (fun w' h' => exec_load_all 52 _ rfl Wz2.heap.size rfl _ _ _ h'.2.2 Try.underlying52 rfl 5 (by kernel_rfl) rfl) ?_
  go_frame
  refine y_oper 7 (by kernel_rfl) rfl rfl (fun K' hK' => ?_)
  have lz25 := hB.size
  have lz26 := hz5.lt
  have lz27 := hz11.lt
  refine wp_call1 (some 22) rfl 31 _ _ rfl (fun args w => by kernel_rfl) _ rfl _ (mSides_c P N0 N1 N2 (.slice A qs.length c) _) (fun e Wz23 h => ?_)
  obtain ⟨rfl, bz24⟩ := h
  replace hB := below_after hB bz24
  replace hz5 := hz5.after bz24
  replace hz11 := hz11.after bz24
  clear bz24
  refine ⟨_, rfl, ?_⟩
  refine hK' _ _ ⟨hB, hz5, hz11⟩ (fun _ => trivial) ?_
  clear hK' K'
  go_frame
  refine y_oper 9 (by kernel_rfl) rfl rfl (fun K' hK' => ?_)
  have lz30 := hB.size
  have lz31 := hz5.lt
  have lz32 := hz11.lt
  refine wp_call1 (some 24) rfl 49 _ _ rfl (fun args w => by kernel_rfl) _ rfl _ (boxOf_c tp ti tj tk (.slice B xs.length d) _) (fun e Wz28 h => ?_)
  obtain ⟨rfl, bz29⟩ := h
  replace hB := below_after hB bz29
  replace hz5 := hz5.after bz29
  replace hz11 := hz11.after bz29
  clear bz29
  refine ⟨_, rfl, ?_⟩
  refine hK' _ _ ⟨hB, hz5, hz11⟩ (fun _ => trivial) ?_
  clear hK' K'
  go_frame
  refine y_yield 10 (some 25) (.bool true) rfl (by kernel_rfl) (by kernel_rfl) (by kernel_rfl) (fun _ _ _ h => h) rfl rfl ⟨hB, hz5, hz11⟩ (fun w' h' => exec_eql_bxm _ _ _ rfl N0 N1 N2 ti tj tk rfl rfl true HQS.out) ?_
  go_frame
  refine y_yield 11 (some 26) (.bool true) rfl (by kernel_rfl) (by kernel_rfl) (by kernel_rfl) (fun _ _ _ h => h) rfl rfl ⟨hB, hz5, hz11⟩ (fun w' h' => exec_pick _ _ _ rfl true rfl (.bool true) rfl) ?_
  go_frame
  refine y_oper 12 (by kernel_rfl) rfl rfl (fun K' hK' => ?_)
  refine wp_exec (some 6) rfl (.bool true) (exec_assign _ rfl (.bool true) rfl) ?_
  refine hK' _ _ ⟨hB, hz5, hz11⟩ (fun _ => trivial) ?_
  clear hK' K'
  go_frame
  refine y_done (by kernel_rfl) ?_ _
  go_upto_region 4 with (fail)
  refine wp_region_y (zs := []) (S := fun w' => Below w.heap.size w w' ∧ At w' w.heap.size (.cells #[.int .i64 P, .int .i64 N0, .int .i64 N1, .int .i64 N2, .slice A qs.length c] 29 (0, 0)) ∧ At w' Wz2.heap.size (.cells #[.int .i64 tp, .int .i64 ti, .int .i64 tj, .int .i64 tk, .slice B xs.length d] 52 (0, 0))) (S2 := fun w' => True) (by kernel_rfl) ?_
  change wpAnyY _ _ _ _ _ _ _ _ _ _ (World.drew _)
  generalize hwdz33 : World.drew _ = wdz33
  replace hB : Below w.heap.size w wdz33 := by rw [← hwdz33]; exact hB.drew
  replace hz5 : At wdz33 w.heap.size (.cells #[.int .i64 P, .int .i64 N0, .int .i64 N1, .int .i64 N2, .slice A qs.length c] 29 (0, 0)) := by rw [← hwdz33]; exact hz5
  replace hz11 : At wdz33 Wz2.heap.size (.cells #[.int .i64 tp, .int .i64 ti, .int .i64 tj, .int .i64 tk, .slice B xs.length d] 52 (0, 0)) := by rw [← hwdz33]; exact hz11
  clear hwdz33
  refine y_yield 0 (some 27) (.bool true) rfl (by kernel_rfl) (by kernel_rfl) (by kernel_rfl) (fun _ _ _ h => h) rfl rfl ⟨hB, hz5, hz11⟩ (fun w' h' => exec_move _ rfl (.bool true) rfl) ?_
  go_frame
  refine y_yield 1 (some 28) (.bool true) rfl (by kernel_rfl) (by kernel_rfl) (by kernel_rfl) (fun _ _ _ h => h) rfl rfl ⟨hB, hz5, hz11⟩ (fun w' h' => exec_move _ rfl (.bool true) rfl) ?_
  go_frame
  refine y_yield 2 (some 29) (.agg #[.int .i64 P, .int .i64 N0, .int .i64 N1, .int .i64 N2, .slice A qs.length c]) rfl (by kernel_rfl) (by kernel_rfl) (by kernel_rfl) (fun _ _ _ h => h) rfl rfl ⟨hB, hz5, hz11⟩ (fun w' h' => exec_load_all 29 _ rfl w.heap.size rfl _ _ _ h'.2.1 Try.underlying29 rfl 5 (by kernel_rfl) rfl) ?_
  go_frame
  refine y_yield 5 (some 32) (.pointer (some ⟨Wz2.heap.size, 4, none⟩)) rfl (by kernel_rfl) (by kernel_rfl) (by kernel_rfl) (fun _ _ _ h => h) rfl rfl ⟨hB, hz5, hz11⟩ (fun w' h' => exec_fieldAddr 52 _ 4 rfl _ (by kernel_rfl)) ?_
  go_frame
  refine y_yield 6 (some 33) (.slice B xs.length d) rfl (by kernel_rfl) (by kernel_rfl) (by kernel_rfl) (fun _ _ _ h => h) rfl rfl ⟨hB, hz5, hz11⟩ (fun w' h' => exec_load_one 46 _ rfl Wz2.heap.size 4 rfl (.slice B xs.length d) _ Try.underlying46 rfl (h'.2.2.at_ 4)) ?_
  go_frame
  refine y_oper 3 (by kernel_rfl) rfl rfl (fun K' hK' => ?_)
  have lz36 := hB.size
  have lz37 := hz5.lt
  have lz38 := hz11.lt
  refine wp_call1 (some 30) rfl 51 _ _ rfl (fun args w => by kernel_rfl) _ rfl _ (tensorOfMethod_c P N0 N1 N2 A c qs _ (hR.keep hB) hlen hP l0 l1 l2) (fun e Wz34 h => ?_)
  obtain ⟨v7, rfl, ho, bz35⟩ := h
  replace hB := below_after hB bz35
  replace hz5 := hz5.after bz35
  replace hz11 := hz11.after bz35
  obtain ⟨A7, c7, rfl, _⟩ := ho.rd
  rw [HNt.out] at ho ⊢
  clear bz35
  refine ⟨_, rfl, ?_⟩
  refine hK' _ _ ⟨hB, hz5, hz11⟩ (fun _ => trivial) ?_
  clear hK' K'
  go_frame
  refine y_yield 4 (some 31) (.slice A7 N c7) rfl (by kernel_rfl) (by kernel_rfl) (by kernel_rfl) (fun _ _ _ h => h) rfl rfl ⟨hB, hz5, hz11⟩ (fun w' h' => exec_field4 _ rfl P N0 N1 N2 A7 N c7 rfl) ?_
  go_frame
  refine y_oper 7 (by kernel_rfl) rfl rfl (fun K' hK' => ?_)
  have lz41 := hB.size
  have lz42 := hz5.lt
  have lz43 := hz11.lt
  refine wp_call2 (some 34) rfl 50 _ _ _ rfl (fun args w => by kernel_rfl) _ _ rfl rfl _ (equalN_c A7 B c7 d (topL P N0 N1 N2 qs) xs N _ HNt.out (ho.rd') (hX.keep hB) hxl) (fun e Wz39 h => ?_)
  obtain ⟨rfl, bz40⟩ := h
  replace hB := below_after hB bz40
  replace hz5 := hz5.after bz40
  replace hz11 := hz11.after bz40
  replace ho := ho.below bz40
  clear bz40
  refine ⟨_, rfl, ?_⟩
  refine hK' _ _ ⟨hB, hz5, hz11⟩ (fun _ => trivial) ?_
  clear hK' K'
  go_frame
  refine y_yield 8 (some 35) (.bool (topL P N0 N1 N2 qs == xs)) rfl (by kernel_rfl) (by kernel_rfl) (by kernel_rfl) (fun _ _ _ h => h) rfl rfl ⟨hB, hz5, hz11⟩ (fun w' h' => exec_pick _ _ _ rfl true rfl (.bool (topL P N0 N1 N2 qs == xs)) rfl) ?_
  go_frame
  refine y_oper 9 (by kernel_rfl) rfl rfl (fun K' hK' => ?_)
  refine wp_exec (some 4) rfl (.bool (topL P N0 N1 N2 qs == xs)) (exec_assign _ rfl (.bool (topL P N0 N1 N2 qs == xs)) rfl) ?_
  refine hK' _ _ ⟨hB, hz5, hz11⟩ (fun _ => trivial) ?_
  clear hK' K'
  go_frame
  refine y_oper 10 (by kernel_rfl) rfl rfl (fun K' hK' => ?_)
  refine wp_exec (some 5) rfl (.int .i64 0) (exec_assign _ rfl (.int .i64 0) rfl) ?_
  refine hK' _ _ ⟨hB, hz5, hz11⟩ (fun _ => trivial) ?_
  clear hK' K'
  go_frame
  refine y_done (by kernel_rfl) ?_ _
  go_wp2_with fail
  go_ret2
  exact ⟨by rw [HV.out, HC.out]; rfl, hB⟩
theorem implMethodFits_c (p i j k : Int) (A : Option Addr) (c : Nat) (qs : List (List Nat)) (tp ti tj tk : Int) (B : Option Addr) (d : Nat) (xs : List Int) (w : World) (hR : Rd w A qs) (hlen : qs.length ≤ 1048576) (hX : RdI w B xs) (hxl : xs.length ≤ 1048576) : Calls Try.prog 25 #[.agg #[.int .i64 p, .int .i64 i, .int .i64 j, .int .i64 k, .slice A qs.length c], .agg #[.int .i64 tp, .int .i64 ti, .int .i64 tj, .int .i64 tk, .slice B xs.length d]] w (fun e w' => e = .returned (.tuple #[.bool (mfB p i j k qs tp ti tj tk xs), .int .i64 (mfCode p i j k qs tp ti tj tk xs)]) ∧ Below w.heap.size w w') := by
  cases hs : methB p i j k qs with
  | false => exact implMf_a p i j k A c qs tp ti tj tk B d xs w hR hlen hX hxl hs
  | true =>
    cases ht : tenB tp ti tj tk xs with
    | false => exact implMf_b p i j k A c qs tp ti tj tk B d xs w hR hlen hX hxl hs ht
    | true =>
      obtain ⟨P, N0, N1, N2, rfl, rfl, rfl, rfl, hP, l0, l1, l2⟩ := methB_nums hs
      cases hq0 : ((P : Int) == tp) with
      | false => exact implMf_q0 P N0 N1 N2 A c qs tp ti tj tk B d xs w hR (methB_parts hs).2.2.2.2.1 hX hxl hP l0 l1 l2 hs ht hq0
      | true =>
        cases hq1 : ((N0 : Int) == ti) with
        | false => exact implMf_q1 P N0 N1 N2 A c qs tp ti tj tk B d xs w hR (methB_parts hs).2.2.2.2.1 hX hxl hP l0 l1 l2 hs ht hq0 hq1
        | true =>
          cases hq2 : ((N1 : Int) == tj) with
          | false => exact implMf_q2 P N0 N1 N2 A c qs tp ti tj tk B d xs w hR (methB_parts hs).2.2.2.2.1 hX hxl hP l0 l1 l2 hs ht hq0 hq1 hq2
          | true =>
            cases hq3 : ((N2 : Int) == tk) with
            | false => exact implMf_q3 P N0 N1 N2 A c qs tp ti tj tk B d xs w hR (methB_parts hs).2.2.2.2.1 hX hxl hP l0 l1 l2 hs ht hq0 hq1 hq2 hq3
            | true => exact implMf_q P N0 N1 N2 A c qs tp ti tj tk B d xs w hR (methB_parts hs).2.2.2.2.1 hX hxl hP l0 l1 l2 hs ht hq0 hq1 hq2 hq3
end Go.Proofs.Ytkjdlmeolnohbaa
