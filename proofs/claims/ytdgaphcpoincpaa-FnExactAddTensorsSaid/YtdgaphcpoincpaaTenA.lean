/-
  For two tensors: '!=' on impl.box, function literals; lists made number by number; impl.checkTensors, spec.l05Two.
-/
import Derived.Test.YtdgaphcpoincpaaTenT
import Derived.ChangeKeysEq
namespace Go.Proofs.Ytdgaphcpoincpaa
open Go.RowKit
set_option maxRecDepth 100000
theorem run_eq_bx (n m k n' m' k' : Int) (w : World) : (Op.equalIn 10000 42 (.agg #[.int .i64 n, .int .i64 m, .int .i64 k]) (.agg #[.int .i64 n', .int .i64 m', .int .i64 k'])).run Try.prog w = .ok (n == n' && (m == m' && k == k')) w := by
  obtain ⟨i, hi⟩ : ∃ i, Try.prog.info? 2 = some i := Option.isSome_iff_exists.1 (by kernel_rfl)
  have hc : Try.prog.cellsOf 2 = 1 := by kernel_rfl
  have hu : Try.prog.underlying 2 = some (.int .i64) := by kernel_rfl
  have hagg : (isAgg 2).run Try.prog w = .ok false w := by
    unfold isAgg
    rw [Sem.run_bind, run_underlying hu w]
    rfl
  have hpart : ∀ (xs : Array Value) (j : Nat) (v : Value), xs[j]? = some v → (part 2 xs (j * 1)).run Try.prog w = .ok v w := by
    intro xs j v hv
    unfold part
    simp [Sem.run_bind, hagg, hv]
  rw [run_equalIn_array (P := Try.prog) w 9999 _ _ Try.underlying42 hi, hc]
  rw [show List.range 3 = [0, 1, 2] from rfl]
  have hq : ∀ a b : Int, (Op.equalIn 9999 2 (.int .i64 a) (.int .i64 b)).run Try.prog w = .ok (a == b) w := fun a b => run_equalIn_int w 9998 2 .i64 .i64 a b hu
  simp only [Op.eqItems, Sem.run_bind, hpart #[.int .i64 n, .int .i64 m, .int .i64 k] 0 (.int .i64 n) rfl, hpart #[.int .i64 n, .int .i64 m, .int .i64 k] 1 (.int .i64 m) rfl, hpart #[.int .i64 n, .int .i64 m, .int .i64 k] 2 (.int .i64 k) rfl,
    hpart #[.int .i64 n', .int .i64 m', .int .i64 k'] 0 (.int .i64 n') rfl, hpart #[.int .i64 n', .int .i64 m', .int .i64 k'] 1 (.int .i64 m') rfl, hpart #[.int .i64 n', .int .i64 m', .int .i64 k'] 2 (.int .i64 k') rfl, Result.andThen_ok, hq, Sem.run_ite, Sem.run_pure]
  cases n == n' <;> cases m == m' <;> cases k == k' <;> rfl
theorem exec_neq_bx {o : Oper} {a : Act} {w : World} (x y : Operand) (t' : TypeId) (ho : o.op = .binOp .neq 42 x y t') (n m k n' m' k' : Int) (hx : a.eval x = .agg #[.int .i64 n, .int .i64 m, .int .i64 k]) (hy : a.eval y = .agg #[.int .i64 n', .int .i64 m', .int .i64 k']) (b : Bool) (hb : (!(n == n' && (m == m' && k == k'))) = b) :
    (execOp a.eval o).run Try.prog w = .ok (.value (.bool b)) w := by
  have hm : Try.prog.eqGuardType Try.prog.depth 42 = false := by kernel_rfl
  unfold execOp
  subst hb
  simp [ho, hx, hy, Sem.run_bind, run_eqGuard_agg w .neq _ x y _ _ hm, run_neq_struct, run_eq_bx]
theorem exec_index_arr3 {P : Program} {o : Oper} {a : Act} {w : World} (ty e : TypeId) (x i : Operand) (ho : o.op = .index ty x i) (n k : Nat) (cs : Array Value) (v : Value) (hx : a.eval x = .agg cs) (hi : a.eval i = .int .i64 k)
    (hu : P.underlying ty = some (.array n e)) (d : TypeDesc) (he : P.underlying e = some d) (hd : (match d with | .struct _ | .array _ _ => true | _ => false) = false) (hs : (P.info? e).map (·.size) = some 1) (hk : k < n) (hv : cs[k]? = some v) :
    (execOp a.eval o).run P w = .ok (.value v) w := by
  obtain ⟨ie, hie, hse⟩ := Option.map_eq_some_iff.1 hs
  have hagg : (isAgg e).run P w = .ok false w := by
    unfold isAgg
    rw [Sem.run_bind, run_underlying he w]
    cases d <;> simp_all
  have h1 : (0 : Int) ≤ k ∧ (k : Int) < n := ⟨by omega, by omega⟩
  unfold execOp
  simp [ho, hx, hi, Instr.index, asIntOf, run_underlying hu, h1, sizeOf, typeInfo, hie, hse, part, hagg, hk, hv]
theorem exec_mkfn2 {P : Program} {o : Oper} {a : Act} {w : World} (f : FuncId) (x y : Operand) (ho : o.op = .makeFunc (.func f) #[] #[x, y]) (u v : Value) (hx : a.eval x = u) (hy : a.eval y = v) : (execOp a.eval o).run P w = .ok (.value (.func (.func f) #[] #[u, v])) w := by
  subst hx hy
  unfold execOp
  simp only [ho]
  simp [go_sem]
theorem exec_mkfn3 {P : Program} {o : Oper} {a : Act} {w : World} (f : FuncId) (x y z : Operand) (ho : o.op = .makeFunc (.func f) #[] #[x, y, z]) (u v t : Value) (hx : a.eval x = u) (hy : a.eval y = v) (hz : a.eval z = t) : (execOp a.eval o).run P w = .ok (.value (.func (.func f) #[] #[u, v, t])) w := by
  subst hx hy hz
  unfold execOp
  simp only [ho]
  simp [go_sem]
/-- The numbers f 0, f 1, .. up to c, and zeros. -/
def seqP (f : Nat → Int) (N c : Nat) : List Int := (List.range N).map fun t => if t < c then f t else 0
theorem seqP_len (f : Nat → Int) (N c : Nat) : (seqP f N c).length = N := by simp [seqP]
theorem seqP_zero (f : Nat → Int) (N : Nat) : seqP f N 0 = List.replicate N 0 := by
  apply List.ext_getElem
  · simp [seqP]
  · intro t h1 h2
    simp [seqP]
theorem seqP_end (f : Nat → Int) (N : Nat) : seqP f N N = (List.range N).map f := by
  apply List.ext_getElem
  · simp [seqP]
  · intro t h1 h2
    have ht : t < N := by rw [seqP_len] at h1; exact h1
    simp [seqP, ht]
theorem seqP_step (f : Nat → Int) (N c : Nat) : (seqP f N c).set c (f c) = seqP f N (c + 1) := by
  apply List.ext_getElem
  · simp [seqP]
  · intro t h1 h2
    rw [List.getElem_set]
    simp only [seqP, List.getElem_map, List.getElem_range]
    by_cases e : c = t
    · subst e
      rw [if_pos rfl, if_pos (by omega)]
    · rw [if_neg e]
      by_cases h3 : t < c
      · rw [if_pos h3, if_pos (by omega)]
      · rw [if_neg h3, if_neg (by omega)]
theorem seqP_skip (f : Nat → Int) (N c : Nat) (h : f c = 0) : seqP f N (c + 1) = seqP f N c := by
  apply List.ext_getElem
  · simp [seqP]
  · intro t h1 h2
    simp only [seqP, List.getElem_map, List.getElem_range]
    by_cases e : c = t
    · subst e
      rw [if_pos (by omega), if_neg (by omega), h]
    · by_cases h3 : t < c
      · rw [if_pos h3, if_pos (by omega)]
      · rw [if_neg h3, if_neg (by omega)]
theorem place_back {n1 n2 t : Nat} : (t / n2 / n1 * n1 + t / n2 % n1) * n2 + t % n2 = t := by
  have h1 := Nat.div_add_mod (t / n2) n1
  have h2 := Nat.div_add_mod t n2
  rw [Nat.mul_comm (t / n2 / n1) n1, h1, Nat.mul_comm (t / n2) n2, h2]
theorem genL_map {n1 n2 N : Nat} {p : Int} {f : Nat → Nat → Nat → Int} {g : Nat → Int} (h : ∀ t, t < N → g t = f (t / n2 / n1) (t / n2 % n1) (t % n2) % p) : genL n1 n2 p f N = (List.range N).map g := by
  apply List.ext_getElem
  · simp [genL]
  · intro t h1 h2
    have ht : t < N := by rw [genL_len] at h1; exact h1
    simp only [genL, gen, List.getElem_map, List.getElem_range]
    exact (h t ht).symm
def ckCode (p a b c : Int) (xs : List Int) (q d e f : Int) (ys : List Int) : Int := if tenB p a b c xs = true then (if tenB q d e f ys = true then (if p = q then 0 else 2) else 1) else 1
set_option maxHeartbeats 800000 in
theorem checkTensors_c (p a b c : Int) (A : Option Addr) (cap : Nat) (xs : List Int) (q d e f : Int) (B : Option Addr) (cap2 : Nat) (ys : List Int) (w : World) (hr : RdI w A xs) (hn : xs.length ≤ 1048576) (hs : RdI w B ys) (hm : ys.length ≤ 1048576) :
    Calls Try.prog 38 #[.agg #[.int .i64 p, .int .i64 a, .int .i64 b, .int .i64 c, .slice A xs.length cap], .agg #[.int .i64 q, .int .i64 d, .int .i64 e, .int .i64 f, .slice B ys.length cap2]] w fun e0 w' => e0 = .returned (.int .i64 (ckCode p a b c xs q d e f ys)) ∧ Below w.heap.size w w' := by
  have hB := below2 w (.cells #[.int .i64 p, .int .i64 a, .int .i64 b, .int .i64 c, .slice A xs.length cap] 27 (0, 0)) (.cells #[.int .i64 q, .int .i64 d, .int .i64 e, .int .i64 f, .slice B ys.length cap2] 27 (0, 0))
  have h0 := al2_0 w (.cells #[.int .i64 p, .int .i64 a, .int .i64 b, .int .i64 c, .slice A xs.length cap] 27 (0, 0)) (.cells #[.int .i64 q, .int .i64 d, .int .i64 e, .int .i64 f, .slice B ys.length cap2] 27 (0, 0))
  have h1 := al2_1 w (.cells #[.int .i64 p, .int .i64 a, .int .i64 b, .int .i64 c, .slice A xs.length cap] 27 (0, 0)) (.cells #[.int .i64 q, .int .i64 d, .int .i64 e, .int .i64 f, .slice B ys.length cap2] 27 (0, 0))
  have HX := Lib.hid (implIsTensor_c p a b c A cap xs _ (hr.keep hB) hn)
  have HY := Lib.hid (fun w' (hb : Below w.heap.size w w') => implIsTensor_c q d e f B cap2 ys w' (hs.keep hb) hm)
  clear hr hs
  cases hx : tenB p a b c xs with
  | false =>
    have Hc : Hid (ckCode p a b c xs q d e f ys = 1) := Lib.hid (by simp [ckCode, hx])
    rw [hx] at HX
    clear hx
    go_enter Try.func38, Try.ntmps38
    go_wp2_with fail
    refine HX.out.mono ?_
    rintro e0 w1 ⟨rfl, b1⟩
    have h0' := At.after h0 b1
    have h1' := At.after h1 b1
    replace hB := below_after hB b1
    clear h0 h1
    go_wp2_with fail
    go_ret
    exact ⟨by rw [Hc.out]; rfl, hB⟩
  | true =>
  rw [hx] at HX
  cases hy : tenB q d e f ys with
  | false =>
    have Hc : Hid (ckCode p a b c xs q d e f ys = 1) := Lib.hid (by simp [ckCode, hx, hy])
    rw [hy] at HY
    clear hx hy
    go_enter Try.func38, Try.ntmps38
    go_wp2_with fail
    refine HX.out.mono ?_
    rintro e0 w1 ⟨rfl, b1⟩
    have h0' := At.after h0 b1
    have h1' := At.after h1 b1
    replace hB := below_after hB b1
    clear h0 h1
    go_wp2_with (refine wpList_want_exec rfl (exec_load_all 27 _ rfl (w.heap.size + 1) rfl _ _ _ (by exact h1') Try.underlying27 rfl 5 (by kernel_rfl) rfl) ?_)
    refine (HY.out _ hB).mono ?_
    rintro e0 w2 ⟨rfl, b2⟩
    have c0 : w2.cell? ⟨w.heap.size, 0, none⟩ = some (.int .i64 p) := (h0'.after b2).at_ 0
    have c1 : w2.cell? ⟨w.heap.size + 1, 0, none⟩ = some (.int .i64 q) := (h1'.after b2).at_ 0
    replace hB := below_after hB b2
    clear h0' h1'
    go_wp2_with fail
    go_ret
    exact ⟨by rw [Hc.out]; rfl, hB⟩
  | true =>
  rw [hy] at HY
  by_cases hpq : p = q
  · have hpq2 : (p != q) = false := by simp [hpq]
    have Hc : Hid (ckCode p a b c xs q d e f ys = 0) := Lib.hid (by unfold ckCode; rw [if_pos hx, if_pos hy, if_pos hpq])
    clear hx hy hpq
    go_enter Try.func38, Try.ntmps38
    go_wp2_with fail
    refine HX.out.mono ?_
    rintro e0 w1 ⟨rfl, b1⟩
    have h0' := At.after h0 b1
    have h1' := At.after h1 b1
    replace hB := below_after hB b1
    clear h0 h1
    go_wp2_with (refine wpList_want_exec rfl (exec_load_all 27 _ rfl (w.heap.size + 1) rfl _ _ _ (by exact h1') Try.underlying27 rfl 5 (by kernel_rfl) rfl) ?_)
    refine (HY.out _ hB).mono ?_
    rintro e0 w2 ⟨rfl, b2⟩
    have c0 : w2.cell? ⟨w.heap.size, 0, none⟩ = some (.int .i64 p) := (h0'.after b2).at_ 0
    have c1 : w2.cell? ⟨w.heap.size + 1, 0, none⟩ = some (.int .i64 q) := (h1'.after b2).at_ 0
    replace hB := below_after hB b2
    clear h0' h1'
    go_wp2_with fail
    go_ret
    exact ⟨by rw [Hc.out]; rfl, hB⟩
  · have hpq2 : (p != q) = true := by simp [hpq]
    have Hc : Hid (ckCode p a b c xs q d e f ys = 2) := Lib.hid (by unfold ckCode; rw [if_pos hx, if_pos hy, if_neg hpq])
    clear hx hy hpq
    go_enter Try.func38, Try.ntmps38
    go_wp2_with fail
    refine HX.out.mono ?_
    rintro e0 w1 ⟨rfl, b1⟩
    have h0' := At.after h0 b1
    have h1' := At.after h1 b1
    replace hB := below_after hB b1
    clear h0 h1
    go_wp2_with (refine wpList_want_exec rfl (exec_load_all 27 _ rfl (w.heap.size + 1) rfl _ _ _ (by exact h1') Try.underlying27 rfl 5 (by kernel_rfl) rfl) ?_)
    refine (HY.out _ hB).mono ?_
    rintro e0 w2 ⟨rfl, b2⟩
    have c0 : w2.cell? ⟨w.heap.size, 0, none⟩ = some (.int .i64 p) := (h0'.after b2).at_ 0
    have c1 : w2.cell? ⟨w.heap.size + 1, 0, none⟩ = some (.int .i64 q) := (h1'.after b2).at_ 0
    replace hB := below_after hB b2
    clear h0' h1'
    go_wp2_with fail
    go_ret
    exact ⟨by rw [Hc.out]; rfl, hB⟩
end Go.Proofs.Ytdgaphcpoincpaa
