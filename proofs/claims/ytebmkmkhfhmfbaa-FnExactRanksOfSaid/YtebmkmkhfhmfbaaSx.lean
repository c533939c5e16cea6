/-
  For walks that are printed operation by operation (sx.py): single operations in regions that do not draw; comparisons; boxes. No function of the program is named here.
-/
import Derived.Test.YtebmkmkhfhmfbaaLK1
import Derived.Test.YtebmkmkhfhmfbaaHeld
import Derived.Great.Ranges
namespace Go.Proofs.Ytebmkmkhfhmfbaa
open Go.RowKit
set_option maxRecDepth 100000
section
variable {P : Program} {ops : Array Oper} {rest : List Oper} {o : Oper} {a : Act} {w w' : World} {Q : Exit → Act → World → Prop}
theorem ls_ex (d : Option Tmp) (v : Value) (hg : o.guard = none) (hd : o.dst = d) (he : (execOp a.eval o).run P w = .ok (.value v) w') (h : wpList P ops Q rest (a.put d v) w') : wpList P ops Q (o :: rest) a w :=
  wpList_of_exec hg he (by rw [hd]; exact h)
theorem ls_op (hg : o.guard = none) (h : ∀ K : Act → World → Prop, (∀ a' w', wpList P ops Q rest a' w' → K a' w') → Oper.wp P o a w K Q) : wpList P ops Q (o :: rest) a w := wpList_plain hg h
theorem ls_op_g (hw : Region.wanted o (yielded ops a.tmps) = true) (h : ∀ K : Act → World → Prop, (∀ a' w', wpList P ops Q rest a' w' → K a' w') → Oper.wp P o a w K Q) : wpList P ops Q (o :: rest) a w :=
  wpList_step fun K hK => by rw [if_pos hw]; exact h K hK
theorem ls_ex_g (d : Option Tmp) (v : Value) (hw : Region.wanted o (yielded ops a.tmps) = true) (hd : o.dst = d) (he : (execOp a.eval o).run P w = .ok (.value v) w') (h : wpList P ops Q rest (a.put d v) w') : wpList P ops Q (o :: rest) a w :=
  ls_op_g hw fun _ hK => wp_exec d hd v he (hK _ _ h)
theorem ls_skip_g (d : Option Tmp) (hw : Region.wanted o (yielded ops a.tmps) = false) (hd : o.dst = d) (h : wpList P ops Q rest (a.put d undef) w) : wpList P ops Q (o :: rest) a w :=
  wpList_step fun K hK => by rw [if_neg (by simp [hw]), hd]; exact hK _ _ h
theorem exec_lss (t t' : TypeId) (x y : Operand) (ho : o.op = .binOp .lss t x y t') (m n : Int) (hx : a.eval x = .int .i64 m) (hy : a.eval y = .int .i64 n) (b : Bool) (hb : decide (m < n) = b) : (execOp a.eval o).run P w = .ok (.value (.bool b)) w := by
  unfold execOp
  simp only [ho, hx, hy]
  subst hb
  simp [go_sem]
theorem exec_leq (t t' : TypeId) (x y : Operand) (ho : o.op = .binOp .leq t x y t') (m n : Int) (hx : a.eval x = .int .i64 m) (hy : a.eval y = .int .i64 n) (b : Bool) (hb : decide (m ≤ n) = b) : (execOp a.eval o).run P w = .ok (.value (.bool b)) w := by
  unfold execOp
  simp only [ho, hx, hy]
  subst hb
  simp [go_sem]
theorem exec_gtr (t t' : TypeId) (x y : Operand) (ho : o.op = .binOp .gtr t x y t') (m n : Int) (hx : a.eval x = .int .i64 m) (hy : a.eval y = .int .i64 n) (b : Bool) (hb : decide (n < m) = b) : (execOp a.eval o).run P w = .ok (.value (.bool b)) w := by
  unfold execOp
  simp only [ho, hx, hy]
  subst hb
  simp [go_sem]
theorem exec_geq (t t' : TypeId) (x y : Operand) (ho : o.op = .binOp .geq t x y t') (m n : Int) (hx : a.eval x = .int .i64 m) (hy : a.eval y = .int .i64 n) (b : Bool) (hb : decide (n ≤ m) = b) : (execOp a.eval o).run P w = .ok (.value (.bool b)) w := by
  unfold execOp
  simp only [ho, hx, hy]
  subst hb
  simp [go_sem]
theorem exec_eql (t t' : TypeId) (x y : Operand) (ho : o.op = .binOp .eql t x y t') (m n : Int) (hx : a.eval x = .int .i64 m) (hy : a.eval y = .int .i64 n) (b : Bool) (hb : (m == n) = b) : (execOp a.eval o).run P w = .ok (.value (.bool b)) w := by
  unfold execOp
  simp only [ho, hx, hy]
  subst hb
  simp [go_sem]
theorem exec_neg (t : TypeId) (x : Operand) (ho : o.op = .unOp .neg t x) (m r : Int) (hx : a.eval x = .int .i64 m) (hr : IntKind.i64.wrap (-m) = r) : (execOp a.eval o).run P w = .ok (.value (.int .i64 r)) w := by
  unfold execOp
  simp only [ho, hx]
  subst hr
  simp [go_sem]
theorem exec_box (t : TypeId) (x : Operand) (ho : o.op = .box t x) (cs : Array Value) (hx : (a.eval x).cells = cs) : (execOp a.eval o).run P w = .ok (.value (.pointer (some ⟨w.heap.size, 0, none⟩))) (w.alloc (.cells cs t (0, 0))) := by
  subst hx
  unfold execOp
  simp only [ho, Sem.run_bind, Instr.box, newVar, newRow, run_newObj_alloc, Sem.run_pure, Result.andThen_ok]
end
theorem exec_index_part {P : Program} {o : Oper} {a : Act} {w : World} (ty e : TypeId) (x i : Operand) (ho : o.op = .index ty x i) (n k s : Nat) (cs r : Array Value) (d : TypeDesc) (hx : a.eval x = .agg cs) (hi : a.eval i = .int .i64 k)
    (hu : P.underlying ty = some (.array n e)) (he : P.underlying e = some d) (hd : (match d with | .struct _ | .array _ _ => true | _ => false) = true) (hs : (P.info? e).map (·.size) = some s) (hk : k < n) (hr : cs.extract (k * s) (k * s + s) = r) :
    (execOp a.eval o).run P w = .ok (.value (.agg r)) w := by
  obtain ⟨ie, hie, hse⟩ := Option.map_eq_some_iff.1 hs
  have hagg : (isAgg e).run P w = .ok true w := by
    unfold isAgg
    rw [Sem.run_bind, run_underlying he w]
    cases d <;> simp_all
  have h1 : (0 : Int) ≤ k ∧ (k : Int) < n := ⟨by omega, by omega⟩
  unfold execOp
  simp [ho, hx, hi, Instr.index, asIntOf, run_underlying hu, hk, sizeOf, typeInfo, hie, hse, part, hagg, hr]
theorem sx_infoSl : (Try.prog.info? 29).map (fun i => (i.zero, i.size, i.bytes)) = some (some (.slice none 0 0), 1, 24) := by kernel_rfl
theorem exec_bs0 {o : Oper} {a : Act} {w : World} (ho : o.op = .buildSlice 29 0 #[]) : (execOp a.eval o).run Try.prog w = .ok (.value (.slice (some ⟨w.heap.size, 0, none⟩) 0 0)) (w.alloc (.cells #[] 47 (0, 0))) := by
  unfold execOp
  rw [ho]
  kernel_rfl
theorem own_bs0 {w w' : World} (h : New w w' (.cells #[] 47 (0, 0))) : Own w' w.heap.size (.slice (some ⟨w.heap.size, 0, none⟩) 0 0) [] :=
  ⟨by simp [u8s], .inr ⟨w.heap.size, 0, #[], rfl, Nat.le_refl _, h.at_, by simp, by simp, by simp, by simp [u8s]⟩⟩
theorem exec_ix0 {P : Program} {o : Oper} {a : Act} {w : World} (ty e : TypeId) (x i : Operand) (ho : o.op = .indexAddr ty x i) (b len cap k s : Nat) (hx : a.eval x = .slice (some ⟨b, 0, none⟩) len cap) (hi : a.eval i = .int .i64 k)
    (hu : P.underlying ty = some (.slice e)) (hs : (P.info? e).map (·.size) = some s) (hk : k < len) : (execOp a.eval o).run P w = .ok (.value (.pointer (some ⟨b, k * s, none⟩))) w := by
  have h := exec_index_slice (P := P) (o := o) (a := a) (w := w) ty e x i ho b 0 len cap k s hx hi hu hs hk
  rwa [Nat.zero_add] at h
theorem sx_infoI : (Try.prog.info? 2).map (fun i => (i.zero, i.size, i.bytes)) = some (some (.int .i64 0), 1, 8) := by kernel_rfl
theorem exec_bsi1 {o : Oper} {a : Act} {w : World} (x : Operand) (ho : o.op = .buildSlice 49 1 #[(0, x)]) (i : Int) (hx : a.eval x = .int .i64 i) :
    (execOp a.eval o).run Try.prog w = .ok (.value (.slice (some ⟨w.heap.size, 0, none⟩) 1 1)) (w.alloc (.cells #[.int .i64 i] 2 (0, 0))) := by
  obtain ⟨inf, hi0, hz, h1, h2⟩ := info_parts sx_infoI
  have h := run_buildSlice (P := Try.prog) w 49 2 1 #[(0, .int .i64 i)] #[.int .i64 i] inf (.int .i64 0) Try.underlying49 hi0 hz (by rw [h1]; omega) (by rw [h1]; omega) (by rw [h1]; kernel_rfl)
  unfold execOp
  simp [ho, hx, h]
theorem exec_bsi2 {o : Oper} {a : Act} {w : World} (x y : Operand) (ho : o.op = .buildSlice 49 2 #[(0, x), (1, y)]) (i j : Int) (hx : a.eval x = .int .i64 i) (hy : a.eval y = .int .i64 j) :
    (execOp a.eval o).run Try.prog w = .ok (.value (.slice (some ⟨w.heap.size, 0, none⟩) 2 2)) (w.alloc (.cells #[.int .i64 i, .int .i64 j] 2 (0, 0))) := by
  obtain ⟨inf, hi0, hz, h1, h2⟩ := info_parts sx_infoI
  have h := run_buildSlice (P := Try.prog) w 49 2 2 #[(0, .int .i64 i), (1, .int .i64 j)] #[.int .i64 i, .int .i64 j] inf (.int .i64 0) Try.underlying49 hi0 hz (by rw [h1]; omega) (by rw [h1]; omega) (by rw [h1]; kernel_rfl)
  unfold execOp
  simp [ho, hx, hy, h]
theorem exec_bsi3 {o : Oper} {a : Act} {w : World} (x y z : Operand) (ho : o.op = .buildSlice 49 3 #[(0, x), (1, y), (2, z)]) (i j k : Int) (hx : a.eval x = .int .i64 i) (hy : a.eval y = .int .i64 j) (hz' : a.eval z = .int .i64 k) :
    (execOp a.eval o).run Try.prog w = .ok (.value (.slice (some ⟨w.heap.size, 0, none⟩) 3 3)) (w.alloc (.cells #[.int .i64 i, .int .i64 j, .int .i64 k] 2 (0, 0))) := by
  obtain ⟨inf, hi0, hz, h1, h2⟩ := info_parts sx_infoI
  have h := run_buildSlice (P := Try.prog) w 49 2 3 #[(0, .int .i64 i), (1, .int .i64 j), (2, .int .i64 k)] #[.int .i64 i, .int .i64 j, .int .i64 k] inf (.int .i64 0) Try.underlying49 hi0 hz (by rw [h1]; omega) (by rw [h1]; omega) (by rw [h1]; kernel_rfl)
  unfold execOp
  simp [ho, hx, hy, hz', h]
theorem cells_u8s (l : List Nat) : (Value.agg (u8s l)).cells = u8s l := rfl
theorem Own.ne_lt {w : World} {lo g : Nat} {v : Value} {qs : List (List Nat)} (h : Own w lo v qs) (hg : g < lo) : some g ≠ v.ownBlock := fun e => by
  have := (h.lt e.symm).1
  omega
theorem Own.rdc' {w : World} {lo : Nat} {v : Value} {qs : List (List Nat)} (h : Own w lo v qs) (hq : ∀ q ∈ qs, Bytes 27 q) : ∃ A c, v = .slice A qs.length c ∧ Rd w A qs ∧ (A = none → c = 0) := by
  rcases h.2 with ⟨rfl, h0⟩ | ⟨g, cap, cur, rfl, _⟩
  · have : qs = [] := List.length_eq_zero_iff.1 h0
    subst this
    exact ⟨none, 0, rfl, Rd.none_ _ _, fun _ => rfl⟩
  · obtain ⟨A, c, e, hr⟩ := h.rd hq
    refine ⟨A, c, e, hr, fun hA => ?_⟩
    subst hA
    simp at e
end Go.Proofs.Ytebmkmkhfhmfbaa
