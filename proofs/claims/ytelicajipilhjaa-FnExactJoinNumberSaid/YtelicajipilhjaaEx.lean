/-
  Single operations, run. No function of the program is named here.
-/
import Derived.Test.YtelicajipilhjaaApp
namespace Go.Proofs.Ytelicajipilhjaa
open Go.RowKit
set_option maxRecDepth 100000
theorem exec_conv {o : Oper} {a : Act} {w : World} (x : Operand) (ho : o.op = .convert 5 2 x) (y : Nat) (hx : a.eval x = .int .u8 (y : Int)) (hy : y < 256) : (execOp a.eval o).run Try.prog w = .ok (.value (.int .i64 (y : Int))) w := by
  have hw : IntKind.i64.wrap (y : Int) = (y : Int) := IntWalk.i64_in _ (by omega)
  unfold execOp
  simp only [ho, hx]
  simp [go_sem, hw]
theorem exec_quo {P : Program} {o : Oper} {a : Act} {w : World} (t t' : TypeId) (x y : Operand) (ho : o.op = .binOp .quo t x y t') (m n r : Int) (hx : a.eval x = .int .i64 m) (hy : a.eval y = .int .i64 n) (hn : n ≠ 0) (hr : IntKind.i64.wrap (m.tdiv n) = r) :
    (execOp a.eval o).run P w = .ok (.value (.int .i64 r)) w := by
  subst hr
  unfold execOp
  simp only [ho, hx, hy]
  simp [go_sem, hn]
theorem exec_nilCheck {P : Program} {o : Oper} {a : Act} {w : World} (x : Operand) (ho : o.op = .nilCheck x) (ad : Addr) (hx : a.eval x = .pointer (some ad)) : (execOp a.eval o).run P w = .ok (.value (.pointer (some ad))) w := by
  unfold execOp
  simp only [ho, hx]
  simp [go_sem]
theorem exec_rem {P : Program} {o : Oper} {a : Act} {w : World} (t t' : TypeId) (x y : Operand) (ho : o.op = .binOp .rem t x y t') (m n r : Int) (hx : a.eval x = .int .i64 m) (hy : a.eval y = .int .i64 n) (hn : n ≠ 0) (hr : m.tmod n = r) :
    (execOp a.eval o).run P w = .ok (.value (.int .i64 r)) w := by
  subst hr
  unfold execOp
  simp only [ho, hx, hy]
  simp [go_sem, hn]
section
variable {P : Program} {o : Oper} {a : Act} {w : World}
theorem exec_index1 (ty e : TypeId) (x i : Operand) (ho : o.op = .indexAddr ty x i) (b off len cap k : Nat) (hx : a.eval x = .slice (some ⟨b, off, none⟩) len cap) (hi : a.eval i = .int .i64 k)
    (hu : P.underlying ty = some (.slice e)) (hs : (P.info? e).map (·.size) = some 1) (hk : k < len) :
    (execOp a.eval o).run P w = .ok (.value (.pointer (some ⟨b, off + k, none⟩))) w := by
  have h := exec_index_slice (P := P) (w := w) ty e x i ho b off len cap k 1 hx hi hu hs hk
  rwa [Nat.mul_one] at h
theorem exec_index0 (ty e : TypeId) (x i : Operand) (ho : o.op = .indexAddr ty x i) (b len cap k : Nat) (hx : a.eval x = .slice (some ⟨b, 0, none⟩) len cap) (hi : a.eval i = .int .i64 k)
    (hu : P.underlying ty = some (.slice e)) (hs : (P.info? e).map (·.size) = some 1) (hk : k < len) :
    (execOp a.eval o).run P w = .ok (.value (.pointer (some ⟨b, k, none⟩))) w := by
  have h := exec_index1 (P := P) (w := w) ty e x i ho b 0 len cap k hx hi hu hs hk
  rwa [Nat.zero_add] at h
end
theorem exec_len {P : Program} {o : Oper} {a : Act} {w : World} (x : Operand) (t e : TypeId) (ho : o.op = .call { callee := .builtin .len, args := #[x], argTypes := #[t] }) (A : Option Addr) (n c : Nat) (hx : a.eval x = .slice A n c) (ht : P.underlying t = some (.slice e)) :
    (execOp a.eval o).run P w = .ok (.value (.int .i64 (n : Int))) w := by
  unfold execOp
  simp only [ho, resolve, invoke, builtin, Sem.run_bind, Sem.run_pure, Result.andThen_ok, List.map_toArray, List.map_cons, List.map_nil, hx]
  simp [Builtin.len_, go_sem, run_underlying ht]
theorem wp_call4 {P : Program} {Q : Exit → Act → World → Prop} {o : Oper} {a : Act} {w : World} {K : Act → World → Prop} (d : Option Tmp) (hd : o.dst = d) (f : Nat) (x y z u : Operand) (ts : Array TypeId) (ho : o.op = .call { callee := .value (.func f), args := #[x, y, z, u], argTypes := ts }) (hcall : ∀ args w, (callFunc f args).run P w = .ok (.enter f args) w)
    (v1 v2 v3 v4 : Value) (hx : a.eval x = v1) (hy : a.eval y = v2) (hz : a.eval z = v3) (hu : a.eval u = v4) (post : Ending → World → Prop) (hc : Calls P f #[v1, v2, v3, v4] w post) (h : ∀ e w', post e w' → ∃ v, e = .returned v ∧ K (a.put d v) w') : Oper.wp P o a w K Q :=
  wp_call d hd f #[x, y, z, u] ts ho hcall #[v1, v2, v3, v4] (by simp [hx, hy, hz, hu]) post hc h
theorem exec_alloc_prod {o : Oper} {a : Act} {w : World} (ho : o.op = .alloc 49) : (execOp a.eval o).run Try.prog w = .ok (.value (.pointer (some ⟨w.heap.size, 0, none⟩))) (w.alloc (.cells (u8s (List.replicate 27 0)) 49 (0, 0))) := by
  unfold execOp
  rw [ho]
  kernel_rfl
theorem exec_sub {P : Program} {o : Oper} {a : Act} {w : World} (t t' : TypeId) (x y : Operand) (ho : o.op = .binOp .sub t x y t') (m n r : Int) (hx : a.eval x = .int .i64 m) (hy : a.eval y = .int .i64 n) (hr : IntKind.i64.wrap (m - n) = r) :
    (execOp a.eval o).run P w = .ok (.value (.int .i64 r)) w := by
  subst hr
  unfold execOp
  simp only [ho, hx, hy]
  simp [go_sem]
/-- A store of bytes into a part of a block of bytes. -/
theorem wp_store_u8s {P : Program} {o : Oper} {a : Act} {w : World} {K : Act → World → Prop} {Q : Exit → Act → World → Prop} (ty : TypeId) (x y : Operand) (ho : o.op = .store ty x y) (hdst : o.dst = none) (g off : Nat) (hx : a.eval x = .pointer (some ⟨g, off, none⟩)) (r : List Nat) (hy : a.eval y = .agg (u8s r))
    (t : TypeId) (l : List Nat) (hg : At w g (.cells (u8s l) t (0, 0))) (n : Nat) (hi : (P.info? ty).map (·.size) = some n) (hn : r.length = n) (hle : off + n ≤ l.length)
    (h : ∀ w', Put w w' g (.cells (u8s (over l off r)) t (0, 0)) → K a w') : Oper.wp P o a w K Q := by
  have hs := run_storeVar_part (P := P) w g off t ty (u8s l) (u8s r) hg (by rw [u8s_size, hn]; exact hi) (by rw [u8s_size, u8s_size]; omega) (u8s_one r)
  rw [splice_u8s] at hs
  unfold Oper.wp execOp
  simp only [ho, hx, hy, Instr.storeAt, Instr.sureAddr, Sem.run_bind, Sem.run_pure, Result.andThen_ok, hs]
  simp only [Oper.upon, hdst, Act.put]
  exact h _ ⟨setRow_heap _ _ _ _ _ _ hg, fun h' hk => (setRow_other _ _ _ _ hk).trans h', fun hs => (setRow_size _ _ _).trans hs, fun hb hB => below_setRow' hb hB _⟩
theorem exec_load_seg {P : Program} {o : Oper} {a : Act} {w : World} (ty : TypeId) (x : Operand) (ho : o.op = .load ty x)
    (g off : Nat) (hx : a.eval x = .pointer (some ⟨g, off, none⟩)) (t : TypeId) (l : List Nat) (d : TypeDesc) (n : Nat) (hg : At w g (.cells (u8s l) t (0, 0)))
    (hu : P.underlying ty = some d) (hd : (match d with | .struct _ | .array _ _ => true | _ => false) = true) (hi : (P.info? ty).map (·.size) = some n) (hle : off + n ≤ l.length) (r : List Nat) (hs : segm l off n = r) :
    (execOp a.eval o).run P w = .ok (.value (.agg (u8s r))) w := by
  subst hs
  exact exec_load_u8s ty x ho g off hx t l d n hg hu hd hi hle
/-- A product is its three forms. -/
def cat3 (A B C : List Nat) : List Nat := A ++ B ++ C
theorem over_a {A B C A' : List Nat} (hA : A.length = 9) (hA' : A'.length = 9) : over (cat3 A B C) 0 A' = cat3 A' B C := by
  simp [over, cat3, hA', ← hA]
theorem over_b {A B C B' : List Nat} (hA : A.length = 9) (hB : B.length = 9) (hB' : B'.length = 9) : over (cat3 A B C) 9 B' = cat3 A B' C := by
  have h1 : (A ++ (B ++ C)).take 9 = A := by rw [← hA, List.take_left]
  have h2 : (A ++ (B ++ C)).drop 18 = C := by
    rw [show 18 = A.length + B.length by omega, ← List.append_assoc, ← List.length_append, List.drop_left]
  simp [over, cat3, hB', h1, h2]
theorem over_c {A B C C' : List Nat} (hA : A.length = 9) (hB : B.length = 9) (hC : C.length = 9) (hC' : C'.length = 9) : over (cat3 A B C) 18 C' = cat3 A B C' := by
  have h1 : (A ++ (B ++ C)).take 18 = A ++ B := by
    rw [show 18 = A.length + B.length by omega, ← List.append_assoc, ← List.length_append, List.take_left]
  have h2 : (A ++ (B ++ C)).drop 27 = [] := List.drop_of_length_le (by simp; omega)
  simp [over, cat3, hC', h1, h2]
theorem segm_a {A B C : List Nat} (hA : A.length = 9) : segm (cat3 A B C) 0 9 = A := by
  simp [segm, cat3, ← hA]
theorem segm_b {A B C : List Nat} (hA : A.length = 9) (hB : B.length = 9) : segm (cat3 A B C) 9 9 = B := by
  have h2 : (A ++ (B ++ C)).drop 9 = B ++ C := by rw [← hA, List.drop_left]
  rw [segm, cat3, List.append_assoc, h2, ← hB, List.take_left]
theorem segm_c {A B C : List Nat} (hA : A.length = 9) (hB : B.length = 9) (hC : C.length = 9) : segm (cat3 A B C) 18 9 = C := by
  have h2 : (A ++ (B ++ C)).drop 18 = C := by
    rw [show 18 = A.length + B.length by omega, ← List.append_assoc, ← List.length_append, List.drop_left]
  simp [segm, cat3, h2, ← hC]
theorem parts3 {q : List Nat} (hq : Bytes 27 q) : ∃ A B C, q = cat3 A B C ∧ Bytes 9 A ∧ Bytes 9 B ∧ Bytes 9 C := by
  refine ⟨segm q 0 9, segm q 9 9, segm q 18 9, ?_, segm_bytes hq (by omega), segm_bytes hq (by omega), segm_bytes hq (by omega)⟩
  have h := hq.len
  simp only [segm, cat3, List.drop_zero]
  rw [show (q.drop 18).take 9 = q.drop 18 from List.take_of_length_le (by simp; omega)]
  rw [List.append_assoc, show q.drop 18 = (q.drop 9).drop 9 by rw [List.drop_drop], List.take_append_drop, List.take_append_drop]
theorem bytes3 {A B C : List Nat} (hA : Bytes 9 A) (hB : Bytes 9 B) (hC : Bytes 9 C) : Bytes 27 (cat3 A B C) := by
  refine ⟨by simp [cat3, hA.len, hB.len, hC.len], fun n hn => ?_⟩
  simp only [cat3, List.mem_append] at hn
  rcases hn with (hn | hn) | hn
  · exact hA.2 n hn
  · exact hB.2 n hn
  · exact hC.2 n hn
theorem len3 {A B C : List Nat} (hA : Bytes 9 A) (hB : Bytes 9 B) (hC : Bytes 9 C) : 27 ≤ (cat3 A B C).length := by simp [cat3, hA.len, hB.len, hC.len]
end Go.Proofs.Ytelicajipilhjaa
