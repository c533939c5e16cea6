/-
  Series and twigs as data: which are told, their parts; single operations on them.
-/
import Derived.Test.YtnlidegmllcdhaaTw1
import Derived.Test.YtnlidegmllcdhaaImplIs
import Derived.Test.YtnlidegmllcdhaaCd
import Derived.ChangeKeysEq
namespace Go.Proofs.Ytnlidegmllcdhaa
open Go.RowKit
set_option maxRecDepth 100000
def okS (p n : Int) (s : List Nat) (j : Nat) : Bool := decide (((s[j]?.getD 0 : Nat) : Int) < p) && (decide (((j / 4 : Nat) : Int) < n) || s[j]?.getD 0 == 0)
def someS (s : List Nat) (k : Nat) : Bool := (s.take k).any (· != 0)
def serB (p : Int) (s : List Nat) (n : Int) : Bool := (List.range 36).all (okS p n s) && someS s 36
def twigB (p n m k : Int) (t : List Nat) : Bool := serB p (segm t 0 36) (n * m) && serB p (segm t 36 36) (m * k) && serB p (segm t 72 36) (n * k)
def borderB (p n m k : Int) (ts : List (List Nat)) : Bool := sizesB p n m k && decide (ts.length ≤ 30) && ts.all (twigB p n m k)
theorem okS_at {p n : Int} {s : List Nat} {c i x : Nat} (hi : i < 4) (hx : s[c * 4 + i]?.getD 0 = x) : okS p n s (c * 4 + i) = (decide ((x : Int) < p) && (decide ((c : Int) < n) || x == 0)) := by
  unfold okS
  rw [hx, show (c * 4 + i) / 4 = c by omega]
theorem serB_no {p n : Int} {s : List Nat} {j : Nat} (hj : j < 36) (h : okS p n s j = false) : serB p s n = false := by
  unfold serB
  have : (List.range 36).all (okS p n s) = false := by
    rw [List.all_eq_false]
    exact ⟨j, List.mem_range.2 hj, by simp [h]⟩
  rw [this]; rfl
theorem serB_yes {p n : Int} {s : List Nat} (h : ∀ j, j < 36 → okS p n s j = true) : serB p s n = someS s 36 := by
  unfold serB
  have : (List.range 36).all (okS p n s) = true := by
    rw [List.all_eq_true]
    exact fun j hj => h j (List.mem_range.1 hj)
  rw [this]; rfl
theorem someS_step {s : List Nat} {k x : Nat} (hk : k < s.length) (hx : s[k]?.getD 0 = x) : someS s (k + 1) = (someS s k || x != 0) := by
  unfold someS
  have h : s[k]?.getD 0 = s[k] := by rw [List.getElem?_eq_getElem hk]; rfl
  rw [List.take_add_one, List.getElem?_eq_getElem hk, List.any_append, ← hx, h]
  simp
theorem borderB_no {p n m k : Int} {ts : List (List Nat)} {i : Nat} (hi : i < ts.length) (h : twigB p n m k ts[i] = false) : borderB p n m k ts = false := by
  have : ts.all (twigB p n m k) = false := by
    rw [List.all_eq_false]
    exact ⟨_, List.getElem_mem hi, by simp [h]⟩
  unfold borderB
  rw [this, Bool.and_false]
def twigsB (p n m k : Int) (ts : List (List Nat)) (i : Nat) : Bool := (ts.take i).all (twigB p n m k)
theorem twigsB_step {p n m k : Int} {ts : List (List Nat)} {i : Nat} (hi : i < ts.length) (h0 : twigsB p n m k ts i = true) (h : twigB p n m k ts[i] = true) : twigsB p n m k ts (i + 1) = true := by
  unfold twigsB at *
  rw [List.take_add_one, List.getElem?_eq_getElem hi, List.all_append, h0]
  simp [h]
theorem borderB_yes {p n m k : Int} {ts : List (List Nat)} (hs : sizesB p n m k = true) (hl : ts.length ≤ 30) (h : twigsB p n m k ts ts.length = true) : borderB p n m k ts = true := by
  unfold twigsB at h
  rw [List.take_length] at h
  unfold borderB
  rw [hs, h, decide_eq_true hl]; rfl
theorem borderB_all {p n m k : Int} {ts : List (List Nat)} (h : borderB p n m k ts = true) : sizesB p n m k = true ∧ ts.length ≤ 30 ∧ ∀ t ∈ ts, twigB p n m k t = true := by
  simp only [borderB, Bool.and_eq_true, decide_eq_true_eq, List.all_eq_true] at h
  exact ⟨h.1.1, h.1.2, h.2⟩
theorem RdT.c108 {w : World} {b off : Nat} {ts : List (List Nat)} (h : RdT w (some ⟨b, off, none⟩) ts) {i : Nat} (hi : i < ts.length) : ∀ j, j < 108 → w.cell? ⟨b, off + i * 108 + j, none⟩ = some (.int .u8 ((ts[i][j]?.getD 0 : Nat) : Int)) := by
  obtain ⟨b', off', e, hc⟩ := h.at_ hi
  simp only [Option.some.injEq, Addr.mk.injEq, and_true] at e
  obtain ⟨rfl, rfl⟩ := e
  exact hc
theorem RdT.seg {w : World} {b off : Nat} {ts : List (List Nat)} (h : RdT w (some ⟨b, off, none⟩) ts) {i : Nat} (hi : i < ts.length) (o : Nat) (ho : o + 36 ≤ 108) : ∀ j, j < 36 → w.cell? ⟨b, off + i * 108 + o + j, none⟩ = some (.int .u8 (((segm ts[i] o 36)[j]?.getD 0 : Nat) : Int)) := fun j hj => by
  have := h.c108 hi (o + j) (by omega)
  rw [segm_nth _ o 36 j hj, ← this, Nat.add_assoc]
theorem RdT.seg0 {w : World} {b off : Nat} {ts : List (List Nat)} (h : RdT w (some ⟨b, off, none⟩) ts) {i : Nat} (hi : i < ts.length) : ∀ j, j < 36 → w.cell? ⟨b, off + i * 108 + j, none⟩ = some (.int .u8 (((segm ts[i] 0 36)[j]?.getD 0 : Nat) : Int)) := h.seg hi 0 (by omega)
theorem exec_index_arr1 {P : Program} {o : Oper} {a : Act} {w : World} (ty e : TypeId) (x i : Operand) (ho : o.op = .indexAddr ty x i) (b off len k : Nat) (hx : a.eval x = .pointer (some ⟨b, off, none⟩)) (hi : a.eval i = .int .i64 k) (hu : P.underlying ty = some (.array len e)) (hs : (P.info? e).map (·.size) = some 1) (hlt : k < len) : (execOp a.eval o).run P w = .ok (.value (.pointer (some ⟨b, off + k, none⟩))) w := by
  have h := exec_index_arr (P := P) (w := w) ty e x i ho b off len k 1 hx hi hu hs hlt
  rwa [Nat.mul_one] at h
theorem exec_neqb {P : Program} {o : Oper} {a : Act} {w : World} (t t' : TypeId) (x y : Operand) (ho : o.op = .binOp .neq t x y t') (m n : Int) (hx : a.eval x = .int .u8 m) (hy : a.eval y = .int .u8 n) (b : Bool) (hb : (m != n) = b) : (execOp a.eval o).run P w = .ok (.value (.bool b)) w := by
  unfold execOp
  simp only [ho, hx, hy]
  subst hb
  simp [go_sem, bne]
theorem exec_build_sch {o : Oper} {a : Act} {w : World} (x y z u v : Operand) (ho : o.op = .build 28 #[(0, x), (1, y), (2, z), (3, u), (4, v)]) (p n m k : Int) (A : Option Addr) (l c : Nat) (hx : a.eval x = .int .i64 p) (hy : a.eval y = .int .i64 n) (hz : a.eval z = .int .i64 m) (hu : a.eval u = .int .i64 k) (hv : a.eval v = .slice A l c) :
    (execOp a.eval o).run Try.prog w = .ok (.value (.agg #[.int .i64 p, .int .i64 n, .int .i64 m, .int .i64 k, .slice A l c])) w := by
  have hb : Try.prog.built 28 [(0, .int .i64 p), (1, .int .i64 n), (2, .int .i64 m), (3, .int .i64 k), (4, .slice A l c)] = some #[.int .i64 p, .int .i64 n, .int .i64 m, .int .i64 k, .slice A l c] := by kernel_rfl
  unfold execOp
  have := run_build (P := Try.prog) w 28 #[(0, .int .i64 p), (1, .int .i64 n), (2, .int .i64 m), (3, .int .i64 k), (4, .slice A l c)] _ hb
  simp [ho, hx, hy, hz, hu, hv, this]
theorem exec_build_sz3 {o : Oper} {a : Act} {w : World} (x y z : Operand) (ho : o.op = .build 93 #[(0, x), (1, y), (2, z)]) (n m k : Int) (hx : a.eval x = .int .i64 n) (hy : a.eval y = .int .i64 m) (hz : a.eval z = .int .i64 k) :
    (execOp a.eval o).run Try.prog w = .ok (.value (.agg #[.int .i64 n, .int .i64 m, .int .i64 k])) w := by
  have hb : Try.prog.built 93 [(0, .int .i64 n), (1, .int .i64 m), (2, .int .i64 k)] = some #[.int .i64 n, .int .i64 m, .int .i64 k] := by kernel_rfl
  unfold execOp
  have := run_build (P := Try.prog) w 93 #[(0, .int .i64 n), (1, .int .i64 m), (2, .int .i64 k)] _ hb
  simp [ho, hx, hy, hz, this]
end Go.Proofs.Ytnlidegmllcdhaa
