/-
  impl.WithoutProduct.
-/
import Derived.Test.YtpoekhpchhmkaaaAdd3
namespace Go.Proofs.Ytpoekhpchhmkaaa
open Go.RowKit
set_option maxRecDepth 100000
theorem elem_prods : Try.prog.underlying 29 = some (.slice (Try.prog.elem 29)) := by kernel_rfl
theorem size_prods (w : World) : (sizeOf (Try.prog.elem 29)).run Try.prog w = .ok 27 w := by kernel_rfl
theorem exec_slice_hi {o : Oper} {a : Act} {w : World} (x y : Operand) (ho : o.op = .slice 29 x none (some y) none) (g N i : Nat) (hi : i ≤ N) (hx : a.eval x = .slice (some ⟨g, 0, none⟩) N N) (hy : a.eval y = .int .i64 (i : Int)) :
    (execOp a.eval o).run Try.prog w = .ok (.value (.slice (some ⟨g, 0, none⟩) i N)) w := by
  have h := run_slice_h (P := Try.prog) (w := w) 29 (some ⟨g, 0, none⟩) N N elem_prods .i64 (i : Int) (by omega) (by omega)
  rw [size_prods] at h
  unfold execOp
  simp only [ho, Option.map_some, Option.map_none, hx, hy, Instr.sliceAt, Sem.run_bind, run_underlying elem_prods, Result.andThen_ok, h]
  simp [sliced, add_none]
def loA (g N l : Nat) : Addr := if N = l then ⟨g, 0, none⟩ else ⟨g, l * 27, none⟩
theorem exec_slice_lo {o : Oper} {a : Act} {w : World} (x y : Operand) (ho : o.op = .slice 29 x (some y) none none) (g N l : Nat) (hl : l ≤ N) (hx : a.eval x = .slice (some ⟨g, 0, none⟩) N N) (hy : a.eval y = .int .i64 (l : Int)) :
    (execOp a.eval o).run Try.prog w = .ok (.value (.slice (some (loA g N l)) (N - l) (N - l))) w := by
  have h := run_slice_l (P := Try.prog) (w := w) 29 (some ⟨g, 0, none⟩) N N elem_prods .i64 (l : Int) (by omega) (by omega)
  rw [size_prods] at h
  unfold execOp
  simp only [ho, Option.map_some, Option.map_none, hx, hy, Instr.sliceAt, Sem.run_bind, run_underlying elem_prods, Result.andThen_ok, h]
  simp only [sliced, loA, Int.toNat_natCast]
  split <;> simp [add_none]
theorem Rd.take {w : World} {A : Option Addr} {qs : List (List Nat)} (h : Rd w A qs) (i : Nat) : Rd w A (qs.take i) := by
  refine ⟨fun q hq => h.1 q (List.mem_of_mem_take hq), ?_⟩
  rcases h.2 with rfl | ⟨b, off, hA, hc⟩
  · left; simp
  · refine .inr ⟨b, off, hA, fun j q hj => hc j q ?_⟩
    rw [List.getElem?_take] at hj
    split at hj
    · exact hj
    · cases hj
theorem Rd.dropA {w : World} {g : Nat} {qs : List (List Nat)} (h : Rd w (some ⟨g, 0, none⟩) qs) (l : Nat) : Rd w (some (loA g qs.length l)) (qs.drop l) := by
  refine ⟨fun q hq => h.1 q (List.mem_of_mem_drop hq), ?_⟩
  unfold loA
  split
  · rename_i e
    left
    exact List.drop_eq_nil_of_le (by omega)
  · rcases h.2 with rfl | ⟨b, off, hA, hc⟩
    · left; simp
    · simp only [Option.some.injEq, Addr.mk.injEq] at hA
      obtain ⟨rfl, rfl, _⟩ := hA
      refine .inr ⟨g, l * 27, rfl, fun j q hj t ht => ?_⟩
      rw [List.getElem?_drop] at hj
      have := hc (l + j) q hj t ht
      rw [show 0 + (l + j) * 27 + t = l * 27 + j * 27 + t by rw [Nat.add_mul]; omega] at this
      exact this
theorem infoSl : (Try.prog.info? 29).map (fun i => (i.zero, i.size, i.bytes)) = some (some (.slice none 0 0), 1, 24) := by kernel_rfl
theorem exec_buildSlice2 {o : Oper} {a : Act} {w : World} (x y : Operand) (ho : o.op = .buildSlice 95 2 #[(0, x), (1, y)]) (A1 A2 : Option Addr) (n1 n2 c1 c2 : Nat) (hx : a.eval x = .slice A1 n1 c1) (hy : a.eval y = .slice A2 n2 c2) :
    (execOp a.eval o).run Try.prog w = .ok (.value (.slice (some ⟨w.heap.size, 0, none⟩) 2 2)) (w.alloc (.cells #[.slice A1 n1 c1, .slice A2 n2 c2] 29 (0, 0))) := by
  obtain ⟨i, hi0, hz, h1, h2⟩ := info_parts infoSl
  have h := run_buildSlice (P := Try.prog) w 95 29 2 #[(0, .slice A1 n1 c1), (1, .slice A2 n2 c2)] #[.slice A1 n1 c1, .slice A2 n2 c2] i (.slice none 0 0) Try.underlying95 hi0 hz (by rw [h1]; omega) (by rw [h1]; omega) (by rw [h1]; kernel_rfl)
  unfold execOp
  simp [ho, hx, hy, h]
def woCode (p n m k : Int) (qs : List (List Nat)) (i : Int) : Int := if schemeB p n m k qs then (if inB i qs.length then 0 else 2) else 1
def woQs (p n m k : Int) (qs : List (List Nat)) (i : Int) : List (List Nat) := if woCode p n m k qs i = 0 then qs.take i.toNat ++ qs.drop (i.toNat + 1) else []
def woZ (p n m k : Int) (qs : List (List Nat)) (i : Int) (x : Int) : Int := if woCode p n m k qs i = 0 then x else 0
theorem woQs_len (p n m k : Int) (qs : List (List Nat)) (i : Int) : (woQs p n m k qs i).length ≤ qs.length := by
  unfold woQs
  split
  · rw [List.length_append, List.length_take, List.length_drop]
    omega
  · simp
theorem woQs_bytes {qs : List (List Nat)} (p n m k i : Int) (hqs : ∀ q ∈ qs, Bytes 27 q) : ∀ r ∈ woQs p n m k qs i, Bytes 27 r := by
  unfold woQs
  split
  · intro r hr
    simp only [List.mem_append] at hr
    rcases hr with hr | hr
    · exact hqs r (List.mem_of_mem_take hr)
    · exact hqs r (List.mem_of_mem_drop hr)
  · simp
theorem call_with (args : Array Value) (w : World) : (callFunc 34 args).run Try.prog w = .ok (.enter 34 args) w := by kernel_rfl
end Go.Proofs.Ytpoekhpchhmkaaa
