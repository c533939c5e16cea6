/-
  impl.flipped. (Made by mkfp.py.)
-/
import Derived.Test.YtemkhlokpinecaaFl
import Derived.Test.YtemkhlokpinecaaNrm4
import Derived.Test.YtemkhlokpinecaaPo
import Derived.Test.YtemkhlokpinecaaDel3
namespace Go.Proofs.Ytemkhlokpinecaa
open Go.RowKit
set_option maxRecDepth 100000
attribute [local irreducible] wpList
theorem exec_index_arr0f {P : Program} {o : Oper} {a : Act} {w : World} (ty e : TypeId) (x i : Operand) (ho : o.op = .indexAddr ty x i) (b len k s : Nat) (hx : a.eval x = .pointer (some ⟨b, 0, none⟩)) (hi : a.eval i = .int .i64 k) (hu : P.underlying ty = some (.array len e)) (hs : (P.info? e).map (·.size) = some s) (hlt : k < len) : (execOp a.eval o).run P w = .ok (.value (.pointer (some ⟨b, k * s, none⟩))) w := by
  have h := exec_index_arr (P := P) (w := w) ty e x i ho b 0 len k s hx hi hu hs hlt
  rwa [Nat.zero_add] at h
theorem cut_worldF {n : Nat} {w W : World} (_ : Below n w W) : ∃ x : World, x = W := ⟨W, rfl⟩
theorem set_len27 {qs : List (List Nat)} {i : Nat} {r : List Nat} (h : ∀ q ∈ qs, q.length = 27) (hr : r.length = 27) : ∀ q ∈ qs.set i r, q.length = 27 := fun q hq => by
  rcases List.mem_or_eq_of_mem_set hq with h1 | rfl
  · exact h q h1
  · exact hr
theorem set_bytes27 {qs : List (List Nat)} {i : Nat} {r : List Nat} (h : ∀ q ∈ qs, Bytes 27 q) (hr : Bytes 27 r) : ∀ q ∈ qs.set i r, Bytes 27 q := fun q hq => by
  rcases List.mem_or_eq_of_mem_set hq with h1 | rfl
  · exact h q h1
  · exact hr
/-- Two products flipped at a factor by s. -/
def flQ (p s : Int) (f : Nat) (Q R : List Nat) : List Nat := withQ Q ((f + 1) % 3) (adF p s (facQ Q ((f + 1) % 3)) (facQ R ((f + 1) % 3)))
def flR (p s : Int) (f : Nat) (Q R : List Nat) : List Nat := withQ R ((f + 2) % 3) (adF p (p - s) (facQ R ((f + 2) % 3)) (facQ (flQ p s f Q R) ((f + 2) % 3)))
def flL (p s : Int) (qs : List (List Nat)) (i j f : Nat) (Q R : List Nat) : List (List Nat) := ((qs.set i (flQ p s f Q R)).set j (flR p s f Q R)).filter nzB
theorem Own.rdN2 {n : Nat} {w : World} {lo : Nat} {v : Value} {qs : List (List Nat)} (h : Own w lo v qs) (he : qs.length = n) : ∃ A c, v = .slice A n c := by
  subst he
  rcases h.shp with ⟨rfl, h0⟩ | ⟨g, c, rfl⟩
  · exact ⟨none, 0, by rw [h0]⟩
  · exact ⟨_, _, rfl⟩
theorem al__3_impl_Form {o : Oper} {a : Act} {w : World} (ho : o.op = .alloc 122) : (execOp a.eval o).run Try.prog w = .ok (.value (.pointer (some ⟨w.heap.size, 0, none⟩))) (w.alloc (.cells (u8s (List.replicate 27 0)) 122 (0, 0))) := by
  unfold execOp
  rw [ho]
  kernel_rfl
theorem al_impl_Scheme {o : Oper} {a : Act} {w : World} (ho : o.op = .alloc 28) : (execOp a.eval o).run Try.prog w = .ok (.value (.pointer (some ⟨w.heap.size, 0, none⟩))) (w.alloc (.cells #[.int .i64 0, .int .i64 0, .int .i64 0, .int .i64 0, .slice none 0 0] 28 (0, 0))) := by
  unfold execOp
  rw [ho]
  kernel_rfl
end Go.Proofs.Ytemkhlokpinecaa
