/-
  A laws.Tensor that came in, read as data: its numbers.
-/
import Derived.Test.YtolgfpcadfjliaaOpenM
namespace Go.Proofs.Ytolgfpcadfjliaa
open Go.RowKit Go.ChangeShapes Go.WideShapes
set_option maxRecDepth 100000
section
variable {H : Type} {enc : TypeId × Value → H} {w : World} {base : Nat} {spare : Nat → Bool} {held : Bool}
theorem cells_tensor : Try.prog.cellsOf 24 = 5 := by kernel_rfl
theorem open_tensor {r : Reach} {b0 : Nat} {v : Value} {d : DataW H} {ps : List MemPlace} (hv : Value.okWide Try.prog w r b0 24 v) (h : DataW.Trod enc Try.prog w base spare held 24 v d ps) :
    ∃ (p n m k : Int) (A : Option Addr) (c : Nat) (xs : List Int), v = .agg #[.int .i64 p, .int .i64 n, .int .i64 m, .int .i64 k, .slice A xs.length c] ∧ RdI w A xs ∧ xs.length ≤ 9223372036854775807 := by
  obtain ⟨cs, rfl, hsz⟩ := okWide_struct Try.underlying24 hv
  rw [cells_tensor] at hsz
  obtain ⟨l⟩ := cs
  match l, hsz with
  | [c0, c1, c2, c3, c4], _ =>
    obtain ⟨fuel, hf⟩ := h
    obtain ⟨xs, f, _, _, _, hxl, hi⟩ := DataW.trod_struct Try.underlying24 hf
    have hx5 : xs.length = 5 := hxl
    have q0 : DataW.trod enc Try.prog w base spare held f 2 ((([c0, c1, c2, c3, c4] : List Value).drop 0).take (Try.prog.cellsOf 2)) = xs[0]? := hi 0 _ rfl
    have q1 : DataW.trod enc Try.prog w base spare held f 2 ((([c0, c1, c2, c3, c4] : List Value).drop 1).take (Try.prog.cellsOf 2)) = xs[1]? := hi 1 _ rfl
    have q2 : DataW.trod enc Try.prog w base spare held f 2 ((([c0, c1, c2, c3, c4] : List Value).drop 2).take (Try.prog.cellsOf 2)) = xs[2]? := hi 2 _ rfl
    have q3 : DataW.trod enc Try.prog w base spare held f 2 ((([c0, c1, c2, c3, c4] : List Value).drop 3).take (Try.prog.cellsOf 2)) = xs[3]? := hi 3 _ rfl
    have q4 : DataW.trod enc Try.prog w base spare held f 22 ((([c0, c1, c2, c3, c4] : List Value).drop 4).take (Try.prog.cellsOf 22)) = xs[4]? := hi 4 _ rfl
    rw [cells_int64] at q0 q1 q2 q3
    rw [cells_is] at q4
    simp only [List.drop_succ_cons, List.drop_zero, List.take_succ_cons, List.take_zero] at q0 q1 q2 q3 q4
    rw [List.getElem?_eq_getElem (by omega)] at q0 q1 q2 q3 q4
    obtain ⟨p, e0, _, _⟩ := DataW.trod_int Try.underlying2 q0
    obtain ⟨n, e1, _, _⟩ := DataW.trod_int Try.underlying2 q1
    obtain ⟨m, e2, _, _⟩ := DataW.trod_int Try.underlying2 q2
    obtain ⟨k, e3, _, _⟩ := DataW.trod_int Try.underlying2 q3
    obtain ⟨A, c, qs, e4, hr, hq⟩ := open_ints q4
    simp only [List.cons.injEq, and_true] at e0 e1 e2 e3
    subst e0 e1 e2 e3 e4
    exact ⟨p, n, m, k, A, c, qs, rfl, hr, hq⟩
end
end Go.Proofs.Ytolgfpcadfjliaa
