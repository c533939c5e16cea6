/-
  A laws.Desk that came in, read as data: its two schemes.
-/
import Derived.Test.YtgjcfgieecamdaaOpen
namespace Go.Proofs.Ytgjcfgieecamdaa
open Go.RowKit Go.ChangeShapes Go.WideShapes
set_option maxRecDepth 100000
section
variable {H : Type} {enc : TypeId × Value → H} {w : World} {base : Nat} {spare : Nat → Bool} {held : Bool}
theorem cells_desk : Try.prog.cellsOf 38 = 10 := by kernel_rfl
theorem open_scheme_cells {fuel : Nat} {x : DataW H × List MemPlace} (c0 c1 c2 c3 c4 : Value) (hf : DataW.trod enc Try.prog w base spare held fuel 24 [c0, c1, c2, c3, c4] = some x) :
    ∃ (p n m k : Int) (A : Option Addr) (c : Nat) (qs : List (List Nat)), ([c0, c1, c2, c3, c4] : List Value) = [.int .i64 p, .int .i64 n, .int .i64 m, .int .i64 k, .slice A qs.length c] ∧ Rd w A qs ∧ qs.length ≤ 9223372036854775807 := by
  obtain ⟨xs, f, _, _, _, hxl, hi⟩ := DataW.trod_struct Try.underlying24 hf
  have hx5 : xs.length = 5 := hxl
  have q0 : DataW.trod enc Try.prog w base spare held f 2 ((([c0, c1, c2, c3, c4] : List Value).drop 0).take (Try.prog.cellsOf 2)) = xs[0]? := hi 0 _ rfl
  have q1 : DataW.trod enc Try.prog w base spare held f 2 ((([c0, c1, c2, c3, c4] : List Value).drop 1).take (Try.prog.cellsOf 2)) = xs[1]? := hi 1 _ rfl
  have q2 : DataW.trod enc Try.prog w base spare held f 2 ((([c0, c1, c2, c3, c4] : List Value).drop 2).take (Try.prog.cellsOf 2)) = xs[2]? := hi 2 _ rfl
  have q3 : DataW.trod enc Try.prog w base spare held f 2 ((([c0, c1, c2, c3, c4] : List Value).drop 3).take (Try.prog.cellsOf 2)) = xs[3]? := hi 3 _ rfl
  have q4 : DataW.trod enc Try.prog w base spare held f 22 ((([c0, c1, c2, c3, c4] : List Value).drop 4).take (Try.prog.cellsOf 22)) = xs[4]? := hi 4 _ rfl
  rw [cells_int64] at q0 q1 q2 q3
  rw [cells_slice] at q4
  simp only [List.drop_succ_cons, List.drop_zero, List.take_succ_cons, List.take_zero] at q0 q1 q2 q3 q4
  rw [List.getElem?_eq_getElem (by omega)] at q0 q1 q2 q3 q4
  obtain ⟨p, e0, _, _⟩ := DataW.trod_int Try.underlying2 q0
  obtain ⟨n, e1, _, _⟩ := DataW.trod_int Try.underlying2 q1
  obtain ⟨m, e2, _, _⟩ := DataW.trod_int Try.underlying2 q2
  obtain ⟨k, e3, _, _⟩ := DataW.trod_int Try.underlying2 q3
  obtain ⟨A, c, qs, e4, hr, hq⟩ := open_prods q4
  simp only [List.cons.injEq, and_true] at e0 e1 e2 e3
  subst e0 e1 e2 e3 e4
  exact ⟨p, n, m, k, A, c, qs, rfl, hr, hq⟩
theorem open_desk {r : Reach} {b0 : Nat} {v : Value} {d : DataW H} {ps : List MemPlace} (hv : Value.okWide Try.prog w r b0 38 v) (h : DataW.Trod enc Try.prog w base spare held 38 v d ps) :
    ∃ (xp xn xm xk : Int) (xA : Option Addr) (xc : Nat) (xq : List (List Nat)) (yp yn ym yk : Int) (yA : Option Addr) (yc : Nat) (yq : List (List Nat)), v = .agg #[.int .i64 xp, .int .i64 xn, .int .i64 xm, .int .i64 xk, .slice xA xq.length xc, .int .i64 yp, .int .i64 yn, .int .i64 ym, .int .i64 yk, .slice yA yq.length yc] ∧ Rd w xA xq ∧ xq.length ≤ 9223372036854775807 ∧ Rd w yA yq ∧ yq.length ≤ 9223372036854775807 := by
  obtain ⟨cs, rfl, hsz⟩ := okWide_struct Try.underlying38 hv
  rw [cells_desk] at hsz
  obtain ⟨l⟩ := cs
  match l, hsz with
  | [c0, c1, c2, c3, c4, c5, c6, c7, c8, c9], _ =>
    obtain ⟨fuel, hf⟩ := h
    obtain ⟨xs, f, _, _, _, hxl, hi⟩ := DataW.trod_struct Try.underlying38 hf
    have hx2 : xs.length = 2 := hxl
    have q0 : DataW.trod enc Try.prog w base spare held f 24 ((([c0, c1, c2, c3, c4, c5, c6, c7, c8, c9] : List Value).drop 0).take (Try.prog.cellsOf 24)) = xs[0]? := hi 0 _ rfl
    have q1 : DataW.trod enc Try.prog w base spare held f 24 ((([c0, c1, c2, c3, c4, c5, c6, c7, c8, c9] : List Value).drop 5).take (Try.prog.cellsOf 24)) = xs[1]? := hi 1 _ rfl
    rw [cells_scheme] at q0 q1
    simp only [List.drop_succ_cons, List.drop_zero, List.take_succ_cons, List.take_zero] at q0 q1
    rw [List.getElem?_eq_getElem (by omega)] at q0 q1
    obtain ⟨p, n, m, k, A, c, qs, e0, hr, hq⟩ := open_scheme_cells c0 c1 c2 c3 c4 q0
    obtain ⟨p', n', m', k', A', c', qs', e1, hr', hq'⟩ := open_scheme_cells c5 c6 c7 c8 c9 q1
    simp only [List.cons.injEq, and_true] at e0 e1
    obtain ⟨rfl, rfl, rfl, rfl, rfl⟩ := e0
    obtain ⟨rfl, rfl, rfl, rfl, rfl⟩ := e1
    exact ⟨p, n, m, k, A, c, qs, p', n', m', k', A', c', qs', rfl, hr, hq, hr', hq'⟩
end
end Go.Proofs.Ytgjcfgieecamdaa
