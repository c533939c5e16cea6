/-
  For the laws' walks: the boxes, the scheme that came in and its copy.
-/
import Derived.Test.YtgccdmeagkmhiaaStd1
import Derived.Test.YtgccdmeagkmhiaaMarkI
import Derived.Test.YtgccdmeagkmhiaaHeld
namespace Go.Proofs.Ytgccdmeagkmhiaa
open Go.RowKit
set_option maxRecDepth 100000
/-- The argument's box; the copy's box and its products. -/
structure KL (w : World) (p n m k : Int) (A : Option Addr) (c : Nat) (qs : List (List Nat)) (bx gx : Nat) (wr : World) : Prop where
  below : Below w.heap.size w wr
  ba : At wr w.heap.size (.cells #[.int .i64 p, .int .i64 n, .int .i64 m, .int .i64 k, .slice A qs.length c] 24 (0, 0))
  bb : At wr bx (.cells #[.int .i64 p, .int .i64 n, .int .i64 m, .int .i64 k, .slice (some ⟨gx, 0, none⟩) qs.length qs.length] 29 (0, 0))
  gw : w.heap.size ≤ gx
section
variable {w wr w2 : World} {p n m k : Int} {A : Option Addr} {c : Nat} {qs : List (List Nat)} {bx gx : Nat}
theorem KL.after (h : KL w p n m k A c qs bx gx wr) (hb : Below wr.heap.size wr w2) : KL w p n m k A c qs bx gx w2 := ⟨below_after h.below hb, h.ba.after hb, h.bb.after hb, h.gw⟩
theorem KL.drew (h : KL w p n m k A c qs bx gx wr) : KL w p n m k A c qs bx gx wr.drew := ⟨h.below.drew, h.ba, h.bb, h.gw⟩
/-- Behind marks of products (any slice of products that lies above what was there at first). -/
theorem KL.grown (h : KL w p n m k A c qs bx gx wr) {lo : Nat} {v : Value} {rs : List (List Nat)} (ho : Own wr lo v rs) (hl : w.heap.size ≤ lo) (hG : wr.grownBy w2 v.ownBlock) : KL w p n m k A c qs bx gx w2 :=
  ⟨below_grown h.below hG ho hl, h.ba.grown hG (ho.off h.ba (by decide)), h.bb.grown hG (ho.off h.bb (by decide)), h.gw⟩
end
theorem OwnI.off {w : World} {lo g : Nat} {v : Value} {xs : List Int} {cs : Array Value} {t : TypeId} (h : OwnI w lo v xs) (hg : At w g (.cells cs t (0, 0))) (ht : t ≠ 2) : some g ≠ v.ownBlock := fun e => by
  rcases h.2 with ⟨rfl, _⟩ | ⟨g', cap, cur, rfl, hb, hgg, _⟩
  · cases e
  · simp only [Value.ownBlock, Option.some.injEq] at e
    subst e
    have h1 : some (Obj.cells cs t (0, 0)) = some (Obj.cells cur 2 (0, 0)) := hg.symm.trans hgg
    simp only [Option.some.injEq, Obj.cells.injEq] at h1
    exact ht h1.2.1
/-- A list of numbers and a list of products lie apart. -/
theorem OwnI.apart {w : World} {lo lo' : Nat} {v v' : Value} {xs : List Int} {qs : List (List Nat)} (h : OwnI w lo v xs) (h' : Own w lo' v' qs) : v.ownBlock = none ∨ v.ownBlock ≠ v'.ownBlock := by
  rcases h.2 with ⟨rfl, _⟩ | ⟨g', cap, cur, rfl, hb, hgg, _⟩
  · exact .inl rfl
  · exact .inr (h'.off (g := g') (cs := cur) (t := 2) hgg (by decide))
theorem OwnI.ne {w w' : World} {lo lo' : Nat} {v v' : Value} {xs xs' : List Int} (h : OwnI w lo v xs) (h' : OwnI w' lo' v' xs') (hl : w.heap.size ≤ lo') : v.ownBlock = none ∨ v.ownBlock ≠ v'.ownBlock := by
  rcases hv : v.ownBlock with _ | g
  · exact .inl rfl
  · refine .inr fun e => ?_
    have h1 := (h.lt hv).2
    have h2 := (h'.lt e.symm).1
    omega
theorem below_grownI {w0 w w' : World} {v : Value} {lo : Nat} {xs : List Int} (h : Below w0.heap.size w0 w) (hb : w.grownBy w' v.ownBlock) (ho : OwnI w lo v xs) (hl : w0.heap.size ≤ lo) : Below w0.heap.size w0 w' :=
  h.grown hb h.size (fun k hk => by have := (ho.lt hk).1; omega)
theorem KL.grownI {w wr w2 : World} {p n m k : Int} {A : Option Addr} {c : Nat} {qs : List (List Nat)} {bx gx : Nat} (h : KL w p n m k A c qs bx gx wr) {lo : Nat} {v : Value} {xs : List Int} (ho : OwnI wr lo v xs) (hl : w.heap.size ≤ lo) (hG : wr.grownBy w2 v.ownBlock) : KL w p n m k A c qs bx gx w2 :=
  ⟨below_grownI h.below hG ho hl, h.ba.grown hG (ho.off h.ba (by decide)), h.bb.grown hG (ho.off h.bb (by decide)), h.gw⟩
theorem call_toScheme (args : Array Value) (w : World) : (callFunc 17 args).run Try.prog w = .ok (.enter 17 args) w := by kernel_rfl
theorem call_eqScheme (args : Array Value) (w : World) : (callFunc 19 args).run Try.prog w = .ok (.enter 19 args) w := by kernel_rfl
theorem wp_call2 {P : Program} {Q : Exit → Act → World → Prop} {o : Oper} {a : Act} {w : World} {K : Act → World → Prop} (d : Option Tmp) (hd : o.dst = d) (f : Nat) (x y : Operand) (ts : Array TypeId) (ho : o.op = .call { callee := .value (.func f), args := #[x, y], argTypes := ts }) (hcall : ∀ args w, (callFunc f args).run P w = .ok (.enter f args) w)
    (v1 v2 : Value) (hx : a.eval x = v1) (hy : a.eval y = v2) (post : Ending → World → Prop) (hc : Calls P f #[v1, v2] w post) (h : ∀ e w', post e w' → ∃ v, e = .returned v ∧ K (a.put d v) w') : Oper.wp P o a w K Q :=
  wp_call d hd f #[x, y] ts ho hcall #[v1, v2] (by simp [hx, hy]) post hc h
theorem exec_not {P : Program} {o : Oper} {a : Act} {w : World} (t : TypeId) (x : Operand) (ho : o.op = .unOp .not t x) (b : Bool) (hx : a.eval x = .bool b) : (execOp a.eval o).run P w = .ok (.value (.bool (!b))) w := by
  unfold execOp
  simp only [ho, hx]
  simp [go_sem]
end Go.Proofs.Ytgccdmeagkmhiaa
