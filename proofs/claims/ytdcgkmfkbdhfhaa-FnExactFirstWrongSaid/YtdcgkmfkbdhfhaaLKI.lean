/-
  For the laws' walks: lists of int64.
-/
import Derived.Test.YtdcgkmfkbdhfhaaMarkI
import Derived.Test.YtdcgkmfkbdhfhaaLK1
namespace Go.Proofs.Ytdcgkmfkbdhfhaa
open Go.RowKit
set_option maxRecDepth 100000
theorem OwnI.off {w : World} {lo g : Nat} {v : Value} {xs : List Int} {cs : Array Value} {t : TypeId} (h : OwnI w lo v xs) (hg : At w g (.cells cs t (0, 0))) (ht : t ≠ 2) : some g ≠ v.ownBlock := fun e => by
  rcases h.2 with ⟨rfl, _⟩ | ⟨g', cap, cur, rfl, hb, hgg, _⟩
  · cases e
  · simp only [Value.ownBlock, Option.some.injEq] at e
    subst e
    have h1 : some (Obj.cells cs t (0, 0)) = some (Obj.cells cur 2 (0, 0)) := hg.symm.trans hgg
    simp only [Option.some.injEq, Obj.cells.injEq] at h1
    exact ht h1.2.1
/-- A list of numbers and a list of products lie apart. -/
theorem OwnI.apart {w : World} {lo lo' : Nat} {v v' : Value} {xs : List Int} {qs : List (List Nat)} (h : OwnI w lo v xs) (h' : Own w lo' v' qs) : v.ownBlock = none ∨ v.ownBlock ≠ v'.ownBlock := by
  rcases h.2 with ⟨rfl, _⟩ | ⟨g', cap, cur, rfl, hb, hgg, _⟩
  · exact .inl rfl
  · exact .inr (h'.off (g := g') (cs := cur) (t := 2) hgg (by decide))
theorem OwnI.ne {w w' : World} {lo lo' : Nat} {v v' : Value} {xs xs' : List Int} (h : OwnI w lo v xs) (h' : OwnI w' lo' v' xs') (hl : w.heap.size ≤ lo') : v.ownBlock = none ∨ v.ownBlock ≠ v'.ownBlock := by
  rcases hv : v.ownBlock with _ | g
  · exact .inl rfl
  · refine .inr fun e => ?_
    have h1 := (h.lt hv).2
    have h2 := (h'.lt e.symm).1
    omega
theorem below_grownI {w0 w w' : World} {v : Value} {lo : Nat} {xs : List Int} (h : Below w0.heap.size w0 w) (hb : w.grownBy w' v.ownBlock) (ho : OwnI w lo v xs) (hl : w0.heap.size ≤ lo) : Below w0.heap.size w0 w' :=
  h.grown hb h.size (fun k hk => by have := (ho.lt hk).1; omega)
/-- The call answers this list, in memory of its own, and this code. -/
def ResI (w : World) (xs : List Int) (code : Int) (e : Ending) (w' : World) : Prop :=
  ∃ v, e = .returned (.tuple #[v, .int .i64 code]) ∧ OwnI w' w.heap.size v xs ∧ Below w.heap.size w w'
theorem OwnI.mono {w : World} {lo lo' : Nat} {v : Value} {xs : List Int} (h : OwnI w lo v xs) (hl : lo' ≤ lo) : OwnI w lo' v xs := by
  refine ⟨h.1, ?_⟩
  rcases h.2 with hn | ⟨g, cap, cur, hv, hb, rest⟩
  · exact .inl hn
  · exact .inr ⟨g, cap, cur, hv, Nat.le_trans hl hb, rest⟩
theorem OwnI.nil (w : World) (lo : Nat) : OwnI w lo (.slice none 0 0) [] := World.ownsRow_nil _ _ _ _
theorem OwnI.rd' {w : World} {lo : Nat} {A : Option Addr} {c n : Nat} {xs : List Int} (h : OwnI w lo (.slice A n c) xs) : RdI w A xs := by
  obtain ⟨A', c', e, hr⟩ := h.rd
  simp only [Value.slice.injEq] at e
  rw [e.1]
  exact hr
theorem markInt64S_1 {lo : Nat} {v : Value} {xs : List Int} (w : World) (h : OwnI w lo v xs) (hn : xs.length ≤ 1048576) :
    Calls Try.prog 23 #[v, .int .i64 1] w fun e w' => e = .returned (.int .i64 ((1 + xs.length : Nat) : Int)) ∧ w.grownBy w' v.ownBlock ∧ HeldI w' v 1 xs.length := markOwnI_c 1 w h hn (by omega)
theorem heldInt64S_1 {v : Value} {n : Nat} (w : World) (h : Shp v n) (hh : HeldI w v 1 n) (hn : n ≤ 1048576) :
    Calls Try.prog 24 #[v, .int .i64 1] w fun e w' => e = .returned (.int .i64 ((1 + n : Nat) : Int)) ∧ w = w' := heldOwnI_c 1 w h hh hn (by omega)
theorem OwnI.inn {w : World} {lo : Nat} {v : Value} {xs : List Int} (h : OwnI w lo v xs) : In lo w.heap.size v := fun _ hg => h.lt hg
theorem OwnI.same {w w' : World} {lo hi lo' hi' : Nat} {v : Value} {xs : List Int} (h : OwnI w lo v xs) (i : In lo hi v) (hs : Same lo' hi' w w') (hd : hi ≤ lo' ∨ hi' ≤ lo) : OwnI w' lo v xs := kept_same (w := w) h i hs hd
theorem HeldI.same {w w' : World} {lo hi lo' hi' k n : Nat} {v : Value} (h : HeldI w v k n) (i : In lo hi v) (hs : Same lo' hi' w w') (hd : hi ≤ lo' ∨ hi' ≤ lo) : HeldI w' v k n := fun g hg j hj =>
  cell_same (h g hg j hj) hs (by have := i g hg; omega)
theorem markInt64S_2 {lo : Nat} {v : Value} {xs : List Int} (K : Nat) (kk : Int) (w : World) (hk' : kk = (K : Int)) (h : OwnI w lo v xs) (hn : xs.length ≤ 1048576) (hk : K ≤ 1000000000) :
    Calls Try.prog 23 #[v, .int .i64 kk] w fun e w' => e = .returned (.int .i64 ((K + xs.length : Nat) : Int)) ∧ w.grownBy w' v.ownBlock ∧ HeldI w' v K xs.length := by
  subst hk'
  exact markOwnI_c K w h hn (by omega)
end Go.Proofs.Ytdcgkmfkbdhfhaa
