/-
  spec.l01Plain.
-/
import Derived.Test.YtokmchadckcilaaPln2
import Derived.Test.YtokmchadckcilaaLK1
namespace Go.Proofs.Ytokmchadckcilaa
open Go.RowKit
set_option maxRecDepth 100000
section
variable {P : Program} {o : Oper} {a : Act} {w : World}
end
theorem exec_buildRow {o : Oper} {a : Act} {w : World} (x : Operand) (ho : o.op = .buildSlice 40 1 #[(0, x)]) (A1 : Option Addr) (n1 c1 : Nat) (hx : a.eval x = .slice A1 n1 c1) :
    (execOp a.eval o).run Try.prog w = .ok (.value (.slice (some ⟨w.heap.size, 0, none⟩) 1 1)) (w.alloc (.cells #[.slice A1 n1 c1] 46 (0, 0))) := by
  obtain ⟨i, hi0, hz, h1, h2⟩ := info_parts infoIS
  have h := run_buildSlice (P := Try.prog) w 40 46 1 #[(0, .slice A1 n1 c1)] #[.slice A1 n1 c1] i (.slice none 0 0) Try.underlying40 hi0 hz (by rw [h1]; omega) (by rw [h1]; omega) (by rw [h1]; kernel_rfl)
  unfold execOp
  simp [ho, hx, h]
theorem wpList_buildRow {ops : Array Oper} {rest : List Oper} {o : Oper} {a : Act} {w : World} {Q : Exit → Act → World → Prop} (hg : o.guard = none) (x : Operand) (ho : o.op = .buildSlice 40 1 #[(0, x)]) (A1 : Option Addr) (n1 c1 : Nat) (hx : a.eval x = .slice A1 n1 c1)
    (h : ∀ w', New w w' (.cells #[.slice A1 n1 c1] 46 (0, 0)) → wpList Try.prog ops Q rest (a.put o.dst (.slice (some ⟨w.heap.size, 0, none⟩) 1 1)) w') : wpList Try.prog ops Q (o :: rest) a w :=
  wpList_of_exec hg (exec_buildRow x ho A1 n1 c1 hx) (h _ (New.alloc _ _))
def rowVals (gs : Nat → Nat) (row : Nat → List Int) (k : Nat) : List Value := (List.range k).map fun i => .slice (some ⟨gs i, 0, none⟩) (row i).length (row i).length
structure OutR (w : World) (lo hi : Nat) (v : Value) (gs : Nat → Nat) (k : Nat) (row : Nat → List Int) : Prop where
  own : w.ownsRow lo 46 1 v k (rowVals gs row k)
  row : ∀ i, i < k → At w (gs i) (.cells (iar (row i)) 2 (0, 0)) ∧ lo ≤ gs i ∧ gs i < hi
  inj : ∀ i j, i < j → j < k → gs i ≠ gs j
section
variable {w w' : World} {lo hi hi' b k L : Nat} {gs : Nat → Nat} {row : Nat → List Int} {v v' : Value}
theorem OutR.below (h : OutR w lo hi v gs k row) (hb : Below w.heap.size w w') : OutR w' lo hi v gs k row :=
  ⟨World.ownsRow.kept (row := none) h.own ⟨hb.os, hb.tape, hb.output, hb.size, fun k hk _ => hb.block k hk⟩ (by
    rcases hv : v.ownBlock with _ | g
    · exact .inl rfl
    · exact .inr (by simp)), fun i hi => ⟨(h.row i hi).1.after hb, (h.row i hi).2⟩, h.inj⟩
theorem OutR.to (h : OutR w lo hi v gs k row) (hh : hi ≤ w.heap.size) : OwnM w lo w.heap.size v k row := by
  rcases h.own.2 with h0 | ⟨g, cap, cur, rfl, hb, hg, hle, _, hsz, ht⟩
  · exact .inl h0
  · refine .inr ⟨g, cap, cur, gs, rfl, hg, ⟨hb, At.lt hg⟩, fun i hi => ?_, fun i hi => ⟨(h.row i hi).1, (h.row i hi).2.1, Nat.lt_of_lt_of_le (h.row i hi).2.2 hh⟩, h.inj⟩
    have h1 : (cur.toList.take (k * 1))[i]? = (rowVals gs row k)[i]? := by rw [ht]
    rw [List.getElem?_take, if_pos (by omega)] at h1
    rw [← Array.getElem?_toList, h1]
    simp [rowVals, hi]
theorem OutR.off (h : OutR w lo hi v gs k row) {g : Nat} {cs : Array Value} (hg : At w g (.cells cs 2 (0, 0))) : some g ≠ v.ownBlock := fun e => by
  rcases h.own.2 with ⟨rfl, _⟩ | ⟨g', cap, cur, rfl, hb, hgg, _⟩
  · cases e
  · simp only [Value.ownBlock, Option.some.injEq] at e
    subst e
    have h1 : some (Obj.cells cs 2 (0, 0)) = some (Obj.cells cur 46 (0, 0)) := hg.symm.trans hgg
    simp only [Option.some.injEq, Obj.cells.injEq] at h1
    exact absurd h1.2.1 (by decide)
theorem OutR.append (h : OutR w lo hi v gs k row) (hlo : lo ≤ b) (hb : hi ≤ b) (hA : At w b (.cells (iar (row k)) 2 (0, 0))) (hL : (row k).length = L) (gr : w.grownBy w' v.ownBlock)
    (ow : w'.ownsRow lo 46 1 v' (k + 1) (rowVals gs row k ++ [.slice (some ⟨b, 0, none⟩) L L])) : OutR w' lo w'.heap.size v' (fun x => if x = k then b else gs x) (k + 1) row := by
  have hA' := hA.grown gr (h.off hA)
  refine ⟨?_, fun i hi => ?_, fun i j hij hj => ?_⟩
  · have e : rowVals (fun x => if x = k then b else gs x) row (k + 1) = rowVals gs row k ++ [.slice (some ⟨b, 0, none⟩) L L] := by
      simp only [rowVals, List.range_succ, List.map_append, List.map_cons, List.map_nil, if_true, hL]
      congr 1
      apply List.map_congr_left
      intro x hx
      have := List.mem_range.1 hx
      simp only [if_neg (show ¬ x = k by omega)]
    rw [e]
    exact ow
  · by_cases e : i = k
    · subst e
      simp only [if_true]
      exact ⟨hA', hlo, hA'.lt⟩
    · have hr := h.row i (by omega)
      simp only [if_neg e]
      have := hr.1.grown gr (h.off hr.1)
      exact ⟨this, hr.2.1, this.lt⟩
  · have e : i ≠ k := by omega
    simp only [if_neg e]
    split
    · have := (h.row i (by omega)).2.2
      omega
    · exact h.inj i j hij (by omega)
end
theorem OutR.start {w w' : World} {row : Nat → List Int} {gs : Nat → Nat} (h : New w w' (.cells #[] 46 (0, 0))) : OutR w' w.heap.size w'.heap.size (.slice (some ⟨w.heap.size, 0, none⟩) 0 0) gs 0 row :=
  ⟨⟨rfl, .inr ⟨w.heap.size, 0, #[], rfl, Nat.le_refl _, h.at_, by simp, by simp [maxLen], by simp, rfl⟩⟩, by omega, by omega⟩
theorem cells_of_newR {w w' : World} {v : Value} {t : TypeId} (h : New w w' (.cells #[v] t (0, 0))) : ∀ j u, [v][j]? = some u → w'.cell? ((⟨w.heap.size, 0, none⟩ : Addr).add j) = some u := by
  intro j u hu
  rw [add_none, Nat.zero_add, h.at_.at_, ← Array.getElem?_toList]
  exact hu
theorem rem_in {p s x y : Int} (hp : 0 < p) (hp5 : p ≤ 5) (hs : 0 ≤ s ∧ s < p) (hx : 0 ≤ x ∧ x < p) (hy : 0 ≤ y ∧ y < p) : IntKind.i64.wrap (x * y) = x * y ∧ IntKind.i64.wrap (s + x * y) = s + x * y ∧ (s + x * y).tmod p = (s + x * y) % p := by
  have h1 : 0 ≤ x * y := Int.mul_nonneg hx.1 hy.1
  have h2 : x * y ≤ 5 * 5 := Int.mul_le_mul (by omega) (by omega) hy.1 (by omega)
  exact ⟨IntWalk.i64_in _ (by omega), IntWalk.i64_in _ (by omega), Int.tmod_eq_emod_of_nonneg (by omega)⟩
end Go.Proofs.Ytokmchadckcilaa
