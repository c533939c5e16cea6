/-
  For the laws' walks: operations that give a result its box; what is left behind them.
-/
import Derived.Test.YtgccdmeagkmhiaaLawKit
import Derived.Test.YtgccdmeagkmhiaaStd4
import Derived.Deep.CutRange
namespace Go.Proofs.Ytgccdmeagkmhiaa
open Go.RowKit
set_option maxRecDepth 100000
theorem exec_extract {P : Program} {o : Oper} {a : Act} {w : World} (x : Operand) (i : Nat) (ho : o.op = .extract x i) (vs : Array Value) (hx : a.eval x = .tuple vs) (v : Value) (hi : vs[i]? = some v) : (execOp a.eval o).run P w = .ok (.value v) w := by
  unfold execOp
  simp only [ho, hx]
  simp [go_sem, hi]
theorem exec_assign {P : Program} {o : Oper} {a : Act} {w : World} (x : Operand) (ho : o.op = .assign x) (v : Value) (hx : a.eval x = v) : (execOp a.eval o).run P w = .ok (.value v) w := by
  unfold execOp
  simp only [ho, hx]
  simp [go_sem]
theorem exec_alloc_scheme {o : Oper} {a : Act} {w : World} (ho : o.op = .alloc 29) : (execOp a.eval o).run Try.prog w = .ok (.value (.pointer (some ⟨w.heap.size, 0, none⟩))) (w.alloc (.cells #[.int .i64 0, .int .i64 0, .int .i64 0, .int .i64 0, .slice none 0 0] 29 (0, 0))) := by
  unfold execOp
  rw [ho]
  kernel_rfl
theorem wp_new {P : Program} {o : Oper} {a : Act} {w : World} {K : Act → World → Prop} {Q : Exit → Act → World → Prop} {v : Value} {ob : Obj} (d : Option Tmp) (hd : o.dst = d) (he : (execOp a.eval o).run P w = .ok (.value v) (w.alloc ob)) (h : ∀ w', New w w' ob → K (a.put d v) w') : Oper.wp P o a w K Q :=
  wp_exec d hd v he (h _ (New.alloc _ _))
/-- A store of a whole aggregate. -/
theorem wp_store_all {P : Program} {o : Oper} {a : Act} {w : World} {K : Act → World → Prop} {Q : Exit → Act → World → Prop} (ty : TypeId) (x y : Operand) (ho : o.op = .store ty x y) (hdst : o.dst = none) (g : Nat) (hx : a.eval x = .pointer (some ⟨g, 0, none⟩)) (vs : Array Value) (hy : a.eval y = .agg vs)
    (t : TypeId) (cs : Array Value) (hg : At w g (.cells cs t (0, 0))) (n : Nat) (hi : (P.info? ty).map (·.size) = some n) (hn : vs.size = n) (hl : cs.size = n) (h1 : ∀ v ∈ vs.toList, v.oneCell' = true)
    (h : ∀ w', Put w w' g (.cells vs t (0, 0)) → K a w') : Oper.wp P o a w K Q := by
  have hs := run_storeVar_part (P := P) w g 0 t ty cs vs hg (by rw [hn]; exact hi) (by omega) h1
  rw [splice_all (by omega)] at hs
  unfold Oper.wp execOp
  simp only [ho, hx, hy, Instr.storeAt, Instr.sureAddr, Sem.run_bind, Sem.run_pure, Result.andThen_ok, hs]
  simp only [Oper.upon, hdst, Act.put]
  exact h _ ⟨setRow_heap _ _ _ _ _ _ hg, fun h' hk => (setRow_other _ _ _ _ hk).trans h', fun hs => (setRow_size _ _ _).trans hs, fun hb hB => below_setRow' hb hB _⟩
theorem one5 (p n m k : Int) (A : Option Addr) (l c : Nat) : ∀ v ∈ (#[.int .i64 p, .int .i64 n, .int .i64 m, .int .i64 k, .slice A l c] : Array Value).toList, v.oneCell' = true := by
  intro x hx
  simp at hx
  rcases hx with rfl | rfl | rfl | rfl | rfl <;> rfl
/-- The arguments' boxes: what was there at first; the scheme's box; the further box. -/
structure KA (w : World) (bs : List (Nat × Obj)) (wr : World) : Prop where
  below : Below w.heap.size w wr
  box : ∀ b ∈ bs, At wr b.1 b.2
section
variable {w wr w2 : World} {bs : List (Nat × Obj)}
theorem KA.after (h : KA w bs wr) (hb : Below wr.heap.size wr w2) : KA w bs w2 := ⟨below_after h.below hb, fun b hm => (h.box b hm).after hb⟩
theorem KA.drew (h : KA w bs wr) : KA w bs wr.drew := ⟨h.below.drew, h.box⟩
theorem KA.put (h : KA w bs wr) {g : Nat} {o : Obj} (hp : Put wr w2 g o) (hg : w.heap.size ≤ g) (hne : ∀ b ∈ bs, b.1 ≠ g) : KA w bs w2 := ⟨hp.below h.below hg, fun b hm => hp.other (h.box b hm) (hne b hm)⟩
theorem KA.lt (h : KA w bs wr) : ∀ b ∈ bs, b.1 < wr.heap.size := fun b hm => (h.box b hm).lt
theorem KA.more (h : KA w bs wr) {g : Nat} {o : Obj} (hg : At wr g o) : KA w ((g, o) :: bs) wr := ⟨h.below, fun b hm => by
  rcases List.mem_cons.1 hm with rfl | hm
  · exact hg
  · exact h.box b hm⟩
theorem KA.grown (h : KA w bs wr) {lo : Nat} {v : Value} {rs : List (List Nat)} (ho : Own wr lo v rs) (hl : w.heap.size ≤ lo) (hG : wr.grownBy w2 v.ownBlock) (hne : ∀ b ∈ bs, ∃ cs t, b.2 = .cells cs t (0, 0) ∧ t ≠ 63) : KA w bs w2 :=
  ⟨below_grown h.below hG ho hl, fun b hm => by
    obtain ⟨cs, t, e, ht⟩ := hne b hm
    have hb := h.box b hm
    rw [e] at hb ⊢
    exact hb.grown hG (ho.off hb ht)⟩
end
theorem own_symm {a b : Option Nat} (h : a = none ∨ a ≠ b) : b = none ∨ b ≠ a := by
  rcases h with rfl | h
  · rcases b with _ | b
    · exact .inl rfl
    · exact .inr (by simp)
  · exact .inr (Ne.symm h)
/-- The slice's block, where it has one, is there. -/
def Blk (w : World) (v : Value) : Prop := ∀ g, v.ownBlock = some g → g < w.heap.size
theorem Blk.after {w w' : World} {v : Value} (h : Blk w v) (hb : Below w.heap.size w w') : Blk w' v := fun g hg => Nat.lt_of_lt_of_le (h g hg) hb.size
theorem Blk.of {w w' : World} {lo : Nat} {v : Value} {qs : List (List Nat)} {r : Option Nat} (h : Own w lo v qs) (hG : w.grownBy w' r) : Blk w' v := fun _ hg => Nat.lt_of_lt_of_le (h.lt hg).2 hG.size
theorem Blk.ne {w : World} {v : Value} (h : Blk w v) : some w.heap.size ≠ v.ownBlock := fun e => by
  have := h _ e.symm
  omega
theorem Held.put {w w' : World} {v : Value} {k n g : Nat} {o : Obj} (h : Held w v k n) (hp : Put w w' g o) (hne : some g ≠ v.ownBlock) : Held w' v k n := fun g' hg i hi => by
  have hc := h g' hg i hi
  have hlt := block_lt_of_cell hc
  have hat : At w g' (w.heap[g']) := Array.getElem?_eq_getElem hlt
  have hat' := hp.other hat (fun e => hne (by rw [← e, hg]))
  rw [World.cell?_of_block (a := ⟨g', i, none⟩) (w := w) (show w'.heap[g']? = w.heap[g']? by rw [hat', hat])]
  exact hc
theorem call_toProduct (args : Array Value) (w : World) : (callFunc 47 args).run Try.prog w = .ok (.enter 47 args) w := by kernel_rfl
end Go.Proofs.Ytgccdmeagkmhiaa
