/-
  For the laws' walks: boxes, marks of schemes, what a world keeps behind them, told by the intervals of blocks.
-/
import Derived.Test.YtelicajipilhjaaApp
import Derived.Test.YtelicajipilhjaaEx
import Derived.Deep.CutRange
namespace Go.Proofs.Ytelicajipilhjaa
open Go.RowKit
set_option maxRecDepth 100000
theorem call_toScheme (args : Array Value) (w : World) : (callFunc 10 args).run Try.prog w = .ok (.enter 10 args) w := by kernel_rfl
theorem call_eqScheme (args : Array Value) (w : World) : (callFunc 12 args).run Try.prog w = .ok (.enter 12 args) w := by kernel_rfl
theorem wp_call2 {P : Program} {Q : Exit → Act → World → Prop} {o : Oper} {a : Act} {w : World} {K : Act → World → Prop} (d : Option Tmp) (hd : o.dst = d) (f : Nat) (x y : Operand) (ts : Array TypeId) (ho : o.op = .call { callee := .value (.func f), args := #[x, y], argTypes := ts }) (hcall : ∀ args w, (callFunc f args).run P w = .ok (.enter f args) w)
    (v1 v2 : Value) (hx : a.eval x = v1) (hy : a.eval y = v2) (post : Ending → World → Prop) (hc : Calls P f #[v1, v2] w post) (h : ∀ e w', post e w' → ∃ v, e = .returned v ∧ K (a.put d v) w') : Oper.wp P o a w K Q :=
  wp_call d hd f #[x, y] ts ho hcall #[v1, v2] (by simp [hx, hy]) post hc h
theorem exec_not {P : Program} {o : Oper} {a : Act} {w : World} (t : TypeId) (x : Operand) (ho : o.op = .unOp .not t x) (b : Bool) (hx : a.eval x = .bool b) : (execOp a.eval o).run P w = .ok (.value (.bool (!b))) w := by
  unfold execOp
  simp only [ho, hx]
  simp [go_sem]
theorem exec_extract {P : Program} {o : Oper} {a : Act} {w : World} (x : Operand) (i : Nat) (ho : o.op = .extract x i) (vs : Array Value) (hx : a.eval x = .tuple vs) (v : Value) (hi : vs[i]? = some v) : (execOp a.eval o).run P w = .ok (.value v) w := by
  unfold execOp
  simp only [ho, hx]
  simp [go_sem, hi]
theorem exec_assign {P : Program} {o : Oper} {a : Act} {w : World} (x : Operand) (ho : o.op = .assign x) (v : Value) (hx : a.eval x = v) : (execOp a.eval o).run P w = .ok (.value v) w := by
  unfold execOp
  simp only [ho, hx]
  simp [go_sem]
theorem exec_alloc_scheme {o : Oper} {a : Act} {w : World} (ho : o.op = .alloc 28) : (execOp a.eval o).run Try.prog w = .ok (.value (.pointer (some ⟨w.heap.size, 0, none⟩))) (w.alloc (.cells #[.int .i64 0, .int .i64 0, .int .i64 0, .int .i64 0, .slice none 0 0] 28 (0, 0))) := by
  unfold execOp
  rw [ho]
  kernel_rfl
theorem wp_new {P : Program} {o : Oper} {a : Act} {w : World} {K : Act → World → Prop} {Q : Exit → Act → World → Prop} {v : Value} {ob : Obj} (d : Option Tmp) (hd : o.dst = d) (he : (execOp a.eval o).run P w = .ok (.value v) (w.alloc ob)) (h : ∀ w', New w w' ob → K (a.put d v) w') : Oper.wp P o a w K Q :=
  wp_exec d hd v he (h _ (New.alloc _ _))
/-- A store of a whole aggregate. -/
theorem wp_store_all {P : Program} {o : Oper} {a : Act} {w : World} {K : Act → World → Prop} {Q : Exit → Act → World → Prop} (ty : TypeId) (x y : Operand) (ho : o.op = .store ty x y) (hdst : o.dst = none) (g : Nat) (hx : a.eval x = .pointer (some ⟨g, 0, none⟩)) (vs : Array Value) (hy : a.eval y = .agg vs)
    (t : TypeId) (cs : Array Value) (hg : At w g (.cells cs t (0, 0))) (n : Nat) (hi : (P.info? ty).map (·.size) = some n) (hn : vs.size = n) (hl : cs.size = n) (h1 : ∀ v ∈ vs.toList, v.oneCell' = true)
    (h : ∀ w', Put w w' g (.cells vs t (0, 0)) → K a w') : Oper.wp P o a w K Q := by
  have hs := run_storeVar_part (P := P) w g 0 t ty cs vs hg (by rw [hn]; exact hi) (by omega) h1
  rw [splice_all (by omega)] at hs
  unfold Oper.wp execOp
  simp only [ho, hx, hy, Instr.storeAt, Instr.sureAddr, Sem.run_bind, Sem.run_pure, Result.andThen_ok, hs]
  simp only [Oper.upon, hdst, Act.put]
  exact h _ ⟨setRow_heap _ _ _ _ _ _ hg, fun h' hk => (setRow_other _ _ _ _ hk).trans h', fun hs => (setRow_size _ _ _).trans hs, fun hb hB => below_setRow' hb hB _⟩
theorem one5 (p n m k : Int) (A : Option Addr) (l c : Nat) : ∀ v ∈ (#[.int .i64 p, .int .i64 n, .int .i64 m, .int .i64 k, .slice A l c] : Array Value).toList, v.oneCell' = true := by
  intro x hx
  simp at hx
  rcases hx with rfl | rfl | rfl | rfl | rfl <;> rfl
/-- The arguments' boxes: what was there at first; the scheme's box; the further box. -/
structure KA (w : World) (bs : List (Nat × Obj)) (wr : World) : Prop where
  below : Below w.heap.size w wr
  box : ∀ b ∈ bs, At wr b.1 b.2
section
variable {w wr w2 : World} {bs : List (Nat × Obj)}
theorem KA.after (h : KA w bs wr) (hb : Below wr.heap.size wr w2) : KA w bs w2 := ⟨below_after h.below hb, fun b hm => (h.box b hm).after hb⟩
theorem KA.drew (h : KA w bs wr) : KA w bs wr.drew := ⟨h.below.drew, h.box⟩
theorem KA.put (h : KA w bs wr) {g : Nat} {o : Obj} (hp : Put wr w2 g o) (hg : w.heap.size ≤ g) (hne : ∀ b ∈ bs, b.1 ≠ g) : KA w bs w2 := ⟨hp.below h.below hg, fun b hm => hp.other (h.box b hm) (hne b hm)⟩
theorem KA.lt (h : KA w bs wr) : ∀ b ∈ bs, b.1 < wr.heap.size := fun b hm => (h.box b hm).lt
theorem KA.more (h : KA w bs wr) {g : Nat} {o : Obj} (hg : At wr g o) : KA w ((g, o) :: bs) wr := ⟨h.below, fun b hm => by
  rcases List.mem_cons.1 hm with rfl | hm
  · exact hg
  · exact h.box b hm⟩
theorem KA.grown (h : KA w bs wr) {lo : Nat} {v : Value} {rs : List (List Nat)} (ho : Own wr lo v rs) (hl : w.heap.size ≤ lo) (hG : wr.grownBy w2 v.ownBlock) (hne : ∀ b ∈ bs, ∃ cs t, b.2 = .cells cs t (0, 0) ∧ t ≠ 49) : KA w bs w2 :=
  ⟨below_grown h.below hG ho hl, fun b hm => by
    obtain ⟨cs, t, e, ht⟩ := hne b hm
    have hb := h.box b hm
    rw [e] at hb ⊢
    exact hb.grown hG (ho.off hb ht)⟩
end
theorem own_symm {a b : Option Nat} (h : a = none ∨ a ≠ b) : b = none ∨ b ≠ a := by
  rcases h with rfl | h
  · rcases b with _ | b
    · exact .inl rfl
    · exact .inr (by simp)
  · exact .inr (Ne.symm h)
/-- The slice's block, where it has one, is there. -/
def Blk (w : World) (v : Value) : Prop := ∀ g, v.ownBlock = some g → g < w.heap.size
theorem Blk.after {w w' : World} {v : Value} (h : Blk w v) (hb : Below w.heap.size w w') : Blk w' v := fun g hg => Nat.lt_of_lt_of_le (h g hg) hb.size
theorem Blk.of {w w' : World} {lo : Nat} {v : Value} {qs : List (List Nat)} {r : Option Nat} (h : Own w lo v qs) (hG : w.grownBy w' r) : Blk w' v := fun _ hg => Nat.lt_of_lt_of_le (h.lt hg).2 hG.size
theorem Blk.ne {w : World} {v : Value} (h : Blk w v) : some w.heap.size ≠ v.ownBlock := fun e => by
  have := h _ e.symm
  omega
theorem Held.put {w w' : World} {v : Value} {k n g : Nat} {o : Obj} (h : Held w v k n) (hp : Put w w' g o) (hne : some g ≠ v.ownBlock) : Held w' v k n := fun g' hg i hi => by
  have hc := h g' hg i hi
  have hlt := block_lt_of_cell hc
  have hat : At w g' (w.heap[g']) := Array.getElem?_eq_getElem hlt
  have hat' := hp.other hat (fun e => hne (by rw [← e, hg]))
  rw [World.cell?_of_block (a := ⟨g', i, none⟩) (w := w) (show w'.heap[g']? = w.heap[g']? by rw [hat', hat])]
  exact hc
theorem call_toProduct (args : Array Value) (w : World) : (callFunc 43 args).run Try.prog w = .ok (.enter 43 args) w := by kernel_rfl
/-- Only blocks of a range may have changed. -/
structure Same (lo hi : Nat) (w w' : World) : Prop where
  os : w'.os = w.os
  tape : w'.tape = w.tape
  output : w'.output = w.output
  size : w.heap.size ≤ w'.heap.size
  block : ∀ k, k < w.heap.size → k < lo ∨ hi ≤ k → w'.heap[k]? = w.heap[k]?
section
variable {w w' w'' w0 : World} {lo hi lo' hi' g k b n : Nat}
theorem Below.same (hb : Below w.heap.size w w') (lo hi : Nat) : Same lo hi w w' := ⟨hb.os, hb.tape, hb.output, hb.size, fun k hk _ => hb.block k hk⟩
theorem Same.refl (lo hi : Nat) (w : World) : Same lo hi w w := ⟨rfl, rfl, rfl, Nat.le_refl _, fun _ _ _ => rfl⟩
theorem Same.trans (h : Same lo hi w w') (h' : Same lo hi w' w'') : Same lo hi w w'' :=
  ⟨h'.os.trans h.os, h'.tape.trans h.tape, h'.output.trans h.output, Nat.le_trans h.size h'.size, fun k hk hd => (h'.block k (Nat.lt_of_lt_of_le hk h.size) hd).trans (h.block k hk hd)⟩
theorem Same.of_grown (h : w.grownBy w' (some g)) (hg : lo ≤ g ∧ g < hi) : Same lo hi w w' :=
  ⟨h.os, h.tape, h.output, h.size, fun k hk hd => h.block k hk (fun e => by simp only [Option.some.injEq] at e; omega)⟩
theorem Below.of_same (hb : Below w0.heap.size w0 w) (h : Same lo hi w w') (hl : w0.heap.size ≤ lo) : Below w0.heap.size w0 w' :=
  hb.trans ⟨h.os, h.tape, h.output, h.size, fun k hk => h.block k (Nat.lt_of_lt_of_le hk hb.size) (by omega)⟩
end
/-- The slice's block, where it has one, lies in this interval. -/
def In (lo hi : Nat) (v : Value) : Prop := ∀ g, v.ownBlock = some g → lo ≤ g ∧ g < hi
theorem Own.inn {w : World} {lo : Nat} {v : Value} {qs : List (List Nat)} (h : Own w lo v qs) : In lo w.heap.size v := fun _ hg => h.lt hg
theorem Same.of_in {w w' : World} {lo hi : Nat} {v : Value} (h : w.grownBy w' v.ownBlock) (i : In lo hi v) : Same lo hi w w' :=
  ⟨h.os, h.tape, h.output, h.size, fun k hk hd => h.block k hk fun e => by have := i k e.symm; omega⟩
theorem Same.mono {w w' : World} {lo hi lo' hi' : Nat} (h : Same lo hi w w') (h1 : lo' ≤ lo) (h2 : hi ≤ hi') : Same lo' hi' w w' :=
  ⟨h.os, h.tape, h.output, h.size, fun k hk hd => h.block k hk (by omega)⟩
theorem At.same {w w' : World} {g lo hi : Nat} {o : Obj} (h : At w g o) (hs : Same lo hi w w') (hd : g < lo ∨ hi ≤ g) : At w' g o := (hs.block g h.lt hd).trans h
theorem kept_same {w w' : World} {lo lo' hi' : Nat} {e : TypeId} {size : Nat} {v : Value} {n : Nat} {xs : List Value} {hi : Nat} (h : w.ownsRow lo e size v n xs) (i : In lo hi v) (hs : Same lo' hi' w w') (hd : hi ≤ lo' ∨ hi' ≤ lo) : w'.ownsRow lo e size v n xs := by
  refine ⟨h.1, ?_⟩
  rcases h.2 with h0 | ⟨g, cap, cur, rfl, hb, hgg, rest⟩
  · exact .inl h0
  · refine .inr ⟨g, cap, cur, rfl, hb, ?_, rest⟩
    have hi := i g rfl
    exact (hs.block g (Array.getElem?_eq_some_iff.1 hgg).1 (by omega)).trans hgg
theorem Own.same {w w' : World} {lo hi lo' hi' : Nat} {v : Value} {qs : List (List Nat)} (h : Own w lo v qs) (i : In lo hi v) (hs : Same lo' hi' w w') (hd : hi ≤ lo' ∨ hi' ≤ lo) : Own w' lo v qs := kept_same (w := w) h i hs hd
theorem cell_same {w w' : World} {g i lo hi : Nat} {v : Value} (h : w.cell? ⟨g, i, none⟩ = some v) (hs : Same lo hi w w') (hd : g < lo ∨ hi ≤ g) : w'.cell? ⟨g, i, none⟩ = some v := by
  rw [World.cell?_of_block (a := ⟨g, i, none⟩) (w := w) (show w'.heap[g]? = w.heap[g]? from hs.block g (block_lt_of_cell h) hd)]
  exact h
theorem Held.same {w w' : World} {lo hi lo' hi' k n : Nat} {v : Value} (h : Held w v k n) (i : In lo hi v) (hs : Same lo' hi' w w') (hd : hi ≤ lo' ∨ hi' ≤ lo) : Held w' v k n := fun g hg j hj =>
  cell_same (h g hg j hj) hs (by have := i g hg; omega)
theorem KA.same {w wr w2 : World} {bs : List (Nat × Obj)} {lo hi : Nat} (h : KA w bs wr) (hs : Same lo hi wr w2) (hl : w.heap.size ≤ lo) (hd : ∀ b ∈ bs, b.1 < lo ∨ hi ≤ b.1) : KA w bs w2 :=
  ⟨Below.of_same h.below hs hl, fun b hm => (h.box b hm).same hs (hd b hm)⟩
def SzN (n : Nat) (l r : Int) : Prop := r = -1 ∨ (0 ≤ r ∧ r + n = l)
theorem szScheme_e (p n m k : Int) (A : Option Addr) (len c : Nat) (l : Int) (w : World) (h0 : 0 ≤ l) (hn : len ≤ 9223372036854775807) (hl : l ≤ 1048576) :
    Calls Try.prog 8 #[.agg #[.int .i64 p, .int .i64 n, .int .i64 m, .int .i64 k, .slice A len c], .int .i64 l] w fun e w' => ∃ r, e = .returned (.int .i64 r) ∧ SzN len l r ∧ Below w.heap.size w w' := by
  refine (szScheme_c p n m k A len c l w h0 hn hl).mono ?_
  rintro e w' ⟨rfl, hb⟩
  refine ⟨_, rfl, ?_, hb⟩
  by_cases h : l < len
  · rw [if_pos h]; exact .inl rfl
  · rw [if_neg h]; exact .inr ⟨by omega, by omega⟩
theorem markScheme_2 (p n m k : Int) {lo : Nat} {v : Value} {qs : List (List Nat)} (K : Nat) (kk : Int) (w : World) (hk' : kk = (K : Int)) (h : Own w lo v qs) (hn : qs.length ≤ 1048576) (hk : K ≤ 1000000000) :
    Calls Try.prog 13 #[.agg #[.int .i64 p, .int .i64 n, .int .i64 m, .int .i64 k, v], .int .i64 kk] w
      fun e w' => e = .returned (.int .i64 ((K + qs.length * 27 : Nat) : Int)) ∧ w.grownBy w' v.ownBlock ∧ Held w' v K qs.length := by
  subst hk'
  exact markScheme_c p n m k K w h hn (by omega)
theorem size_after {w w' : World} {n : Nat} (h : n ≤ w.heap.size) (hb : Below w.heap.size w w') : n ≤ w'.heap.size := Nat.le_trans h hb.size
theorem Own.nil (w : World) (lo : Nat) : Own w lo (.slice none 0 0) [] := World.ownsRow_nil _ _ _ _
/-- Two results, the first in block 'g'. -/
theorem results_at2 {P : Program} {fn : Func} {p q : Tmp} {ty : TypeId} (h : fn.results = #[.cell p ty, .tmp q]) (tmps : Array Value) (w : World) (g : Nat) (t : TypeId) (cs : Array Value) (d : TypeDesc)
    (hp : tmps.getD p undef = .pointer (some ⟨g, 0, none⟩)) (v : Value) (hv : tmps.getD q undef = v) (hg : At w g (.cells cs t (0, 0)))
    (hu : P.underlying ty = some d) (hd : (match d with | .struct _ | .array _ _ => true | _ => false) = true) (n : Nat) (hi : (P.info? ty).map (·.size) = some n) (hn : cs.size = n) :
    (results fn tmps).run P w = .ok (.tuple #[.agg cs, v]) w := by
  have hp' : tmps[p]?.getD undef = .pointer (some ⟨g, 0, none⟩) := by simpa using hp
  have hv' : tmps[q]?.getD undef = v := by simpa using hv
  simp [results, h, hp', hv', asAddr, run_loadVar_row w g t ty cs (0, 0) d hg hu hd (by rw [hn]; exact hi)]
theorem mul_le9 {a K : Nat} (hK : K ≤ 3) (ha : a < 3) : a * K ≤ 6 := by
  have h : a * K ≤ 2 * K := Nat.mul_le_mul_right _ (by omega)
  omega
end Go.Proofs.Ytelicajipilhjaa
