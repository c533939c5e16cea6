/-
  Lists of rows of s numbers (structs of int64), one behind the other in a block: read, owned, stored. No function of the program is named here.
-/
import Derived.Test.YtokmchadckcilaaMat1
import Derived.Test.YtokmchadckcilaaTen1
import Derived.Test.YtokmchadckcilaaSx
namespace Go.Proofs.Ytokmchadckcilaa
open Go.RowKit
set_option maxRecDepth 100000
def overI (l : List Int) (off : Nat) (r : List Int) : List Int := l.take off ++ r ++ l.drop (off + r.length)
theorem splice_iar (l r : List Int) (off : Nat) : splice (iar l) off (iar r) = iar (overI l off r) := by
  apply Array.ext'
  simp [splice, iar, i64s, overI]
theorem iar_ones (l : List Int) : ∀ v ∈ (iar l).toList, v.oneCell' = true := by
  intro v hv
  simp only [iar, i64s, List.mem_map] at hv
  obtain ⟨n, _, rfl⟩ := hv
  rfl
theorem flatK_len {α : Type} {qs : List (List α)} {s : Nat} (h : ∀ q ∈ qs, q.length = s) : qs.flatten.length = qs.length * s := by
  induction qs with
  | nil => simp
  | cons q qs ih =>
    rw [List.flatten_cons, List.length_append, h q (by simp), ih (fun x hx => h x (by simp [hx])), List.length_cons, Nat.succ_mul, Nat.add_comm]
theorem flatK_get {α : Type} {qs : List (List α)} {s : Nat} (h : ∀ q ∈ qs, q.length = s) {i j : Nat} {q : List α} (hi : qs[i]? = some q) (hj : j < s) : qs.flatten[i * s + j]? = q[j]? := by
  induction qs generalizing i with
  | nil => simp at hi
  | cons x qs ih =>
    have hx := h x (by simp)
    rw [List.flatten_cons]
    cases i with
    | zero =>
      simp only [List.getElem?_cons_zero, Option.some.injEq] at hi
      subst hi
      rw [Nat.zero_mul, Nat.zero_add, List.getElem?_append_left (by omega)]
    | succ i =>
      rw [List.getElem?_append_right (by rw [hx, Nat.succ_mul]; omega), hx, show (i + 1) * s + j - s = i * s + j by rw [Nat.succ_mul]; omega]
      exact ih (fun y hy => h y (by simp [hy])) (by simpa using hi)
theorem flatK_step {qs : List (List Int)} {s k : Nat} (h : ∀ q ∈ qs, q.length = s) {q : List Int} (hk : qs[k]? = some q) :
    overI ((qs.take k).flatten ++ List.replicate ((qs.length - k) * s) 0) (k * s) q = (qs.take (k + 1)).flatten ++ List.replicate ((qs.length - (k + 1)) * s) 0 := by
  have hlt : k < qs.length := (List.getElem?_eq_some_iff.1 hk).1
  have hq : q.length = s := h q (List.mem_of_getElem? hk)
  have ht : (qs.take k).flatten.length = k * s := by
    rw [flatK_len (fun x hx => h x (List.mem_of_mem_take hx)), List.length_take, Nat.min_eq_left (by omega)]
  have hm : qs.length - k = (qs.length - (k + 1)) + 1 := by omega
  have e1 : (qs.take (k + 1)).flatten = (qs.take k).flatten ++ q := by
    rw [List.take_add_one, hk]; simp
  unfold overI
  rw [hq, List.take_append_of_le_length (by omega), List.take_of_length_le (by omega), e1, List.drop_append, ht, List.drop_eq_nil_of_le (by omega), hm, Nat.succ_mul, show k * s + s - k * s = s by omega, List.nil_append, List.drop_replicate, Nat.add_sub_cancel]
theorem flatK_room {qs : List (List Int)} {s k : Nat} (h : ∀ q ∈ qs, q.length = s) (hk : k < qs.length) : k * s + s ≤ ((qs.take k).flatten ++ List.replicate ((qs.length - k) * s) (0 : Int)).length := by
  have ht : (qs.take k).flatten.length = k * s := by
    rw [flatK_len (fun x hx => h x (List.mem_of_mem_take hx)), List.length_take, Nat.min_eq_left (by omega)]
  have hm : qs.length - k = (qs.length - (k + 1)) + 1 := by omega
  rw [List.length_append, ht, List.length_replicate, hm, Nat.succ_mul]
  omega
theorem flatK_end {qs : List (List Int)} {s : Nat} : (qs.take qs.length).flatten ++ List.replicate ((qs.length - qs.length) * s) 0 = qs.flatten := by simp
/-- The slice value over 'A', of as many elements as 'qs', reads as the rows 'qs' of 's' numbers. -/
def RdK (s : Nat) (w : World) (A : Option Addr) (qs : List (List Int)) : Prop :=
  (∀ q ∈ qs, q.length = s) ∧ (qs = [] ∨ ∃ b off, A = some ⟨b, off, none⟩ ∧ ∀ (i : Nat) (q : List Int), qs[i]? = some q → ∀ j, j < s → w.cell? ⟨b, off + i * s + j, none⟩ = some (.int .i64 (q[j]?.getD 0)))
section
variable {s : Nat} {w w' : World} {A : Option Addr} {qs : List (List Int)}
theorem RdK.good (h : RdK s w A qs) : ∀ q ∈ qs, q.length = s := h.1
theorem RdK.at_ (h : RdK s w A qs) {i : Nat} (hi : i < qs.length) :
    ∃ b off, A = some ⟨b, off, none⟩ ∧ ∀ j, j < s → w.cell? ⟨b, off + i * s + j, none⟩ = some (.int .i64 (qs[i][j]?.getD 0)) := by
  rcases h.2 with rfl | ⟨b, off, hA, hc⟩
  · simp at hi
  · exact ⟨b, off, hA, hc i qs[i] (List.getElem?_eq_getElem hi)⟩
theorem RdK.cells {b off : Nat} (h : RdK s w (some ⟨b, off, none⟩) qs) {i : Nat} (hi : i < qs.length) : ∀ j, j < s → w.cell? ⟨b, off + i * s + j, none⟩ = some (.int .i64 (qs[i][j]?.getD 0)) := by
  obtain ⟨b', off', e, hc⟩ := h.at_ hi
  simp only [Option.some.injEq, Addr.mk.injEq, and_true] at e
  obtain ⟨rfl, rfl⟩ := e
  exact hc
theorem RdK.keep (h : RdK s w A qs) (hb : Below w.heap.size w w') : RdK s w' A qs := by
  refine ⟨h.1, ?_⟩
  rcases h.2 with h0 | ⟨b, off, hA, hc⟩
  · exact .inl h0
  · refine .inr ⟨b, off, hA, fun i q hi j hj => ?_⟩
    have := hc i q hi j hj
    rw [hb.cell (p := ⟨b, off + i * s + j, none⟩) (block_lt_of_cell this)]
    exact this
theorem RdK.of_at {g : Nat} {t : TypeId} (h : At w g (.cells (iar qs.flatten) t (0, 0))) (hq : ∀ q ∈ qs, q.length = s) : RdK s w (some ⟨g, 0, none⟩) qs := by
  refine ⟨hq, .inr ⟨g, 0, rfl, fun i q hi j hj => ?_⟩⟩
  have hlt : i < qs.length := (List.getElem?_eq_some_iff.1 hi).1
  have e := flatK_get hq hi hj
  have hb : i * s + j < qs.flatten.length := by
    rw [flatK_len hq]
    have : (i + 1) * s ≤ qs.length * s := Nat.mul_le_mul_right _ hlt
    rw [Nat.succ_mul] at this
    omega
  have hq9 : q.length = s := hq q (List.mem_of_getElem? hi)
  rw [Nat.zero_add, h.at_, iar_get hb]
  rw [List.getElem?_eq_getElem hb, List.getElem?_eq_getElem (by omega)] at e
  simp only [Option.some.injEq] at e
  rw [e]
  simp [show j < q.length by omega]
theorem RdK.none_ (s : Nat) (w : World) (A : Option Addr) : RdK s w A [] := ⟨by simp, .inl rfl⟩
theorem RdK.drew (h : RdK s w A qs) : RdK s w.drew A qs := h
end
/-- A load of as many numbers as are known one by one. -/
theorem exec_load_ints {P : Program} {o : Oper} {a : Act} {w : World} (ty : TypeId) (x : Operand) (ho : o.op = .load ty x)
    (g off : Nat) (hx : a.eval x = .pointer (some ⟨g, off, none⟩)) (l : List Int) (d : TypeDesc) (n : Nat) (hc : ∀ j, j < n → w.cell? ⟨g, off + j, none⟩ = some (.int .i64 (l[j]?.getD 0)))
    (hu : P.underlying ty = some d) (hd : (match d with | .struct _ | .array _ _ => true | _ => false) = true) (hi : (P.info? ty).map (·.size) = some n) (hn : l.length = n) :
    (execOp a.eval o).run P w = .ok (.value (.agg (iar l))) w := by
  have hl := run_loadCells_list (P := P) w ⟨g, off, none⟩ (iar l).toList (fun j v hv => by
    rw [add_none]
    have hj : j < l.length := by have := (List.getElem?_eq_some_iff.1 hv).1; simpa [iar, i64s] using this
    rw [hc j (by omega)]
    rw [Array.getElem?_toList, iar_get hj] at hv
    rw [← hv]
    simp [hj])
  rw [Array.length_toList, iar_size, hn, Array.toArray_toList] at hl
  have hagg : (isAgg ty).run P w = .ok true w := by
    unfold isAgg
    rw [Sem.run_bind, run_underlying hu w]
    cases d <;> simp_all
  cases hq : P.info? ty with
  | none => simp [hq] at hi
  | some i =>
    have hs : i.size = n := by simpa [hq] using hi
    have hr : (loadVar ty ⟨g, off, none⟩).run P w = .ok (.agg (iar l)) w := by simp [loadVar, Sem.run_bind, hagg, sizeOf, typeInfo, hq, hs, hl]
    unfold execOp
    simp only [ho, hx, Instr.loadAt, Instr.sureAddr, Sem.run_bind, Sem.run_pure, Result.andThen_ok, hr]
section
variable {P : Program} {ops : Array Oper} {rest : List Oper} {o : Oper} {a : Act} {w : World} {Q : Exit → Act → World → Prop}
theorem wpList_load_ints (hgd : o.guard = none) (ty : TypeId) (x : Operand) (ho : o.op = .load ty x)
    (g off : Nat) (hx : a.eval x = .pointer (some ⟨g, off, none⟩)) (l : List Int) (d : TypeDesc) (n : Nat) (hc : ∀ j, j < n → w.cell? ⟨g, off + j, none⟩ = some (.int .i64 (l[j]?.getD 0)))
    (hu : P.underlying ty = some d) (hd : (match d with | .struct _ | .array _ _ => true | _ => false) = true) (hi : (P.info? ty).map (·.size) = some n) (hn : l.length = n)
    (h : wpList P ops Q rest (a.put o.dst (.agg (iar l))) w) : wpList P ops Q (o :: rest) a w :=
  wpList_of_exec hgd (exec_load_ints ty x ho g off hx l d n hc hu hd hi hn) h
theorem wpList_store_iar (hgd : o.guard = none) (ty : TypeId) (x y : Operand) (ho : o.op = .store ty x y)
    (hdst : o.dst = none) (g off : Nat) (hx : a.eval x = .pointer (some ⟨g, off, none⟩)) (r : List Int) (hy : a.eval y = .agg (iar r)) (t : TypeId) (l : List Int) (hg : At w g (.cells (iar l) t (0, 0)))
    (n : Nat) (hi : (P.info? ty).map (·.size) = some n) (hn : r.length = n) (hle : off + n ≤ l.length)
    (h : ∀ w', Put w w' g (.cells (iar (overI l off r)) t (0, 0)) → wpList P ops Q rest a w') : wpList P ops Q (o :: rest) a w := by
  refine wpList_store_part hgd ty x y ho hdst g off hx (iar r) hy t (iar l) hg (by rw [iar_size, hn]; exact hi) (by rw [iar_size, iar_size, hn]; exact hle) (iar_ones r) ?_
  rw [splice_iar]
  exact h _ ⟨setRow_heap _ _ _ _ _ _ hg, fun h' hk => (setRow_other _ _ _ _ hk).trans h', fun hs => (setRow_size _ _ _).trans hs, fun hb hB => below_setRow' hb hB _⟩
theorem made_iar (s n : Nat) (hs : 0 < s) : madeCells (iar (List.replicate s 0)) (n * s) = iar (List.replicate (n * s) 0) := by
  apply Array.ext
  · simp [size_madeCells, iar_size]
  · intro i h1 h2
    rw [size_madeCells] at h1
    have hm : i % s < s := Nat.mod_lt _ hs
    simp [madeCells, iar, i64s, hm]
theorem wpList_make_iar (hg : o.guard = none) (l c : Operand) (t : TypeId) (hop : o.op = Op.makeSlice t l c) (e : TypeId) (s b : Nat)
    (ht : P.underlying t = some (.slice e)) (hi : (P.info? e).map (fun i => (i.zero, i.size, i.bytes)) = some (some (.agg (iar (List.replicate s 0))), s, b)) (hs : 0 < s)
    (n : Nat) (hl : a.eval l = .int .i64 n) (hc : a.eval c = .int .i64 n) (hb : b * n ≤ 281474976710656) (h63 : n ≤ 9223372036854775807)
    (h : ∀ w', New w w' (.cells (iar (List.replicate (n * s) 0)) e (0, 0)) → wpList P ops Q rest (a.put o.dst (.slice (some ⟨w.heap.size, 0, none⟩) n n)) w') : wpList P ops Q (o :: rest) a w := by
  obtain ⟨i, hi0, hz, h1, h2⟩ := info_parts hi
  refine wpList_plain hg fun K hK => ?_
  have hr := run_make (P := P) w t e i _ ht hi0 hz .i64 .i64 n n (by omega) (Int.le_refl _) (by rw [h2]; omega) (by omega)
  simp only [Int.toNat_natCast, h1, Value.cells, made_iar s n hs] at hr
  unfold Oper.wp
  simp [execOp, hop, hl, hc, hr, Result.andThen]
  exact hK _ _ (h _ (New.alloc _ _))
end
/-- A store of a mark. -/
theorem wpList_store_mark {P : Program} {ops : Array Oper} {rest : List Oper} {o : Oper} {a : Act} {w w0 : World} {Q : Exit → Act → World → Prop} (hgd : o.guard = none) (ty : TypeId) (x y : Operand) (ho : o.op = .store ty x y) (hdst : o.dst = none) (g N : Nat) (hx : a.eval x = .pointer (some ⟨g, N, none⟩)) (k : Nat) (v : Value) (hy : a.eval y = v) (hv : v = markVI k N)
    (cs : Array Value) (t : TypeId) (h : At w g (.cells (markCI cs k N) t (0, 0))) (hN : N < cs.size) (hG : w0.grownBy w (some g)) (hi : (P.info? ty).map (·.size) = some 1)
    (hK : ∀ w', At w' g (.cells (markCI cs k (N + 1)) t (0, 0)) → w0.grownBy w' (some g) → wpList P ops Q rest a w') : wpList P ops Q (o :: rest) a w := by
  subst hv
  have hs : N < (markCI cs k N).size := by rw [markCI_size (by omega)]; exact hN
  refine wpList_plain hgd fun _ hK' => ?_
  unfold Oper.wp execOp
  simp only [ho, hx, hy, Instr.storeAt, Instr.sureAddr, Sem.run_bind, Sem.run_pure, Result.andThen_ok, run_storeVar_one w g N t ty _ (markVI k N) rfl rfl h hi hs]
  simp only [Oper.upon, hdst, Act.put]
  rw [splice_one hs, markCI_step hN]
  refine hK' _ _ (hK _ (setRow_heap _ _ _ _ _ _ h) ?_)
  refine ⟨hG.os, hG.tape, hG.output, by rw [setRow_size]; exact hG.size, fun k hk hne => ?_⟩
  rw [setRow_other _ _ _ _ (fun e => hne (by rw [e]))]
  exact hG.block k hk hne
/-- A list of rows in memory of its own. -/
def OwnK (t : TypeId) (s : Nat) (w : World) (lo : Nat) (v : Value) (qs : List (List Int)) : Prop := (∀ q ∈ qs, q.length = s) ∧ w.ownsRow lo t s v qs.length (i64s qs.flatten)
section
variable {t : TypeId} {s : Nat} {w w' : World} {lo : Nat} {v : Value} {qs : List (List Int)}
theorem OwnK.good (h : OwnK t s w lo v qs) : ∀ q ∈ qs, q.length = s := h.1
theorem OwnK.shp (h : OwnK t s w lo v qs) : Shp v qs.length := by
  rcases h.2.2 with ⟨hv, hn⟩ | ⟨g, cap, cur, hv, _⟩
  · exact .inl ⟨hv, hn⟩
  · exact .inr ⟨g, cap, hv⟩
theorem OwnK.lt (h : OwnK t s w lo v qs) {g : Nat} (hg : v.ownBlock = some g) : lo ≤ g ∧ g < w.heap.size := by
  rcases h.2.2 with ⟨rfl, _⟩ | ⟨g', cap, cur, rfl, hb, hgg, _⟩
  · cases hg
  · simp only [Value.ownBlock, Option.some.injEq] at hg
    subst hg
    exact ⟨hb, (Array.getElem?_eq_some_iff.1 hgg).1⟩
theorem OwnK.below (h : OwnK t s w lo v qs) (hb : Below w.heap.size w w') : OwnK t s w' lo v qs :=
  ⟨h.1, World.ownsRow.kept (row := none) h.2 ⟨hb.os, hb.tape, hb.output, hb.size, fun k hk _ => hb.block k hk⟩ (by
    rcases hv : v.ownBlock with _ | g
    · exact .inl rfl
    · exact .inr (by simp))⟩
theorem OwnK.drew (h : OwnK t s w lo v qs) : OwnK t s w.drew lo v qs := h
theorem OwnK.grown {r : Option Nat} (h : OwnK t s w lo v qs) (hb : w.grownBy w' r) (hne : v.ownBlock = none ∨ v.ownBlock ≠ r) : OwnK t s w' lo v qs :=
  ⟨h.1, World.ownsRow.kept h.2 hb hne⟩
theorem OwnK.mono {lo' : Nat} (h : OwnK t s w lo v qs) (hl : lo' ≤ lo) : OwnK t s w lo' v qs := by
  refine ⟨h.1, h.2.1, ?_⟩
  rcases h.2.2 with hn | ⟨g, cap, cur, hv, hb, rest⟩
  · exact .inl hn
  · exact .inr ⟨g, cap, cur, hv, Nat.le_trans hl hb, rest⟩
theorem OwnK.rd (h : OwnK t s w lo v qs) : ∃ A c, v = .slice A qs.length c ∧ RdK s w A qs := by
  rcases h.2.2 with ⟨rfl, h0⟩ | ⟨g, cap, cur, rfl, hb, hgg, hle, hcap, hsz, ht⟩
  · have : qs = [] := List.length_eq_zero_iff.1 h0
    subst this
    exact ⟨none, 0, rfl, RdK.none_ _ _ _⟩
  · refine ⟨_, _, rfl, h.1, .inr ⟨g, 0, rfl, fun i q hi j hj => ?_⟩⟩
    have hlt : i < qs.length := (List.getElem?_eq_some_iff.1 hi).1
    have e := flatK_get h.1 hi hj
    have hb : i * s + j < qs.flatten.length := by
      rw [flatK_len h.1]
      have : (i + 1) * s ≤ qs.length * s := Nat.mul_le_mul_right _ hlt
      rw [Nat.succ_mul] at this
      omega
    have hq9 : q.length = s := h.1 q (List.mem_of_getElem? hi)
    have hA : At w g (.cells cur t (0, 0)) := hgg
    rw [hA.at_, Nat.zero_add, ← Array.getElem?_toList]
    have h1 : (cur.toList.take (qs.length * s))[i * s + j]? = (i64s qs.flatten)[i * s + j]? := by rw [ht]
    rw [List.getElem?_take, if_pos (by rw [← flatK_len h.1]; exact hb)] at h1
    rw [h1]
    simp only [i64s, List.getElem?_map, e]
    simp [show j < q.length by omega]
theorem OwnK.rd' {A : Option Addr} {c n : Nat} (h : OwnK t s w lo (.slice A n c) qs) : RdK s w A qs := by
  obtain ⟨A', c', e, hr⟩ := h.rd
  simp only [Value.slice.injEq] at e
  rw [e.1]
  exact hr
theorem OwnK.of_at {g : Nat} (h : At w g (.cells (iar qs.flatten) t (0, 0))) (hq : ∀ q ∈ qs, q.length = s) (hl : lo ≤ g) (hn : qs.length ≤ 1048576) : OwnK t s w lo (.slice (some ⟨g, 0, none⟩) qs.length qs.length) qs := by
  refine ⟨hq, by rw [i64s_len, flatK_len hq], .inr ⟨g, qs.length, iar qs.flatten, rfl, hl, h, Nat.le_refl _, by unfold maxLen; omega, by rw [iar_size, flatK_len hq], ?_⟩⟩
  rw [List.take_of_length_le (by rw [Array.length_toList, iar_size, flatK_len hq]; exact Nat.le_refl _)]
  simp [iar]
theorem OwnK.inn (h : OwnK t s w lo v qs) : In lo w.heap.size v := fun _ hg => h.lt hg
theorem OwnK.same {hi lo' hi' : Nat} (h : OwnK t s w lo v qs) (i : In lo hi v) (hs : Same lo' hi' w w') (hd : hi ≤ lo' ∨ hi' ≤ lo) : OwnK t s w' lo v qs := ⟨h.1, kept_same (w := w) h.2 i hs hd⟩
theorem OwnK.off {g : Nat} {cs : Array Value} {t' : TypeId} (h : OwnK t s w lo v qs) (hg : At w g (.cells cs t' (0, 0))) (ht : t' ≠ t) : some g ≠ v.ownBlock := fun e => by
  rcases h.2.2 with ⟨rfl, _⟩ | ⟨g', cap, cur, rfl, hb, hgg, _⟩
  · cases e
  · simp only [Value.ownBlock, Option.some.injEq] at e
    subst e
    have h1 : some (Obj.cells cs t' (0, 0)) = some (Obj.cells cur t (0, 0)) := hg.symm.trans hgg
    simp only [Option.some.injEq, Obj.cells.injEq] at h1
    exact ht h1.2.1
theorem OwnK.put {g : Nat} {o : Obj} (h : OwnK t s w lo v qs) (hp : Put w w' g o) (hne : some g ≠ v.ownBlock) : OwnK t s w' lo v qs := by
  refine ⟨h.1, h.2.1, ?_⟩
  rcases h.2.2 with hn | ⟨g2, cap, cur, rfl, hb, hgg, rest⟩
  · exact .inl hn
  · exact .inr ⟨g2, cap, cur, rfl, hb, hp.other (k := g2) hgg (fun e => hne (by simp [Value.ownBlock, e])), rest⟩
theorem OwnK.nil (t : TypeId) (s : Nat) (w : World) (lo : Nat) : OwnK t s w lo (.slice none 0 0) [] := ⟨by simp, World.ownsRow_nil _ _ _ _⟩
theorem OwnK.away_new (h : OwnK t s w lo v qs) : some w.heap.size ≠ v.ownBlock := fun e => by
  have h2 := (h.lt e.symm).2
  omega
theorem OwnK.ne_lt {g : Nat} (h : OwnK t s w lo v qs) (hg : g < lo) : some g ≠ v.ownBlock := fun e => by
  have := (h.lt e.symm).1
  omega
end
end Go.Proofs.Ytokmchadckcilaa
