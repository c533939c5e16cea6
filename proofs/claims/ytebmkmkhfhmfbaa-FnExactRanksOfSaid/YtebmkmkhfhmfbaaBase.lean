/-
  Lists of bytes as cells; loads and stores of a part of a block; what a world keeps. No function of the program is named here.
-/
import Derived.WalkKit
import Derived.Handy
import Derived.Laws.CopyRow
import Derived.Laws.Rows
import Derived.Lib.Hide
import Derived.BigQuiet
import Derived.Deep.QuietTactic
import Derived.WalkLawsBesides
import Derived.WalkSpells
import Derived.StillTailTactics
namespace Go.Proofs.Ytebmkmkhfhmfbaa
open Go.RowKit

/-! ### Lists of bytes as cells -/
def u8s (l : List Nat) : Array Value := (l.map fun n : Nat => Value.int .u8 (n : Int)).toArray
theorem u8s_size (l : List Nat) : (u8s l).size = l.length := by simp [u8s]
theorem u8s_toList (l : List Nat) : (u8s l).toList = l.map fun n : Nat => Value.int .u8 (n : Int) := by simp [u8s]
theorem u8s_get {l : List Nat} {i : Nat} (h : i < l.length) : (u8s l)[i]? = some (.int .u8 ((l[i]?.getD 0 : Nat) : Int)) := by
  simp [u8s, h]
theorem u8s_extract (l : List Nat) (a b : Nat) : (u8s l).extract a b = u8s ((l.drop a).take (b - a)) := by
  apply Array.ext'
  simp [u8s, List.map_take, List.map_drop, List.extract]
theorem u8s_set (l : List Nat) (i n : Nat) : (u8s l).setIfInBounds i (.int .u8 (n : Int)) = u8s (l.set i n) := by
  apply Array.ext'
  simp [u8s, List.map_set]
theorem u8s_one (l : List Nat) : ∀ v ∈ (u8s l).toList, v.oneCell' = true := by
  intro v hv
  rw [u8s_toList] at hv
  obtain ⟨n, _, rfl⟩ := List.mem_map.1 hv
  rfl
theorem u8s_inj {l r : List Nat} (h : u8s l = u8s r) : l = r := by
  have h' : (u8s l).toList = (u8s r).toList := by rw [h]
  rw [u8s_toList, u8s_toList] at h'
  apply List.ext_getElem?
  intro i
  have h2 : (l.map fun n : Nat => Value.int .u8 (n : Int))[i]? = (r.map fun n : Nat => Value.int .u8 (n : Int))[i]? := by rw [h']
  simp only [List.getElem?_map] at h2
  cases hl : l[i]? <;> cases hr : r[i]? <;> first | (simp_all; done) | (simp_all; omega)

/-- 'k' bytes. -/
def Bytes (k : Nat) (l : List Nat) : Prop := l.length = k ∧ ∀ n ∈ l, n < 256
theorem Bytes.len {k : Nat} {l : List Nat} (h : Bytes k l) : l.length = k := h.1
theorem Bytes.lt {k : Nat} {l : List Nat} (h : Bytes k l) (i : Nat) : l[i]?.getD 0 < 256 := by
  cases hi : l[i]? with
  | none => simp
  | some n => simpa using h.2 n (List.mem_of_getElem? hi)
theorem Bytes.part {k a n : Nat} {l : List Nat} (h : Bytes k l) (hn : a + n ≤ k) : Bytes n ((l.drop a).take n) := by
  refine ⟨by simp [h.1]; omega, fun x hx => h.2 x (List.mem_of_mem_drop (List.mem_of_mem_take hx))⟩
theorem Bytes.zeros (k : Nat) : Bytes k (List.replicate k 0) := ⟨by simp, fun n hn => by simp at hn; omega⟩
theorem Bytes.set {k : Nat} {l : List Nat} (h : Bytes k l) (i n : Nat) (hn : n < 256) : Bytes k (l.set i n) :=
  ⟨by simp [h.1], fun x hx => by
    rcases List.mem_or_eq_of_mem_set hx with hx | rfl
    · exact h.2 x hx
    · exact hn⟩

/-! ### A part of a block: loaded, stored -/
/-- 'vs' in the place of as many cells from 'off' on. -/
def splice (cs : Array Value) (off : Nat) (vs : Array Value) : Array Value := (cs.toList.take off ++ vs.toList ++ cs.toList.drop (off + vs.size)).toArray
theorem splice_size {cs vs : Array Value} {off : Nat} (h : off + vs.size ≤ cs.size) : (splice cs off vs).size = cs.size := by
  simp [splice]; omega
theorem splice_u8s (l r : List Nat) (off : Nat) : splice (u8s l) off (u8s r) = u8s (l.take off ++ r ++ l.drop (off + r.length)) := by
  apply Array.ext'
  simp [splice, u8s]
theorem splice_all {cs vs : Array Value} (h : vs.size = cs.size) : splice cs 0 vs = vs := by
  apply Array.ext'
  simp [splice, h]

theorem add_none (g off i : Nat) : (⟨g, off, none⟩ : Addr).add i = ⟨g, off + i, none⟩ := by unfold Addr.add; split <;> simp_all

section
variable {P : Program}
theorem run_loadVar_part (w : World) (g off : Nat) (t ty : TypeId) (cs : Array Value) (fr : Nat × Nat) (d : TypeDesc) (n : Nat) (hg : w.heap[g]? = some (.cells cs t fr))
    (hu : P.underlying ty = some d) (hd : (match d with | .struct _ | .array _ _ => true | _ => false) = true) (hi : (P.info? ty).map (·.size) = some n) (hle : off + n ≤ cs.size) :
    (loadVar ty ⟨g, off, none⟩).run P w = .ok (.agg (cs.extract off (off + n))) w := by
  have hlen : (cs.extract off (off + n)).toList.length = n := by simp; omega
  have hl := run_loadCells_list (P := P) w ⟨g, off, none⟩ (cs.extract off (off + n)).toList (fun j v hv => by
      rw [add_none, cell_of_row w g (off + j) cs t fr hg]
      have hj : j < n := by have := (List.getElem?_eq_some_iff.1 hv).1; omega
      have h2 : (cs.extract off (off + n))[j]? = some v := by rw [← hv, Array.getElem?_toList]
      rw [Array.getElem?_extract] at h2
      split at h2
      · exact h2
      · simp at h2)
  rw [hlen] at hl
  cases hq : P.info? ty with
  | none => simp [hq] at hi
  | some i =>
    have hs : i.size = n := by simpa [hq] using hi
    have hagg : (isAgg ty).run P w = .ok true w := by
      unfold isAgg
      rw [Sem.run_bind, run_underlying hu w]
      cases d <;> simp_all
    rw [Array.toArray_toList] at hl
    simp [loadVar, Sem.run_bind, hagg, sizeOf, typeInfo, hq, hs, hl]

theorem wpList_load_part {ops : Array Oper} {rest : List Oper} {o : Oper} {a : Act} {w : World} {Q : Exit → Act → World → Prop} (hgd : o.guard = none) (ty : TypeId) (x : Operand) (ho : o.op = .load ty x)
    (g off : Nat) (hx : a.eval x = .pointer (some ⟨g, off, none⟩)) (t : TypeId) (cs : Array Value) (fr : Nat × Nat) (d : TypeDesc) (n : Nat) (hg : w.heap[g]? = some (.cells cs t fr))
    (hu : P.underlying ty = some d) (hd : (match d with | .struct _ | .array _ _ => true | _ => false) = true) (hi : (P.info? ty).map (·.size) = some n) (hle : off + n ≤ cs.size)
    (h : wpList P ops Q rest (a.put o.dst (.agg (cs.extract off (off + n)))) w) : wpList P ops Q (o :: rest) a w :=
  wpList_plain hgd fun _ hK => by
    unfold Oper.wp execOp
    simp only [ho, hx, Instr.loadAt, Instr.sureAddr, Sem.run_bind, Sem.run_pure, Result.andThen_ok, run_loadVar_part w g off t ty cs fr d n hg hu hd hi hle]
    exact hK _ _ h

theorem run_storeVar_part (w : World) (g off : Nat) (t ty : TypeId) (cs vs : Array Value) (hg : w.heap[g]? = some (.cells cs t (0, 0)))
    (hi : (P.info? ty).map (·.size) = some vs.size) (hle : off + vs.size ≤ cs.size) (h1 : ∀ v ∈ vs.toList, v.oneCell' = true) :
    (storeVar ty ⟨g, off, none⟩ (.agg vs)).run P w = .ok () (w.setRow g (splice cs off vs)) := by
  cases hq : P.info? ty with
  | none => simp [hq] at hi
  | some i =>
    have hs : i.size = vs.size := by simpa [hq] using hi
    have hst := run_storeCells_at P g off t vs.toList 0 cs w hg (by simpa using hle) h1
    simp only [Nat.add_zero, Array.length_toList] at hst
    simp [storeVar, Sem.run_bind, sizeOf, typeInfo, hq, hs, Value.cells, hst, splice]

theorem wpList_store_part {ops : Array Oper} {rest : List Oper} {o : Oper} {a : Act} {w : World} {Q : Exit → Act → World → Prop} (hgd : o.guard = none) (ty : TypeId) (x y : Operand) (ho : o.op = .store ty x y)
    (hdst : o.dst = none) (g off : Nat) (hx : a.eval x = .pointer (some ⟨g, off, none⟩)) (vs : Array Value) (hy : a.eval y = .agg vs) (t : TypeId) (cs : Array Value) (hg : w.heap[g]? = some (.cells cs t (0, 0)))
    (hi : (P.info? ty).map (·.size) = some vs.size) (hle : off + vs.size ≤ cs.size) (h1 : ∀ v ∈ vs.toList, v.oneCell' = true)
    (h : wpList P ops Q rest a (w.setRow g (splice cs off vs))) : wpList P ops Q (o :: rest) a w :=
  wpList_plain hgd fun _ hK => by
    unfold Oper.wp execOp
    simp only [ho, hx, hy, Instr.storeAt, Instr.sureAddr, Sem.run_bind, Sem.run_pure, Result.andThen_ok, run_storeVar_part w g off t ty cs vs hg hi hle h1]
    simp only [Oper.upon, hdst, Act.put]
    exact hK _ _ h
end

/-! ### What a world keeps -/
theorem heap_setRow (w : World) (g : Nat) (cs old : Array Value) (t : TypeId) (k : Nat) (hg : w.heap[g]? = some (.cells old t (0, 0))) :
    (w.setRow g cs).heap[k]? = if k = g then some (.cells cs t (0, 0)) else w.heap[k]? := by
  split
  · rename_i h; subst h; exact setRow_heap w _ old cs t _ hg
  · rename_i h; exact setRow_other w g k cs h
theorem heap_alloc (w : World) (o : Obj) (k : Nat) : (w.alloc o).heap[k]? = if k = w.heap.size then some o else w.heap[k]? := by
  show (w.heap.push o)[k]? = _
  rw [Array.getElem?_push]
theorem below_setRow' {B g : Nat} {w0 w : World} (hb : Below B w0 w) (hBg : B ≤ g) (cs : Array Value) : Below B w0 (w.setRow g cs) :=
  hb.trans ⟨rfl, rfl, rfl, by simp, fun k hk => setRow_other w g k cs (by omega)⟩

/-! ### The blocks that a function lays first -/
section
variable (w : World) (A B C D : Obj)
theorem size_al1 : (w.alloc A).heap.size = w.heap.size + 1 := World.size_alloc _ _
theorem size_al2 : ((w.alloc A).alloc B).heap.size = w.heap.size + 1 + 1 := by rw [World.size_alloc, World.size_alloc]
theorem size_al3 : (((w.alloc A).alloc B).alloc C).heap.size = w.heap.size + 1 + 1 + 1 := by rw [World.size_alloc, size_al2]
theorem size_al4 : ((((w.alloc A).alloc B).alloc C).alloc D).heap.size = w.heap.size + 1 + 1 + 1 + 1 := by rw [World.size_alloc, size_al3]
theorem al1_0 : (w.alloc A).heap[w.heap.size]? = some A := heap_alloc_new w A
theorem al2_0 : ((w.alloc A).alloc B).heap[w.heap.size]? = some A := heap_alloc2_old w A B
theorem al2_1 : ((w.alloc A).alloc B).heap[w.heap.size + 1]? = some B := heap_alloc2_new w A B
theorem al3_0 : (((w.alloc A).alloc B).alloc C).heap[w.heap.size]? = some A := by rw [Below.heap_alloc _ _ _ (by rw [size_al2]; omega)]; exact al2_0 w A B
theorem al3_1 : (((w.alloc A).alloc B).alloc C).heap[w.heap.size + 1]? = some B := by rw [Below.heap_alloc _ _ _ (by rw [size_al2]; omega)]; exact al2_1 w A B
theorem al3_2 : (((w.alloc A).alloc B).alloc C).heap[w.heap.size + 1 + 1]? = some C := by have h := heap_alloc_new ((w.alloc A).alloc B) C; rwa [size_al2] at h
theorem al4_0 : ((((w.alloc A).alloc B).alloc C).alloc D).heap[w.heap.size]? = some A := by rw [Below.heap_alloc _ _ _ (by rw [size_al3]; omega)]; exact al3_0 w A B C
theorem al4_1 : ((((w.alloc A).alloc B).alloc C).alloc D).heap[w.heap.size + 1]? = some B := by rw [Below.heap_alloc _ _ _ (by rw [size_al3]; omega)]; exact al3_1 w A B C
theorem al4_2 : ((((w.alloc A).alloc B).alloc C).alloc D).heap[w.heap.size + 1 + 1]? = some C := by rw [Below.heap_alloc _ _ _ (by rw [size_al3]; omega)]; exact al3_2 w A B C
theorem al4_3 : ((((w.alloc A).alloc B).alloc C).alloc D).heap[w.heap.size + 1 + 1 + 1]? = some D := by have h := heap_alloc_new (((w.alloc A).alloc B).alloc C) D; rwa [size_al3] at h
theorem below1 : Below w.heap.size w (w.alloc A) := (Below.refl _ _).alloc (Nat.le_refl _) _
theorem below2 : Below w.heap.size w ((w.alloc A).alloc B) := (below1 w A).alloc (by rw [size_al1]; omega) _
theorem below3 : Below w.heap.size w (((w.alloc A).alloc B).alloc C) := (below2 w A B).alloc (by rw [size_al2]; omega) _
theorem below4 : Below w.heap.size w ((((w.alloc A).alloc B).alloc C).alloc D) := (below3 w A B C).alloc (by rw [size_al3]; omega) _
end
theorem heap_setCell (w : World) (g i : Nat) (cs : Array Value) (t : TypeId) (v : Value) (hg : w.heap[g]? = some (.cells cs t (0, 0))) : (w.setCell ⟨g, i, none⟩ v).heap[g]? = some (.cells (cs.setIfInBounds i v) t (0, 0)) :=
  heap_setCell_same w g i cs t v hg
theorem heap_setCell_ne (w : World) (g i k : Nat) (v : Value) (h : k ≠ g) : (w.setCell ⟨g, i, none⟩ v).heap[k]? = w.heap[k]? := heap_setCell_other w ⟨g, i, none⟩ k v h
theorem size_setCell' (w : World) (a : Addr) (v : Value) : (w.setCell a v).heap.size = w.heap.size := by simp [World.setCell]

/-! ### A list that is filled from the left -/
theorem fill_step {f : List Nat} {n k : Nat} (hf : f.length = n) (hk : k < n) : (f.take k ++ List.replicate (n - k) 0).set k (f[k]?.getD 0) = f.take (k + 1) ++ List.replicate (n - (k + 1)) 0 := by
  have hl : (f.take k).length = k := by simp; omega
  rw [List.set_append_right _ _ (by omega), hl, Nat.sub_self, show n - k = (n - (k + 1)) + 1 by omega, List.replicate_succ, List.set_cons_zero, List.take_succ_eq_append_getElem (by omega), List.append_assoc]
  simp [hf, hk]
theorem fill_end {f : List Nat} {n : Nat} (hf : f.length = n) : f.take n ++ List.replicate (n - n) 0 = f := by simp [← hf]

/-! ### Laws of the walk: a part of a block of bytes; the world behind a store, behind new blocks, under a name of its own -/
def segm (l : List Nat) (off n : Nat) : List Nat := (l.drop off).take n
def over (l : List Nat) (off : Nat) (r : List Nat) : List Nat := l.take off ++ r ++ l.drop (off + r.length)
theorem segm_bytes {k a n : Nat} {l : List Nat} (h : Bytes k l) (hn : a + n ≤ k) : Bytes n (segm l a n) := h.part hn
theorem over_length {l r : List Nat} {off : Nat} (h : off + r.length ≤ l.length) : (over l off r).length = l.length := by simp [over]; omega
/-- Block 'g' is this object. -/
def At (w : World) (g : Nat) (o : Obj) : Prop := w.heap[g]? = some o
/-- So many blocks there are. -/
def Sz (w : World) (n : Nat) : Prop := w.heap.size = n
theorem Sz.self (w : World) : Sz w w.heap.size := rfl
theorem At.keep {B g : Nat} {w w' : World} {o : Obj} (h : At w g o) (hb : Below B w w') (hg : g < B) : At w' g o := (hb.block g hg).trans h
theorem At.cell {w : World} {g : Nat} {l : List Nat} {t : TypeId} (h : At w g (.cells (u8s l) t (0, 0))) {i : Nat} (hi : i < l.length) : w.cell? ⟨g, i, none⟩ = some (.int .u8 ((l[i]?.getD 0 : Nat) : Int)) := by
  rw [cell_of_row w g i _ _ _ h, u8s_get hi]
theorem At.free {w : World} {g : Nat} {cs : Array Value} {t : TypeId} (h : At w g (.cells cs t (0, 0))) (i : Nat) : w.frozen? ⟨g, i, none⟩ = false := frozen_of_row w g i _ _ h
theorem At.lt {w : World} {g : Nat} {o : Obj} (h : At w g o) : g < w.heap.size := (Array.getElem?_eq_some_iff.1 h).1
/-- What a store into block 'g' leaves. -/
structure Put (w w' : World) (g : Nat) (o : Obj) : Prop where
  at_ : At w' g o
  other : ∀ {k : Nat} {o' : Obj}, At w k o' → k ≠ g → At w' k o'
  size : ∀ {n : Nat}, Sz w n → Sz w' n
  below : ∀ {B : Nat} {w0 : World}, Below B w0 w → B ≤ g → Below B w0 w'
theorem Put.set {w : World} {g i : Nat} {l : List Nat} {t : TypeId} (h : At w g (.cells (u8s l) t (0, 0))) (n : Nat) : Put w (w.setCell ⟨g, i, none⟩ (.int .u8 (n : Int))) g (.cells (u8s (l.set i n)) t (0, 0)) :=
  ⟨by unfold At; rw [heap_setCell _ _ _ _ _ _ h, u8s_set], fun h' hk => (heap_setCell_ne _ _ _ _ _ hk).trans h', fun hs => (size_setCell' _ _ _).trans hs, fun hb hB => hb.setCell hB _⟩
section
variable {P : Program} {ops : Array Oper} {rest : List Oper} {o : Oper} {a : Act} {w : World} {Q : Exit → Act → World → Prop}
theorem wpList_load_u8s (hgd : o.guard = none) (ty : TypeId) (x : Operand) (ho : o.op = .load ty x)
    (g off : Nat) (hx : a.eval x = .pointer (some ⟨g, off, none⟩)) (t : TypeId) (l : List Nat) (d : TypeDesc) (n : Nat) (hg : At w g (.cells (u8s l) t (0, 0)))
    (hu : P.underlying ty = some d) (hd : (match d with | .struct _ | .array _ _ => true | _ => false) = true) (hi : (P.info? ty).map (·.size) = some n) (hle : off + n ≤ l.length)
    (h : wpList P ops Q rest (a.put o.dst (.agg (u8s (segm l off n)))) w) : wpList P ops Q (o :: rest) a w := by
  refine wpList_load_part hgd ty x ho g off hx t (u8s l) (0, 0) d n hg hu hd hi (by rw [u8s_size]; exact hle) ?_
  rw [u8s_extract, show off + n - off = n by omega]
  exact h
theorem wpList_load_all (hgd : o.guard = none) (ty : TypeId) (x : Operand) (ho : o.op = .load ty x)
    (g : Nat) (hx : a.eval x = .pointer (some ⟨g, 0, none⟩)) (t : TypeId) (cs : Array Value) (d : TypeDesc) (hg : At w g (.cells cs t (0, 0)))
    (hu : P.underlying ty = some d) (hd : (match d with | .struct _ | .array _ _ => true | _ => false) = true) (n : Nat) (hi : (P.info? ty).map (·.size) = some n) (hle : cs.size = n)
    (h : wpList P ops Q rest (a.put o.dst (.agg cs)) w) : wpList P ops Q (o :: rest) a w :=
  wpList_load_row hgd ty x ho g hx t cs (0, 0) d hg hu hd (by rw [hle]; exact hi) h
theorem wpList_store_u8s (hgd : o.guard = none) (ty : TypeId) (x y : Operand) (ho : o.op = .store ty x y)
    (hdst : o.dst = none) (g off : Nat) (hx : a.eval x = .pointer (some ⟨g, off, none⟩)) (r : List Nat) (hy : a.eval y = .agg (u8s r)) (t : TypeId) (l : List Nat) (hg : At w g (.cells (u8s l) t (0, 0)))
    (n : Nat) (hi : (P.info? ty).map (·.size) = some n) (hn : r.length = n) (hle : off + n ≤ l.length)
    (h : ∀ w', Put w w' g (.cells (u8s (over l off r)) t (0, 0)) → wpList P ops Q rest a w') : wpList P ops Q (o :: rest) a w := by
  refine wpList_store_part hgd ty x y ho hdst g off hx (u8s r) hy t (u8s l) hg (by rw [u8s_size, hn]; exact hi) (by rw [u8s_size, u8s_size, hn]; exact hle) (u8s_one r) ?_
  rw [splice_u8s]
  exact h _ ⟨setRow_heap _ _ _ _ _ _ hg, fun h' hk => (setRow_other _ _ _ _ hk).trans h', fun hs => (setRow_size _ _ _).trans hs, fun hb hB => below_setRow' hb hB _⟩
theorem wpList_abs1 {A : Obj} (h : ∀ W : World, Sz W (w.heap.size + 1) → Below w.heap.size w W → At W w.heap.size A → wpList P ops Q rest a W) : wpList P ops Q rest a (w.alloc A) :=
  h _ (size_al1 _ _) (below1 _ _) (al1_0 _ _)
theorem wpList_abs2 {A B : Obj} (h : ∀ W : World, Sz W (w.heap.size + 1 + 1) → Below w.heap.size w W → At W w.heap.size A → At W (w.heap.size + 1) B → wpList P ops Q rest a W) :
    wpList P ops Q rest a ((w.alloc A).alloc B) :=
  h _ (size_al2 _ _ _) (below2 _ _ _) (al2_0 _ _ _) (al2_1 _ _ _)
theorem wpList_abs3 {A B C : Obj} (h : ∀ W : World, Sz W (w.heap.size + 1 + 1 + 1) → Below w.heap.size w W → At W w.heap.size A → At W (w.heap.size + 1) B → At W (w.heap.size + 1 + 1) C → wpList P ops Q rest a W) :
    wpList P ops Q rest a (((w.alloc A).alloc B).alloc C) :=
  h _ (size_al3 _ _ _ _) (below3 _ _ _ _) (al3_0 _ _ _ _) (al3_1 _ _ _ _) (al3_2 _ _ _ _)
end
/-- The result that lies in block 'g'. -/
theorem results_at {P : Program} {fn : Func} {p : Tmp} {ty : TypeId} (h : fn.results = #[.cell p ty]) (tmps : Array Value) (w : World) (g : Nat) (t : TypeId) (cs : Array Value) (d : TypeDesc)
    (hp : tmps.getD p undef = .pointer (some ⟨g, 0, none⟩)) (hg : At w g (.cells cs t (0, 0)))
    (hu : P.underlying ty = some d) (hd : (match d with | .struct _ | .array _ _ => true | _ => false) = true) (n : Nat) (hi : (P.info? ty).map (·.size) = some n) (hn : cs.size = n) :
    (results fn tmps).run P w = .ok (.agg cs) w := results_cell_row h tmps w g t cs (0, 0) d hp hg hu hd (by rw [hn]; exact hi)
theorem over_all {l r : List Nat} (h : r.length = l.length) : over l 0 r = r := by simp [over, h]
theorem segm_all {l : List Nat} {n : Nat} (h : l.length = n) : segm l 0 n = l := by simp [segm, ← h]

theorem At.after {g : Nat} {w w' : World} {o : Obj} (h : At w g o) (hb : Below w.heap.size w w') : At w' g o := h.keep hb h.lt
theorem below_after {w0 w w' : World} (h : Below w0.heap.size w0 w) (hb : Below w.heap.size w w') : Below w0.heap.size w0 w' := h.trans (hb.mono h.size)
theorem segm_len {l : List Nat} {a n : Nat} (h : a + n ≤ l.length) : (segm l a n).length = n := by simp [segm]; omega
theorem over3 (q : List Nat) (h : q.length = 27) : over (over (over (List.replicate 27 0) 0 (segm q 0 9)) 9 (segm q 9 9)) 18 (segm q 18 9) = q := by
  have h9 : q = q.take 9 ++ (q.drop 9).take 9 ++ (q.drop 18).take 9 := by
    have e1 : (q.drop 18).take 9 = q.drop 18 := List.take_of_length_le (by simp [h])
    have e2 : (q.drop 9).take 9 ++ q.drop 18 = q.drop 9 := by
      have := List.take_append_drop 9 (q.drop 9)
      rwa [List.drop_drop] at this
    rw [e1, List.append_assoc, e2, List.take_append_drop]
  have a0 : (q.take 9).length = 9 := by simp [h]
  have a1 : ((q.drop 9).take 9).length = 9 := by simp [h]
  have a2 : ((q.drop 18).take 9).length = 9 := by simp [h]
  simp only [segm, List.drop_zero]
  generalize q.take 9 = x at *
  generalize (q.drop 9).take 9 = y at *
  generalize (q.drop 18).take 9 = z at *
  subst h9
  have d0 : x.take 18 = x := List.take_of_length_le (by omega)
  have d1 : x.drop 27 = [] := List.drop_eq_nil_of_le (by omega)
  have d2 : y.drop 18 = [] := List.drop_eq_nil_of_le (by omega)
  simp [over, a0, a1, a2, d0, d1, d2, List.take_append, List.drop_append]

/-! ### Lists of products: their cells one behind the other -/
theorem flat_len {qs : List (List Nat)} {s : Nat} (h : ∀ q ∈ qs, q.length = s) : qs.flatten.length = qs.length * s := by
  induction qs with
  | nil => simp
  | cons q qs ih =>
    rw [List.flatten_cons, List.length_append, h q (by simp), ih (fun x hx => h x (by simp [hx])), List.length_cons, Nat.succ_mul, Nat.add_comm]
theorem flat_get {qs : List (List Nat)} {s : Nat} (h : ∀ q ∈ qs, q.length = s) {i j : Nat} {q : List Nat} (hi : qs[i]? = some q) (hj : j < s) : qs.flatten[i * s + j]? = q[j]? := by
  induction qs generalizing i with
  | nil => simp at hi
  | cons x qs ih =>
    have hx := h x (by simp)
    rw [List.flatten_cons]
    cases i with
    | zero =>
      simp only [List.getElem?_cons_zero, Option.some.injEq] at hi
      subst hi
      rw [Nat.zero_mul, Nat.zero_add, List.getElem?_append_left (by omega)]
    | succ i =>
      rw [List.getElem?_append_right (by rw [hx, Nat.succ_mul]; omega), hx, show (i + 1) * s + j - s = i * s + j by rw [Nat.succ_mul]; omega]
      exact ih (fun y hy => h y (by simp [hy])) (by simpa using hi)
theorem flat_step {qs : List (List Nat)} {s k : Nat} (h : ∀ q ∈ qs, q.length = s) {q : List Nat} (hk : qs[k]? = some q) :
    over ((qs.take k).flatten ++ List.replicate ((qs.length - k) * s) 0) (k * s) q = (qs.take (k + 1)).flatten ++ List.replicate ((qs.length - (k + 1)) * s) 0 := by
  have hlt : k < qs.length := (List.getElem?_eq_some_iff.1 hk).1
  have hq : q.length = s := h q (List.mem_of_getElem? hk)
  have ht : (qs.take k).flatten.length = k * s := by
    rw [flat_len (fun x hx => h x (List.mem_of_mem_take hx)), List.length_take, Nat.min_eq_left (by omega)]
  have hm : qs.length - k = (qs.length - (k + 1)) + 1 := by omega
  have e1 : (qs.take (k + 1)).flatten = (qs.take k).flatten ++ q := by
    rw [List.take_add_one, hk]; simp
  unfold over
  rw [hq, List.take_append_of_le_length (by omega), List.take_of_length_le (by omega), e1, List.drop_append, ht, List.drop_eq_nil_of_le (by omega), hm, Nat.succ_mul, show k * s + s - k * s = s by omega, List.nil_append, List.drop_replicate, Nat.add_sub_cancel]
theorem flat_room {qs : List (List Nat)} {s k : Nat} (h : ∀ q ∈ qs, q.length = s) (hk : k < qs.length) : k * s + s ≤ ((qs.take k).flatten ++ List.replicate ((qs.length - k) * s) 0).length := by
  have ht : (qs.take k).flatten.length = k * s := by
    rw [flat_len (fun x hx => h x (List.mem_of_mem_take hx)), List.length_take, Nat.min_eq_left (by omega)]
  have hm : qs.length - k = (qs.length - (k + 1)) + 1 := by omega
  rw [List.length_append, ht, List.length_replicate, hm, Nat.succ_mul]
  omega
theorem flat_end {qs : List (List Nat)} {s : Nat} : (qs.take qs.length).flatten ++ List.replicate ((qs.length - qs.length) * s) 0 = qs.flatten := by simp
/-- The slice value over 'A', of as many elements as 'qs', reads as the products 'qs'. -/
def Rd (w : World) (A : Option Addr) (qs : List (List Nat)) : Prop :=
  (∀ q ∈ qs, Bytes 27 q) ∧ (qs = [] ∨ ∃ b off, A = some ⟨b, off, none⟩ ∧ ∀ (i : Nat) (q : List Nat), qs[i]? = some q → ∀ j, j < 27 → w.cell? ⟨b, off + i * 27 + j, none⟩ = some (.int .u8 ((q[j]?.getD 0 : Nat) : Int)))
theorem Rd.good {w : World} {A : Option Addr} {qs : List (List Nat)} (h : Rd w A qs) : ∀ q ∈ qs, Bytes 27 q := h.1
theorem Rd.len {w : World} {A : Option Addr} {qs : List (List Nat)} (h : Rd w A qs) : ∀ q ∈ qs, q.length = 27 := fun q hq => (h.1 q hq).len
theorem Rd.at_ {w : World} {A : Option Addr} {qs : List (List Nat)} (h : Rd w A qs) {i : Nat} (hi : i < qs.length) :
    ∃ b off, A = some ⟨b, off, none⟩ ∧ ∀ j, j < 27 → w.cell? ⟨b, off + i * 27 + j, none⟩ = some (.int .u8 ((qs[i][j]?.getD 0 : Nat) : Int)) := by
  rcases h.2 with rfl | ⟨b, off, hA, hc⟩
  · simp at hi
  · exact ⟨b, off, hA, hc i qs[i] (List.getElem?_eq_getElem hi)⟩
theorem Rd.keep {w w' : World} {A : Option Addr} {qs : List (List Nat)} (h : Rd w A qs) (hb : Below w.heap.size w w') : Rd w' A qs := by
  refine ⟨h.1, ?_⟩
  rcases h.2 with h0 | ⟨b, off, hA, hc⟩
  · exact .inl h0
  · refine .inr ⟨b, off, hA, fun i q hi j hj => ?_⟩
    have := hc i q hi j hj
    rw [hb.cell (p := ⟨b, off + i * 27 + j, none⟩) (block_lt_of_cell this)]
    exact this
theorem Rd.of_at {w : World} {g : Nat} {t : TypeId} {qs : List (List Nat)} (h : At w g (.cells (u8s qs.flatten) t (0, 0))) (hq : ∀ q ∈ qs, Bytes 27 q) : Rd w (some ⟨g, 0, none⟩) qs := by
  refine ⟨hq, .inr ⟨g, 0, rfl, fun i q hi j hj => ?_⟩⟩
  have hl : ∀ q ∈ qs, q.length = 27 := fun q hm => (hq q hm).len
  have hlt : i < qs.length := (List.getElem?_eq_some_iff.1 hi).1
  have e := flat_get hl hi hj
  have hb : i * 27 + j < qs.flatten.length := by
    rw [flat_len hl]
    have : (i + 1) * 27 ≤ qs.length * 27 := Nat.mul_le_mul_right _ hlt
    omega
  have := h.cell hb
  rw [e] at this
  simpa using this
theorem Rd.none_ (w : World) (A : Option Addr) : Rd w A [] := ⟨by simp, .inl rfl⟩
/-- What a new block leaves. -/
structure New (w w' : World) (o : Obj) : Prop where
  at_ : At w' w.heap.size o
  old : ∀ {k : Nat} {o' : Obj}, At w k o' → At w' k o'
  size : ∀ {n : Nat}, Sz w n → Sz w' (n + 1)
  below : ∀ {B : Nat} {w0 : World}, Below B w0 w → B ≤ w.heap.size → Below B w0 w'
theorem New.alloc (w : World) (o : Obj) : New w (w.alloc o) o :=
  ⟨al1_0 _ _, fun h => (Below.heap_alloc _ _ _ h.lt).trans h, fun h => by unfold Sz at *; rw [size_al1, h], fun hb hB => hb.alloc hB _⟩
theorem made_u8s (s n : Nat) (hs : 0 < s) : madeCells (u8s (List.replicate s 0)) (n * s) = u8s (List.replicate (n * s) 0) := by
  apply Array.ext
  · simp [size_madeCells, u8s_size]
  · intro i h1 h2
    rw [size_madeCells] at h1
    have hm : i % s < s := Nat.mod_lt _ hs
    simp [madeCells, u8s, hm]
section
variable {P : Program} {ops : Array Oper} {rest : List Oper} {o : Oper} {a : Act} {w : World} {Q : Exit → Act → World → Prop}
theorem wpList_make_u8s (hg : o.guard = none) (l c : Operand) (t : TypeId) (hop : o.op = Op.makeSlice t l c) (e : TypeId) (s b : Nat)
    (ht : P.underlying t = some (.slice e)) (hi : (P.info? e).map (fun i => (i.zero, i.size, i.bytes)) = some (some (.agg (u8s (List.replicate s 0))), s, b)) (hs : 0 < s)
    (n : Nat) (hl : a.eval l = .int .i64 n) (hc : a.eval c = .int .i64 n) (hb : b * n ≤ 281474976710656) (h63 : n ≤ 9223372036854775807)
    (h : ∀ w', New w w' (.cells (u8s (List.replicate (n * s) 0)) e (0, 0)) → wpList P ops Q rest (a.put o.dst (.slice (some ⟨w.heap.size, 0, none⟩) n n)) w') : wpList P ops Q (o :: rest) a w := by
  obtain ⟨i, hi0, hz, h1, h2⟩ := info_parts hi
  refine wpList_plain hg fun K hK => ?_
  have hr := run_make (P := P) w t e i _ ht hi0 hz .i64 .i64 n n (by omega) (Int.le_refl _) (by rw [h2]; omega) (by omega)
  simp only [Int.toNat_natCast, h1, Value.cells, made_u8s s n hs] at hr
  unfold Oper.wp
  simp [execOp, hop, hl, hc, hr, Result.andThen]
  exact hK _ _ (h _ (New.alloc _ _))
/-- A load of as many cells as are known one by one. -/
theorem wpList_load_cells (hgd : o.guard = none) (ty : TypeId) (x : Operand) (ho : o.op = .load ty x)
    (g off : Nat) (hx : a.eval x = .pointer (some ⟨g, off, none⟩)) (l : List Nat) (d : TypeDesc) (n : Nat) (hc : ∀ j, j < n → w.cell? ⟨g, off + j, none⟩ = some (.int .u8 ((l[j]?.getD 0 : Nat) : Int)))
    (hu : P.underlying ty = some d) (hd : (match d with | .struct _ | .array _ _ => true | _ => false) = true) (hi : (P.info? ty).map (·.size) = some n) (hn : l.length = n)
    (h : wpList P ops Q rest (a.put o.dst (.agg (u8s l))) w) : wpList P ops Q (o :: rest) a w :=
  wpList_plain hgd fun _ hK => by
    have hl := run_loadCells_list (P := P) w ⟨g, off, none⟩ (u8s l).toList (fun j v hv => by
      rw [add_none]
      have hj : j < l.length := by have := (List.getElem?_eq_some_iff.1 hv).1; simpa [u8s_toList] using this
      rw [hc j (by omega)]
      rw [Array.getElem?_toList, u8s_get hj] at hv
      exact hv)
    rw [Array.length_toList, u8s_size, hn, Array.toArray_toList] at hl
    have hagg : (isAgg ty).run P w = .ok true w := by
      unfold isAgg
      rw [Sem.run_bind, run_underlying hu w]
      cases d <;> simp_all
    cases hq : P.info? ty with
    | none => simp [hq] at hi
    | some i =>
      have hs : i.size = n := by simpa [hq] using hi
      have hr : (loadVar ty ⟨g, off, none⟩).run P w = .ok (.agg (u8s l)) w := by simp [loadVar, Sem.run_bind, hagg, sizeOf, typeInfo, hq, hs, hl]
      unfold Oper.wp execOp
      simp only [ho, hx, Instr.loadAt, Instr.sureAddr, Sem.run_bind, Sem.run_pure, Result.andThen_ok, hr]
      exact hK _ _ h
end

section
variable {P : Program} {ops : Array Oper} {rest : List Oper} {o : Oper} {a : Act} {w : World} {Q : Exit → Act → World → Prop}
theorem wpList_store_all (hgd : o.guard = none) (ty : TypeId) (x y : Operand) (ho : o.op = .store ty x y)
    (hdst : o.dst = none) (g : Nat) (hx : a.eval x = .pointer (some ⟨g, 0, none⟩)) (vs : Array Value) (hy : a.eval y = .agg vs) (t : TypeId) (cs : Array Value) (hg : At w g (.cells cs t (0, 0)))
    (n : Nat) (hi : (P.info? ty).map (·.size) = some n) (hn : vs.size = n) (hle : cs.size = n) (h1 : ∀ v ∈ vs.toList, v.oneCell' = true)
    (h : ∀ w', Put w w' g (.cells vs t (0, 0)) → wpList P ops Q rest a w') : wpList P ops Q (o :: rest) a w := by
  refine wpList_store_part hgd ty x y ho hdst g 0 hx vs hy t cs hg (by rw [hn]; exact hi) (by omega) h1 ?_
  rw [splice_all (by omega)]
  exact h _ ⟨setRow_heap _ _ _ _ _ _ hg, fun h' hk => (setRow_other _ _ _ _ hk).trans h', fun hs => (setRow_size _ _ _).trans hs, fun hb hB => below_setRow' hb hB _⟩
end
theorem Put.cell {w : World} {g i : Nat} {cs : Array Value} {t : TypeId} (h : At w g (.cells cs t (0, 0))) (v : Value) : Put w (w.setCell ⟨g, i, none⟩ v) g (.cells (cs.setIfInBounds i v) t (0, 0)) :=
  ⟨heap_setCell _ _ _ _ _ _ h, fun h' hk => (heap_setCell_ne _ _ _ _ _ hk).trans h', fun hs => (size_setCell' _ _ _).trans hs, fun hb hB => hb.setCell hB _⟩
theorem At.at_ {w : World} {g : Nat} {cs : Array Value} {t : TypeId} (h : At w g (.cells cs t (0, 0))) (i : Nat) : w.cell? ⟨g, i, none⟩ = cs[i]? := cell_of_row w g i _ _ _ h

theorem At.drewN {w : World} {g : Nat} {o : Obj} (h : At w g o) (n : Nat) : At (w.drewN n) g o := h
theorem Rd.drewN {w : World} {A : Option Addr} {qs : List (List Nat)} (h : Rd w A qs) (n : Nat) : Rd (w.drewN n) A qs := h
theorem below_drawn {B : Nat} {w0 w : World} (h : Below B w0 w) (n : Nat) : Below B w0 (w.drewN n) := ⟨h.os, h.tape, h.output, h.size, h.block⟩

theorem segms_eq {q r : List Nat} (hq : q.length = 27) (hr : r.length = 27) (h0 : segm q 0 9 = segm r 0 9) (h1 : segm q 9 9 = segm r 9 9) (h2 : segm q 18 9 = segm r 18 9) : q = r := by
  rw [← over3 q hq, ← over3 r hr, h0, h1, h2]
theorem segms_ne {q r : List Nat} {a n : Nat} (h : (segm q a n == segm r a n) = false) : (q == r) = false := by
  rw [beq_eq_false_iff_ne] at h ⊢
  intro e
  exact h (by rw [e])

/-! ### An operation whose run is known, in each of the walks -/
section
variable {P : Program} {ops : Array Oper} {rest : List Oper} {o : Oper} {a : Act} {w : World}
theorem wpList_of_exec {Q : Exit → Act → World → Prop} {v : Value} {w' : World} (hgd : o.guard = none) (he : (execOp a.eval o).run P w = .ok (.value v) w') (h : wpList P ops Q rest (a.put o.dst v) w') : wpList P ops Q (o :: rest) a w :=
  wpList_plain hgd fun _ hK => by
    unfold Oper.wp
    rw [he]
    exact hK _ _ h
theorem wpStill_of_exec {Q : Act → Prop} {v : Value} (hgd : o.guard = none) (he : (execOp a.eval o).run P w = .ok (.value v) w) (h : wpStill P ops w Q rest (a.put o.dst v)) : wpStill P ops w Q (o :: rest) a :=
  wpStill_step fun K hK => by
    rw [if_pos (by simp [Region.wanted, hgd])]
    unfold Oper.still
    rw [he]
    exact ⟨rfl, hK _ h⟩
theorem exec_load_cells (ty : TypeId) (x : Operand) (ho : o.op = .load ty x)
    (g off : Nat) (hx : a.eval x = .pointer (some ⟨g, off, none⟩)) (l : List Nat) (d : TypeDesc) (n : Nat) (hc : ∀ j, j < n → w.cell? ⟨g, off + j, none⟩ = some (.int .u8 ((l[j]?.getD 0 : Nat) : Int)))
    (hu : P.underlying ty = some d) (hd : (match d with | .struct _ | .array _ _ => true | _ => false) = true) (hi : (P.info? ty).map (·.size) = some n) (hn : l.length = n) :
    (execOp a.eval o).run P w = .ok (.value (.agg (u8s l))) w := by
  have hl := run_loadCells_list (P := P) w ⟨g, off, none⟩ (u8s l).toList (fun j v hv => by
    rw [add_none]
    have hj : j < l.length := by have := (List.getElem?_eq_some_iff.1 hv).1; simpa [u8s_toList] using this
    rw [hc j (by omega)]
    rw [Array.getElem?_toList, u8s_get hj] at hv
    exact hv)
  rw [Array.length_toList, u8s_size, hn, Array.toArray_toList] at hl
  have hagg : (isAgg ty).run P w = .ok true w := by
    unfold isAgg
    rw [Sem.run_bind, run_underlying hu w]
    cases d <;> simp_all
  cases hq : P.info? ty with
  | none => simp [hq] at hi
  | some i =>
    have hs : i.size = n := by simpa [hq] using hi
    have hr : (loadVar ty ⟨g, off, none⟩).run P w = .ok (.agg (u8s l)) w := by simp [loadVar, Sem.run_bind, hagg, sizeOf, typeInfo, hq, hs, hl]
    unfold execOp
    simp only [ho, hx, Instr.loadAt, Instr.sureAddr, Sem.run_bind, Sem.run_pure, Result.andThen_ok, hr]
theorem exec_load_all (ty : TypeId) (x : Operand) (ho : o.op = .load ty x)
    (g : Nat) (hx : a.eval x = .pointer (some ⟨g, 0, none⟩)) (t : TypeId) (cs : Array Value) (d : TypeDesc) (hg : At w g (.cells cs t (0, 0)))
    (hu : P.underlying ty = some d) (hd : (match d with | .struct _ | .array _ _ => true | _ => false) = true) (n : Nat) (hi : (P.info? ty).map (·.size) = some n) (hle : cs.size = n) :
    (execOp a.eval o).run P w = .ok (.value (.agg cs)) w := by
  have hr := run_loadVar_row (P := P) w g t ty cs (0, 0) d hg hu hd (by rw [hle]; exact hi)
  unfold execOp
  simp only [ho, hx, Instr.loadAt, Instr.sureAddr, Sem.run_bind, Sem.run_pure, Result.andThen_ok, hr]
end
theorem take_step {qs rs : List (List Nat)} {k : Nat} (h : qs.take k = rs.take k) (hq : k < qs.length) (hr : k < rs.length) (he : qs[k] = rs[k]) : qs.take (k + 1) = rs.take (k + 1) := by
  rw [List.take_succ_eq_append_getElem hq, List.take_succ_eq_append_getElem hr, h, he]

section
variable {P : Program} {o : Oper} {a : Act} {w : World}
theorem exec_move (x : Operand) (ho : o.op = .move x) (v : Value) (hx : a.eval x = v) : (execOp a.eval o).run P w = .ok (.value v) w := by
  unfold execOp
  simp only [ho, hx, Sem.run_pure]
theorem exec_index_slice (ty e : TypeId) (x i : Operand) (ho : o.op = .indexAddr ty x i) (b off len cap k s : Nat) (hx : a.eval x = .slice (some ⟨b, off, none⟩) len cap) (hi : a.eval i = .int .i64 k)
    (hu : P.underlying ty = some (.slice e)) (hs : (P.info? e).map (·.size) = some s) (hk : k < len) :
    (execOp a.eval o).run P w = .ok (.value (.pointer (some ⟨b, off + k * s, none⟩))) w := by
  cases hq : P.info? e with
  | none => simp [hq] at hs
  | some inf =>
    have hsz : inf.size = s := by simpa [hq] using hs
    have h1 : (0 : Int) ≤ k ∧ (k : Int) < len := ⟨by omega, by omega⟩
    unfold execOp
    simp [ho, hx, hi, Instr.indexAt, asIntOf, run_underlying hu, h1, sizeOf, typeInfo, hq, hsz, add_none, hk]
theorem exec_index_arr (ty e : TypeId) (x i : Operand) (ho : o.op = .indexAddr ty x i) (b off len k s : Nat) (hx : a.eval x = .pointer (some ⟨b, off, none⟩)) (hi : a.eval i = .int .i64 k)
    (hu : P.underlying ty = some (.array len e)) (hs : (P.info? e).map (·.size) = some s) (hk : k < len) :
    (execOp a.eval o).run P w = .ok (.value (.pointer (some ⟨b, off + k * s, none⟩))) w := by
  cases hq : P.info? e with
  | none => simp [hq] at hs
  | some inf =>
    have hsz : inf.size = s := by simpa [hq] using hs
    have h1 : (0 : Int) ≤ k ∧ (k : Int) < len := ⟨by omega, by omega⟩
    unfold execOp
    simp [ho, hx, hi, Instr.indexAt, Instr.sureAddr, asIntOf, run_underlying hu, h1, sizeOf, typeInfo, hq, hsz, add_none, hk]
end

theorem lists_ne {qs rs : List (List Nat)} {k : Nat} (hq : k < qs.length) (hr : k < rs.length) (h : (qs[k] == rs[k]) = false) : (qs == rs) = false := by
  rw [beq_eq_false_iff_ne] at h ⊢
  intro e
  subst e
  exact h rfl

/-! ### An array made of lists of bytes -/
theorem fold_set : ∀ (vs : List Value) (cells : Array Value) (off j : Nat), off + j + vs.length ≤ cells.size →
    (vs.zipIdx j).foldl (fun cs (x : Value × Nat) => cs.setIfInBounds (off + x.2) x.1) cells = (cells.toList.take (off + j) ++ vs ++ cells.toList.drop (off + j + vs.length)).toArray
  | [], cells, off, j, _ => by simp
  | v :: vs, cells, off, j, h => by
    rw [List.zipIdx_cons, List.foldl_cons, fold_set vs (cells.setIfInBounds (off + j) v) off (j + 1) (by simp at h ⊢; omega)]
    have := list_seg_step cells.toList (off + j) v vs (by simp at h ⊢; omega)
    rw [Array.toList_setIfInBounds]
    congr 1
theorem fill_u8s (place : Nat → Option (Nat × Nat)) (l r : List Nat) (i off n : Nat) (rest : List (Nat × Value)) (hp : place i = some (off, n)) (hr : r.length = n) (hl : off + n ≤ l.length) :
    Instr.fill place (u8s l) ((i, .agg (u8s r)) :: rest) = Instr.fill place (u8s (over l off r)) rest := by
  have e : (u8s r).zipIdx.foldl (fun cs (x : Value × Nat) => cs.setIfInBounds (off + x.2) x.1) (u8s l) = u8s (over l off r) := by
    rw [← Array.foldl_toList, Array.toList_zipIdx, fold_set _ _ _ _ (by rw [u8s_toList, u8s_size, List.length_map, hr]; omega)]
    simp [u8s, over]
  have h1 : ¬ ((u8s r).size ≠ n ∨ off + (u8s r).size > (u8s l).size) := by rw [u8s_size, u8s_size, hr]; omega
  have hc : (Value.agg (u8s r)).cells = u8s r := rfl
  simp only [Instr.fill, hp]
  split
  · rename_i h
    exfalso
    simp only [Bool.or_eq_true, decide_eq_true_eq] at h
    rw [hc] at h
    exact h1 h
  · exact congrArg (fun c => Instr.fill place c rest) e
theorem exec_build3 {P : Program} {o : Oper} {a : Act} {w : World} (t e : TypeId) (x y z : Operand) (ho : o.op = .build t #[(0, x), (1, y), (2, z)]) (n : Nat) (p q r : List Nat)
    (hx : a.eval x = .agg (u8s p)) (hy : a.eval y = .agg (u8s q)) (hz : a.eval z = .agg (u8s r)) (hu : P.underlying t = some (.array n e)) (hs : (P.info? e).map (·.size) = some 9)
    (h0 : (P.info? t).map (·.zero) = some (some (.agg (u8s (List.replicate 27 0))))) (hp : p.length = 9) (hq : q.length = 9) (hr : r.length = 9) :
    (execOp a.eval o).run P w = .ok (.value (.agg (u8s (over (over (over (List.replicate 27 0) 0 p) 9 q) 18 r)))) w := by
  obtain ⟨ie, hie, hse⟩ := Option.map_eq_some_iff.1 hs
  obtain ⟨it, hit, hzt⟩ := Option.map_eq_some_iff.1 h0
  have hb : P.built t [(0, .agg (u8s p)), (1, .agg (u8s q)), (2, .agg (u8s r))] = some (u8s (over (over (over (List.replicate 27 0) 0 p) 9 q) 18 r)) := by
    have l1 : (over (List.replicate 27 0) 0 p).length = 27 := by rw [over_length (by simp [hp])]; simp
    have l2 : (over (over (List.replicate 27 0) 0 p) 9 q).length = 27 := by rw [over_length (by rw [l1, hq]; omega), l1]
    unfold Program.built
    simp only [hit, hu, hzt, hie, hse, Value.cells]
    rw [fill_u8s _ _ _ 0 0 9 _ rfl hp (by simp), fill_u8s _ _ _ 1 9 9 _ rfl hq (by rw [l1]; omega), fill_u8s _ _ _ 2 18 9 _ rfl hr (by rw [l2]; omega)]
    rfl
  unfold execOp
  have := run_build (P := P) w t #[(0, .agg (u8s p)), (1, .agg (u8s q)), (2, .agg (u8s r))] _ hb
  simp [ho, hx, hy, hz, this]

/-! ### Arrays of bytes compared -/
theorem getD_drop_eq {f g : List Nat} {n k : Nat} (hf : f.length = n) (hg : g.length = n) (hk : k < n) : (f.drop k = g.drop k) ↔ (f[k]?.getD 0 = g[k]?.getD 0 ∧ f.drop (k + 1) = g.drop (k + 1)) := by
  rw [List.drop_eq_getElem_cons (show k < f.length by omega), List.drop_eq_getElem_cons (show k < g.length by omega), List.cons.injEq]
  simp [show k < f.length by omega, show k < g.length by omega]
theorem run_equalIn_u8s {P : Program} (w : World) (d : Nat) (t e : TypeId) (n : Nat) (ht : P.underlying t = some (.array n e)) (he : P.underlying e = some (.int .u8)) (hs : (P.info? e).map (·.size) = some 1)
    (f g : List Nat) (hf : f.length = n) (hg : g.length = n) : (Op.equalIn (d + 1 + 1) t (.agg (u8s f)) (.agg (u8s g))).run P w = .ok (f == g) w := by
  obtain ⟨ie, hie, hse⟩ := Option.map_eq_some_iff.1 hs
  have hagg : (isAgg e).run P w = .ok false w := by
    unfold isAgg
    rw [Sem.run_bind, run_underlying he w]
    rfl
  have hpart : ∀ (l : List Nat) (i : Nat), i < l.length → (part e (u8s l) (i * 1)).run P w = .ok (.int .u8 ((l[i]?.getD 0 : Nat) : Int)) w := by
    intro l i hi
    unfold part
    simp [Sem.run_bind, hagg, u8s_get hi]
  have key : ∀ (m k : Nat), k + m = n → (forIn (m := Sem) (List.range' k m) ((none : Option Bool), ()) (fun i _ => do
            let x ← part e (u8s f) (i * 1)
            let y ← part e (u8s g) (i * 1)
            let r ← Op.equalIn (d + 1) e x y
            if (!r) = true then pure (ForInStep.done (some false, ())) else pure (ForInStep.yield (none, ())))).run P w = .ok (if f.drop k = g.drop k then (none, ()) else (some false, ())) w := by
    intro m
    induction m with
    | zero =>
      intro k hk
      have h1 : f.drop k = [] := List.drop_eq_nil_of_le (by omega)
      have h2 : g.drop k = [] := List.drop_eq_nil_of_le (by omega)
      simp [h1, h2]
    | succ m ih =>
      intro k hk
      rw [List.range'_succ, List.forIn_cons]
      simp only [Sem.run_bind, hpart f k (by omega), hpart g k (by omega), Result.andThen_ok, run_equalIn_int w d e .u8 .u8 _ _ he]
      have hd := getD_drop_eq hf hg (k := k) (by omega)
      by_cases hx : f[k]?.getD 0 = g[k]?.getD 0
      · have hb : (((f[k]?.getD 0 : Nat) : Int) == ((g[k]?.getD 0 : Nat) : Int)) = true := by simp [hx]
        rw [hb]
        simp only [Bool.not_true, Bool.false_eq_true, if_false, Sem.run_pure, Result.andThen_ok]
        rw [ih (k + 1) (by omega)]
        by_cases hr : f.drop (k + 1) = g.drop (k + 1)
        · rw [if_pos hr, if_pos (hd.2 ⟨hx, hr⟩)]
        · rw [if_neg hr, if_neg (fun h => hr (hd.1 h).2)]
      · have hb : (((f[k]?.getD 0 : Nat) : Int) == ((g[k]?.getD 0 : Nat) : Int)) = false := by
          rw [beq_eq_false_iff_ne]; omega
        rw [hb]
        simp only [Bool.not_false, if_true, Sem.run_pure, Result.andThen_ok]
        rw [if_neg (fun h => hx (hd.1 h).1)]
  rw [Op.equalIn]
  simp only [Sem.run_bind, run_underlying ht, Result.andThen_ok, sizeOf, typeInfo, run_program, hie, hse, Sem.run_pure]
  rw [Std.Legacy.Range.forIn_eq_forIn_range']
  have hk := key n 0 (by omega)
  simp only [List.drop_zero] at hk
  simp only [Std.Legacy.Range.size, Nat.sub_zero, Nat.add_sub_cancel, Nat.div_one]
  rw [hk]
  by_cases hfg : f = g
  · simp [hfg]
  · simp [hfg]
theorem exec_eql_u8s {P : Program} {o : Oper} {a : Act} {w : World} (t rt e : TypeId) (x y : Operand) (ho : o.op = .binOp .eql t x y rt) (n : Nat) (ht : P.underlying t = some (.array n e)) (he : P.underlying e = some (.int .u8))
    (hs : (P.info? e).map (·.size) = some 1) (hm : P.eqGuardType P.depth t = false) (f g : List Nat) (hx : a.eval x = .agg (u8s f)) (hy : a.eval y = .agg (u8s g)) (hf : f.length = n) (hg : g.length = n) :
    (execOp a.eval o).run P w = .ok (.value (.bool (f == g))) w := by
  have h1 := run_equalIn_u8s (P := P) w 9998 t e n ht he hs f g hf hg
  unfold execOp
  simp [ho, hx, hy, Sem.run_bind, run_eqGuard_agg w .eql t x y _ _ hm, run_eql_struct, h1]

/-! ### Guarded operations that are wanted -/
section
variable {P : Program} {ops : Array Oper} {rest : List Oper} {o : Oper} {a : Act} {w : World} {Q : Exit → Act → World → Prop}
theorem wpList_want_exec {v : Value} {w' : World} (hw : Region.wanted o (yielded ops a.tmps) = true) (he : (execOp a.eval o).run P w = .ok (.value v) w') (h : wpList P ops Q rest (a.put o.dst v) w') : wpList P ops Q (o :: rest) a w :=
  BigFrame.wpList_want hw fun _ hK => by
    unfold Oper.wp
    rw [he]
    exact hK _ _ h
end
theorem exec_load_u8s {P : Program} {o : Oper} {a : Act} {w : World} (ty : TypeId) (x : Operand) (ho : o.op = .load ty x)
    (g off : Nat) (hx : a.eval x = .pointer (some ⟨g, off, none⟩)) (t : TypeId) (l : List Nat) (d : TypeDesc) (n : Nat) (hg : At w g (.cells (u8s l) t (0, 0)))
    (hu : P.underlying ty = some d) (hd : (match d with | .struct _ | .array _ _ => true | _ => false) = true) (hi : (P.info? ty).map (·.size) = some n) (hle : off + n ≤ l.length) :
    (execOp a.eval o).run P w = .ok (.value (.agg (u8s (segm l off n)))) w := by
  have hr := run_loadVar_part (P := P) w g off t ty (u8s l) (0, 0) d n hg hu hd hi (by rw [u8s_size]; exact hle)
  rw [u8s_extract, show off + n - off = n by omega] at hr
  unfold execOp
  simp only [ho, hx, Instr.loadAt, Instr.sureAddr, Sem.run_bind, Sem.run_pure, Result.andThen_ok, hr]
  rfl

theorem exec_index_u8s {P : Program} {o : Oper} {a : Act} {w : World} (ty e : TypeId) (x i : Operand) (ho : o.op = .index ty x i) (n k : Nat) (l : List Nat) (hx : a.eval x = .agg (u8s l)) (hi : a.eval i = .int .i64 k)
    (hu : P.underlying ty = some (.array n e)) (he : P.underlying e = some (.int .u8)) (hs : (P.info? e).map (·.size) = some 1) (hl : l.length = n) (hk : k < n) :
    (execOp a.eval o).run P w = .ok (.value (.int .u8 ((l[k]?.getD 0 : Nat) : Int))) w := by
  obtain ⟨ie, hie, hse⟩ := Option.map_eq_some_iff.1 hs
  have hagg : (isAgg e).run P w = .ok false w := by
    unfold isAgg
    rw [Sem.run_bind, run_underlying he w]
    rfl
  have h1 : (0 : Int) ≤ k ∧ (k : Int) < n := ⟨by omega, by omega⟩
  unfold execOp
  simp [ho, hx, hi, Instr.index, asIntOf, run_underlying hu, hk, sizeOf, typeInfo, hie, hse, part, hagg, u8s_get (show k < l.length by omega)]
/-- An array of forms, at an index: one of its forms. -/
theorem exec_index_seg {P : Program} {o : Oper} {a : Act} {w : World} (ty e : TypeId) (x i : Operand) (ho : o.op = .index ty x i) (n k s : Nat) (l : List Nat) (d : TypeDesc) (hx : a.eval x = .agg (u8s l)) (hi : a.eval i = .int .i64 k)
    (hu : P.underlying ty = some (.array n e)) (he : P.underlying e = some d) (hd : (match d with | .struct _ | .array _ _ => true | _ => false) = true) (hs : (P.info? e).map (·.size) = some s) (hk : k < n) :
    (execOp a.eval o).run P w = .ok (.value (.agg (u8s (segm l (k * s) s)))) w := by
  obtain ⟨ie, hie, hse⟩ := Option.map_eq_some_iff.1 hs
  have hagg : (isAgg e).run P w = .ok true w := by
    unfold isAgg
    rw [Sem.run_bind, run_underlying he w]
    cases d <;> simp_all
  have hex : (u8s l).extract (k * s) (k * s + s) = u8s (segm l (k * s) s) := by
    rw [u8s_extract, show k * s + s - k * s = s by omega]
    rfl
  have h1 : (0 : Int) ≤ k ∧ (k : Int) < n := ⟨by omega, by omega⟩
  unfold execOp
  simp [ho, hx, hi, Instr.index, asIntOf, run_underlying hu, hk, sizeOf, typeInfo, hie, hse, part, hagg, hex]

section
variable {P : Program} {ops : Array Oper} {rest : List Oper} {o : Oper} {a : Act} {w : World}
theorem wpStill_want {Q : Act → Prop} {v : Value} (hw : Region.wanted o (yielded ops a.tmps) = true) (he : (execOp a.eval o).run P w = .ok (.value v) w) (h : wpStill P ops w Q rest (a.put o.dst v)) : wpStill P ops w Q (o :: rest) a :=
  wpStill_step fun K hK => by
    rw [if_pos hw]
    unfold Oper.still
    rw [he]
    exact ⟨rfl, hK _ h⟩
theorem wpStill_skip {Q : Act → Prop} (hw : Region.wanted o (yielded ops a.tmps) = false) (h : wpStill P ops w Q rest (a.put o.dst undef)) : wpStill P ops w Q (o :: rest) a :=
  wpStill_step fun K hK => by
    rw [if_neg (by rw [hw]; exact Bool.false_ne_true)]
    exact hK _ h
theorem exec_load1 (ty : TypeId) (x : Operand) (ho : o.op = .load ty x) (g off : Nat) (hx : a.eval x = .pointer (some ⟨g, off, none⟩)) (v : Value) (k : IntKind) (hu : P.underlying ty = some (.int k)) (hc : w.cell? ⟨g, off, none⟩ = some v) :
    (execOp a.eval o).run P w = .ok (.value v) w := by
  have hagg : (isAgg ty).run P w = .ok false w := by
    unfold isAgg
    rw [Sem.run_bind, run_underlying hu w]
    rfl
  unfold execOp
  simp [ho, hx, Instr.loadAt, Instr.sureAddr, loadVar, hagg, run_load, hc]
theorem exec_fieldAddr (s : TypeId) (x : Operand) (f : Nat) (ho : o.op = .fieldAddr s x f) (v : Value) (h : (Instr.fieldAt s (a.eval x) f).run P w = .ok v w) :
    (execOp a.eval o).run P w = .ok (.value v) w := by
  unfold execOp
  simp [ho, h]
theorem exec_build_nil (t : TypeId) (ho : o.op = .build t #[]) (cs : Array Value) (h : P.built t [] = some cs) : (execOp a.eval o).run P w = .ok (.value (.agg cs)) w := by
  have := run_build (P := P) w t #[] cs h
  unfold execOp
  simp [ho, this]
theorem exec_load_lit (ty : TypeId) (x : Operand) (ho : o.op = .load ty x)
    (g off : Nat) (hx : a.eval x = .pointer (some ⟨g, off, none⟩)) (t : TypeId) (cs : Array Value) (d : TypeDesc) (n : Nat) (hg : At w g (.cells cs t (0, 0)))
    (hu : P.underlying ty = some d) (hd : (match d with | .struct _ | .array _ _ => true | _ => false) = true) (hi : (P.info? ty).map (·.size) = some n) (hle : off + n ≤ cs.size) (r : Array Value) (hr : cs.extract off (off + n) = r) :
    (execOp a.eval o).run P w = .ok (.value (.agg r)) w := by
  have hl := run_loadVar_part (P := P) w g off t ty cs (0, 0) d n hg hu hd hi hle
  rw [hr] at hl
  unfold execOp
  simp only [ho, hx, Instr.loadAt, Instr.sureAddr, Sem.run_bind, Sem.run_pure, Result.andThen_ok, hl]
end

theorem exec_eql_u8s_b {P : Program} {o : Oper} {a : Act} {w : World} (t rt e : TypeId) (x y : Operand) (ho : o.op = .binOp .eql t x y rt) (n : Nat) (ht : P.underlying t = some (.array n e)) (he : P.underlying e = some (.int .u8))
    (hs : (P.info? e).map (·.size) = some 1) (hm : P.eqGuardType P.depth t = false) (f g : List Nat) (hx : a.eval x = .agg (u8s f)) (hy : a.eval y = .agg (u8s g)) (hf : f.length = n) (hg : g.length = n) (b : Bool) (hb : (f == g) = b) :
    (execOp a.eval o).run P w = .ok (.value (.bool b)) w := by rw [← hb]; exact exec_eql_u8s t rt e x y ho n ht he hs hm f g hx hy hf hg

theorem exec_load_one {P : Program} {o : Oper} {a : Act} {w : World} (ty : TypeId) (x : Operand) (ho : o.op = .load ty x) (g off : Nat) (hx : a.eval x = .pointer (some ⟨g, off, none⟩)) (v : Value) (d : TypeDesc) (hu : P.underlying ty = some d)
    (hd : (match d with | .struct _ | .array _ _ => true | _ => false) = false) (hc : w.cell? ⟨g, off, none⟩ = some v) : (execOp a.eval o).run P w = .ok (.value v) w := by
  have hagg : (isAgg ty).run P w = .ok false w := by
    unfold isAgg
    rw [Sem.run_bind, run_underlying hu w]
    cases d <;> simp_all
  unfold execOp
  simp [ho, hx, Instr.loadAt, Instr.sureAddr, loadVar, hagg, run_load, hc]

end Go.Proofs.Ytebmkmkhfhmfbaa
