/-
  The nodes of a program: a list of structs with pointers to one another.
-/
import Derived.Test.YtokmchadckcilaaPg5
namespace Go.Proofs.Ytokmchadckcilaa
open Go.RowKit
set_option maxRecDepth 100000
structure Nd where
  l : Option Nat
  r : Option Nat
  f : Int
  pl : Int
  nu : Int
  de : Int
  ne : Bool
def ndP (g : Nat) : Option Nat → Value
  | none => .pointer none
  | some j => .pointer (some ⟨g, j * 7, none⟩)
def ndC (g : Nat) (x : Nd) : List Value := [ndP g x.l, ndP g x.r, .int .i64 x.f, .int .i64 x.pl, .int .i64 x.nu, .int .i64 x.de, .bool x.ne]
def ndArr (g M : Nat) (F : Nat → Nd) : Array Value := ((List.range M).map fun i => ndC g (F i)).flatten.toArray
def ndZ : Nd := ⟨none, none, 0, 0, 0, 0, false⟩
theorem ndC_len (g : Nat) (x : Nd) : (ndC g x).length = 7 := rfl
theorem ndRows (g M : Nat) (F : Nat → Nd) : ∀ q ∈ (List.range M).map (fun i => ndC g (F i)), q.length = 7 := by
  intro q hq
  obtain ⟨i, _, rfl⟩ := List.mem_map.1 hq
  rfl
theorem ndArr_size (g M : Nat) (F : Nat → Nd) : (ndArr g M F).size = M * 7 := by
  unfold ndArr
  rw [List.size_toArray, flatK_len (ndRows g M F), List.length_map, List.length_range]
theorem ndArr_get {g M : Nat} {F : Nat → Nd} {i j : Nat} (hi : i < M) (hj : j < 7) : (ndArr g M F)[i * 7 + j]? = (ndC g (F i))[j]? := by
  unfold ndArr
  rw [List.getElem?_toArray]
  exact flatK_get (ndRows g M F) (by simp [hi]) hj
theorem ndArr_get' {g M : Nat} {F : Nat → Nd} {t : Nat} (ht : t < M * 7) : (ndArr g M F)[t]? = (ndC g (F (t / 7)))[t % 7]? := by
  have h := ndArr_get (g := g) (M := M) (F := F) (i := t / 7) (j := t % 7) (by omega) (by omega)
  rwa [show t / 7 * 7 + t % 7 = t by omega] at h
def updN (F : Nat → Nd) (i : Nat) (x : Nd) : Nat → Nd := fun j => if j = i then x else F j
theorem updN_self (F : Nat → Nd) (i : Nat) (x : Nd) : updN F i x i = x := if_pos rfl
theorem updN_ne {F : Nat → Nd} {i j : Nat} {x : Nd} (h : j ≠ i) : updN F i x j = F j := if_neg h
theorem ndArr_congr {g M : Nat} {F G : Nat → Nd} (h : ∀ j, j < M → F j = G j) : ndArr g M F = ndArr g M G := by
  unfold ndArr
  congr 2
  apply List.map_congr_left
  intro i hi
  rw [h i (List.mem_range.1 hi)]
theorem ndArr_set {g M : Nat} {F : Nat → Nd} {i j : Nat} {v : Value} {x : Nd} (hi : i < M) (hj : j < 7) (hx : ndC g x = (ndC g (F i)).set j v) : (ndArr g M F).setIfInBounds (i * 7 + j) v = ndArr g M (updN F i x) := by
  apply Array.ext_getElem?
  intro t
  rw [Array.getElem?_setIfInBounds, ndArr_size]
  by_cases ht : t < M * 7
  · rw [ndArr_get' (F := updN F i x) ht]
    by_cases e : i * 7 + j = t
    · subst e
      rw [if_pos rfl, if_pos ht, show (i * 7 + j) / 7 = i by omega, show (i * 7 + j) % 7 = j by omega, updN_self, hx, List.getElem?_set, if_pos rfl, if_pos (by rw [ndC_len]; exact hj)]
    · rw [if_neg e, ndArr_get' ht]
      by_cases e2 : t / 7 = i
      · rw [e2, updN_self, hx, List.getElem?_set, if_neg (by omega)]
      · rw [updN_ne e2]
  · rw [if_neg (by omega)]
    rw [Array.getElem?_eq_none (by rw [ndArr_size]; omega), Array.getElem?_eq_none (by rw [ndArr_size]; omega)]
theorem nd_cell {w : World} {g M : Nat} {F : Nat → Nd} {t : TypeId} (h : At w g (.cells (ndArr g M F) t (0, 0))) {i : Nat} (hi : i < M) (j : Nat) (hj : j < 7) (v : Value) (hv : (ndC g (F i))[j]? = some v) : w.cell? ⟨g, i * 7 + j, none⟩ = some v := by
  rw [h.at_, ndArr_get hi hj, hv]
theorem ndC_one (g : Nat) (x : Nd) : ∀ v ∈ ndC g x, v.cells = #[v] ∧ v.oneCell' = true := by
  intro v hv
  obtain ⟨l, r, f, pl, nu, de, ne⟩ := x
  simp only [ndC, List.mem_cons, List.not_mem_nil, or_false] at hv
  rcases hv with rfl | rfl | rfl | rfl | rfl | rfl | rfl
  · cases l <;> exact ⟨rfl, rfl⟩
  · cases r <;> exact ⟨rfl, rfl⟩
  all_goals exact ⟨rfl, rfl⟩
/-- A store into a field of a node. -/
theorem wp_store_nd {P : Program} {o : Oper} {a : Act} {w : World} {K : Act → World → Prop} {Q : Exit → Act → World → Prop} (ty : TypeId) (x y : Operand) (ho : o.op = .store ty x y) (hdst : o.dst = none) (g M i j : Nat) (F : Nat → Nd) (nx : Nd) (hx : a.eval x = .pointer (some ⟨g, i * 7 + j, none⟩)) (v : Value) (hy : a.eval y = v)
    (t : TypeId) (hg : At w g (.cells (ndArr g M F) t (0, 0))) (hi : (P.info? ty).map (·.size) = some 1) (hiM : i < M) (hj : j < 7) (hn : ndC g nx = (ndC g (F i)).set j v) (hv : v ∈ ndC g nx)
    (h : ∀ w', Put w w' g (.cells (ndArr g M (updN F i nx)) t (0, 0)) → K a w') : Oper.wp P o a w K Q := by
  refine wp_store_one ty x y ho hdst g (i * 7 + j) hx v hy (ndC_one g nx v hv).1 (ndC_one g nx v hv).2 t _ hg hi (by rw [ndArr_size]; omega) (fun w' p => h w' ?_)
  rwa [ndArr_set hiM hj hn] at p
theorem infoNode : (Try.prog.info? 77).map (fun i => (i.zero, i.size, i.bytes)) = some (some (.agg #[.pointer none, .pointer none, .int .i64 0, .int .i64 0, .int .i64 0, .int .i64 0, .bool false]), 7, 56) := by kernel_rfl
theorem made_nd (g n : Nat) : madeCells #[.pointer none, .pointer none, .int .i64 0, .int .i64 0, .int .i64 0, .int .i64 0, .bool false] (n * 7) = ndArr g n (fun _ => ndZ) := by
  apply Array.ext_getElem?
  intro t
  by_cases ht : t < n * 7
  · rw [ndArr_get' ht]
    have h7 : t % 7 < 7 := Nat.mod_lt _ (by omega)
    rw [Array.getElem?_eq_getElem (by rw [size_madeCells]; exact ht)]
    simp only [madeCells, Array.getElem_map, Array.getElem_range, ndC, ndZ, ndP]
    show some ((#[Value.pointer none, .pointer none, .int .i64 0, .int .i64 0, .int .i64 0, .int .i64 0, .bool false] : Array Value)[t % 7]!) = _
    generalize t % 7 = m at *
    rcases (show m = 0 ∨ m = 1 ∨ m = 2 ∨ m = 3 ∨ m = 4 ∨ m = 5 ∨ m = 6 by omega) with rfl | rfl | rfl | rfl | rfl | rfl | rfl <;> rfl
  · rw [Array.getElem?_eq_none (by rw [size_madeCells]; omega), Array.getElem?_eq_none (by rw [ndArr_size]; omega)]
theorem wp_make_nd {o : Oper} {a : Act} {w : World} {K : Act → World → Prop} {Q : Exit → Act → World → Prop} (d : Option Tmp) (hd : o.dst = d) (l c : Operand) (hop : o.op = Op.makeSlice 73 l c)
    (n : Nat) (hl : a.eval l = .int .i64 n) (hc : a.eval c = .int .i64 n) (hb : n ≤ 1000000)
    (h : ∀ w', New w w' (.cells (ndArr w.heap.size n (fun _ => ndZ)) 77 (0, 0)) → K (a.put d (.slice (some ⟨w.heap.size, 0, none⟩) n n)) w') : Oper.wp Try.prog o a w K Q := by
  subst hd
  obtain ⟨i, hi0, hz, h1, h2⟩ := info_parts infoNode
  have hr := run_make (P := Try.prog) w 73 77 i _ Try.underlying73 hi0 hz .i64 .i64 n n (by omega) (Int.le_refl _) (by rw [h2]; omega) (by omega)
  simp only [Int.toNat_natCast, h1, Value.cells, made_nd w.heap.size n] at hr
  unfold Oper.wp
  simp [execOp, hop, hl, hc, hr, Result.andThen]
  exact h _ (New.alloc _ _)
/-! ### Depths, and the nodes behind the first k steps -/
def depV (ds : List Int) (q : List Int) : Int := 1 + (if getI ds (k0 q).toNat < getI ds (k1 q).toNat then getI ds (k1 q).toNat else getI ds (k0 q).toNat)
def depsL (N : Nat) (ss : List (List Int)) : Nat → List Int
  | 0 => List.replicate N 0
  | k + 1 => depsL N ss k ++ [depV (depsL N ss k) (ss[k]?.getD [])]
theorem depsL_len (N : Nat) (ss : List (List Int)) (k : Nat) : (depsL N ss k).length = N + k := by
  induction k with
  | zero => simp [depsL]
  | succ k ih => simp only [depsL, List.length_append, ih, List.length_cons, List.length_nil]; omega
theorem depsL_step (N : Nat) {ss : List (List Int)} {k : Nat} (hk : k < ss.length) : depsL N ss (k + 1) = depsL N ss k ++ [depV (depsL N ss k) ss[k]] := by simp [depsL, hk]
theorem depsL_b (N : Nat) (ss : List (List Int)) (k : Nat) : ∀ t, 0 ≤ getI (depsL N ss k) t ∧ getI (depsL N ss k) t ≤ k := by
  induction k with
  | zero =>
    intro t
    simp only [getI, depsL, List.getElem?_replicate]
    split <;> simp
  | succ k ih =>
    intro t
    unfold getI
    simp only [depsL]
    by_cases e : t < (depsL N ss k).length
    · rw [List.getElem?_append_left e]
      have := ih t
      unfold getI at this
      omega
    · by_cases e2 : t = (depsL N ss k).length
      · subst e2
        have h1 := ih (k0 (ss[k]?.getD [])).toNat
        have h2 := ih (k1 (ss[k]?.getD [])).toNat
        simp only [List.getElem?_concat_length, Option.getD_some, depV]
        split <;> omega
      · rw [List.getElem?_eq_none (by simp; omega)]
        simp
        omega
def lkN (N : Nat) (ss : List (List Int)) (k j : Nat) : Option (List Int) := if N ≤ j then (ss.take k)[j - N]? else none
def ndOf (N : Nat) (ss : List (List Int)) (k : Nat) (j : Nat) : Nd :=
  ⟨(lkN N ss k j).map fun q => (k0 q).toNat, (lkN N ss k j).map fun q => (k1 q).toNat, ((lkN N ss k j).map k2).getD 0, j, 0, getI (depsL N ss k) j, false⟩
def ndA (a : Nat) (j : Nat) : Nd := if j < a then ⟨none, none, 0, j, 0, 0, false⟩ else ndZ
theorem ndA_step (a : Nat) : ∀ j, updN (ndA a) a ⟨none, none, 0, a, 0, 0, false⟩ j = ndA (a + 1) j := by
  intro j
  unfold updN ndA
  by_cases e : j = a
  · subst e; rw [if_pos rfl, if_pos (by omega)]
  · rw [if_neg e]
    by_cases h : j < a
    · rw [if_pos h, if_pos (by omega)]
    · rw [if_neg h, if_neg (by omega)]
theorem ndOf_zero (N : Nat) (ss : List (List Int)) (M : Nat) : ∀ j, j < M → ndA M j = ndOf N ss 0 j := by
  intro j hj
  have h : lkN N ss 0 j = none := by unfold lkN; split <;> simp
  have h2 : getI (depsL N ss 0) j = 0 := by have := depsL_b N ss 0 j; omega
  unfold ndA ndOf
  rw [if_pos hj, h, h2]
  rfl
theorem lkN_step {N : Nat} {ss : List (List Int)} {k j : Nat} (hk : k < ss.length) : lkN N ss (k + 1) j = if j = N + k then some ss[k] else lkN N ss k j := by
  unfold lkN
  by_cases h : N ≤ j
  · rw [if_pos h, if_pos h, List.getElem?_take, List.getElem?_take]
    by_cases e : j = N + k
    · subst e
      rw [if_pos (by omega), if_pos rfl, show N + k - N = k by omega, List.getElem?_eq_getElem hk]
    · rw [if_neg e]
      by_cases h2 : j - N < k
      · rw [if_pos (by omega), if_pos h2]
      · rw [if_neg (by omega), if_neg h2]
  · rw [if_neg h, if_neg h, if_neg (by omega)]
theorem depsL_at {N : Nat} {ss : List (List Int)} {k : Nat} (hk : k < ss.length) (j : Nat) : getI (depsL N ss (k + 1)) j = if j = N + k then depV (depsL N ss k) ss[k] else getI (depsL N ss k) j := by
  have hl := depsL_len N ss k
  rw [depsL_step N hk]
  unfold getI
  by_cases e : j = N + k
  · rw [if_pos e, e, ← hl]
    simp
  · rw [if_neg e]
    by_cases h : j < (depsL N ss k).length
    · rw [List.getElem?_append_left h]
    · rw [List.getElem?_eq_none (show (depsL N ss k ++ [depV (depsL N ss k) ss[k]]).length ≤ j by rw [List.length_append]; simp; omega), List.getElem?_eq_none (by omega)]
theorem ndOf_step {N : Nat} {ss : List (List Int)} {k : Nat} (hk : k < ss.length) : ∀ j, updN (ndOf N ss k) (N + k) ⟨some (k0 ss[k]).toNat, some (k1 ss[k]).toNat, k2 ss[k], ((N + k : Nat) : Int), 0, depV (depsL N ss k) ss[k], false⟩ j = ndOf N ss (k + 1) j := by
  intro j
  show (if j = N + k then _ else ndOf N ss k j) = _
  by_cases e : j = N + k
  · subst e
    rw [if_pos rfl]
    unfold ndOf
    rw [lkN_step hk, if_pos rfl, depsL_at hk, if_pos rfl]
    rfl
  · rw [if_neg e]
    unfold ndOf
    rw [lkN_step hk, if_neg e, depsL_at hk, if_neg e]
theorem lkN_new {N : Nat} {ss : List (List Int)} {k : Nat} : lkN N ss k (N + k) = none := by
  unfold lkN
  rw [if_pos (by omega), show N + k - N = k by omega, List.getElem?_take, if_neg (by omega)]
theorem depsL_new {N : Nat} {ss : List (List Int)} {k : Nat} : getI (depsL N ss k) (N + k) = 0 := by
  unfold getI
  rw [List.getElem?_eq_none (by rw [depsL_len]; omega)]
  rfl
theorem ndOf_new {N : Nat} {ss : List (List Int)} {k : Nat} : ndOf N ss k (N + k) = ⟨none, none, 0, ((N + k : Nat) : Int), 0, 0, false⟩ := by
  unfold ndOf
  rw [lkN_new, depsL_new]
  rfl
theorem updN_updN (F : Nat → Nd) (i : Nat) (x y : Nd) : ∀ j, updN (updN F i x) i y j = updN F i y j := by
  intro j
  unfold updN
  by_cases e : j = i
  · rw [if_pos e, if_pos e]
  · rw [if_neg e, if_neg e, if_neg e]
end Go.Proofs.Ytokmchadckcilaa
