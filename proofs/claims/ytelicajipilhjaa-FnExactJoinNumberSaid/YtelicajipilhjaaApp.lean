/-
  Appends to slices of products, their stores; a scheme in a box with products of its own. No function of the program is named here.
-/
import Derived.Test.YtelicajipilhjaaResS
import Derived.Test.YtelicajipilhjaaHeld
import Derived.Great.BuildSlice
namespace Go.Proofs.Ytelicajipilhjaa
open Go.RowKit
set_option maxRecDepth 100000
theorem mul9 {a b M : Nat} (hM : M ≤ 3) (ha : a < 3) (hb : b < M) : a * M + b < 9 := by
  have h : a * M ≤ 2 * M := Nat.mul_le_mul_right _ (by omega)
  omega
section
variable {P : Program} {ops : Array Oper} {rest : List Oper} {o : Oper} {a : Act} {w : World} {Q : Exit → Act → World → Prop}
theorem run_storeVar_one (w : World) (g off : Nat) (t ty : TypeId) (cs : Array Value) (v : Value) (hv : v.cells = #[v]) (h1 : v.oneCell' = true) (hg : w.heap[g]? = some (.cells cs t (0, 0)))
    (hi : (P.info? ty).map (·.size) = some 1) (hle : off < cs.size) :
    (storeVar ty ⟨g, off, none⟩ v).run P w = .ok () (w.setRow g (splice cs off #[v])) := by
  cases hq : P.info? ty with
  | none => simp [hq] at hi
  | some i =>
    have hs : i.size = 1 := by simpa [hq] using hi
    have hst := run_storeCells_at P g off t [v] 0 cs w hg (by simp; omega) (by simpa using h1)
    simp only [Nat.add_zero] at hst
    simp [storeVar, Sem.run_bind, sizeOf, typeInfo, hq, hs, hv, hst, splice]
theorem splice_one {cs : Array Value} {i : Nat} {v : Value} (h : i < cs.size) : splice cs i #[v] = cs.setIfInBounds i v := by
  apply Array.ext'
  rw [Array.toList_setIfInBounds, List.set_eq_take_append_cons_drop, if_pos (by simpa using h)]
  simp [splice]
/-- One cell of a block is stored. -/
theorem wpList_store_one (hgd : o.guard = none) (ty : TypeId) (x y : Operand) (ho : o.op = .store ty x y) (hdst : o.dst = none) (g i : Nat) (hx : a.eval x = .pointer (some ⟨g, i, none⟩)) (v : Value) (hy : a.eval y = v)
    (hv : v.cells = #[v]) (h1 : v.oneCell' = true) (t : TypeId) (cs : Array Value) (hg : At w g (.cells cs t (0, 0))) (hi : (P.info? ty).map (·.size) = some 1) (hle : i < cs.size)
    (h : ∀ w', Put w w' g (.cells (cs.setIfInBounds i v) t (0, 0)) → wpList P ops Q rest a w') : wpList P ops Q (o :: rest) a w :=
  wpList_plain hgd fun _ hK => by
    unfold Oper.wp execOp
    simp only [ho, hx, hy, Instr.storeAt, Instr.sureAddr, Sem.run_bind, Sem.run_pure, Result.andThen_ok, run_storeVar_one w g i t ty cs v hv h1 hg hi hle]
    simp only [Oper.upon, hdst, Act.put]
    rw [splice_one hle]
    exact hK _ _ (h _ ⟨setRow_heap _ _ _ _ _ _ hg, fun h' hk => (setRow_other _ _ _ _ hk).trans h', fun hs => (setRow_size _ _ _).trans hs, fun hb hB => below_setRow' hb hB _⟩)
theorem wpList_store_byte (hgd : o.guard = none) (ty : TypeId) (x y : Operand) (ho : o.op = .store ty x y) (hdst : o.dst = none) (g i : Nat) (hx : a.eval x = .pointer (some ⟨g, i, none⟩)) (n : Nat) (hy : a.eval y = .int .u8 (n : Int))
    (t : TypeId) (l : List Nat) (hg : At w g (.cells (u8s l) t (0, 0))) (hi : (P.info? ty).map (·.size) = some 1) (hle : i < l.length)
    (h : ∀ w', Put w w' g (.cells (u8s (l.set i n)) t (0, 0)) → wpList P ops Q rest a w') : wpList P ops Q (o :: rest) a w := by
  refine wpList_store_one hgd ty x y ho hdst g i hx _ hy rfl rfl t (u8s l) hg hi (by rw [u8s_size]; exact hle) ?_
  rw [u8s_set]
  exact h
end
theorem infoProd : (Try.prog.info? 49).map (fun i => (i.zero, i.size, i.bytes)) = some (some (.agg (u8s (List.replicate 27 0))), 27, 27) := by kernel_rfl
theorem zero27 : ((Array.range (1 * 27)).map ((Value.agg (u8s (List.replicate 27 0))).cells[· % (Value.agg (u8s (List.replicate 27 0))).cells.size]!)) = u8s (List.replicate 27 0) := by kernel_rfl
theorem run_buildSlice1 {P : Program} (w : World) (t e : TypeId) (q : List Nat) (hu : P.underlying t = some (.slice e))
    (hi : (P.info? e).map (fun i => (i.zero, i.size, i.bytes)) = some (some (.agg (u8s (List.replicate 27 0))), 27, 27)) (hq : q.length = 27) :
    (Instr.buildSlice t 1 #[(0, .agg (u8s q))]).run P w = .ok (.slice (some ⟨w.heap.size, 0, none⟩) 1 1) (w.alloc (.cells (u8s q) e)) := by
  obtain ⟨i, hi0, hz, h1, h2⟩ := info_parts hi
  refine run_buildSlice w t e 1 _ (u8s q) i _ hu hi0 hz (by rw [h1]; omega) (by rw [h1]; omega) ?_
  rw [h1, zero27]
  rw [fill_u8s (fun i => some (i * 27, 27)) (List.replicate 27 0) q 0 0 27 [] rfl hq (by simp), over_all (by simp [hq])]
  rfl
section
variable {P : Program} {ops : Array Oper} {rest : List Oper} {o : Oper} {a : Act} {w : World} {Q : Exit → Act → World → Prop}
theorem exec_buildSlice1 (t e : TypeId) (x : Operand) (ho : o.op = .buildSlice t 1 #[(0, x)]) (q : List Nat) (hx : a.eval x = .agg (u8s q)) (hu : P.underlying t = some (.slice e))
    (hi : (P.info? e).map (fun i => (i.zero, i.size, i.bytes)) = some (some (.agg (u8s (List.replicate 27 0))), 27, 27)) (hq : q.length = 27) :
    (execOp a.eval o).run P w = .ok (.value (.slice (some ⟨w.heap.size, 0, none⟩) 1 1)) (w.alloc (.cells (u8s q) e)) := by
  have := run_buildSlice1 (P := P) w t e q hu hi hq
  unfold execOp
  simp [ho, hx, this]
theorem wpList_buildSlice1 (hg : o.guard = none) (t e : TypeId) (x : Operand) (ho : o.op = .buildSlice t 1 #[(0, x)]) (q : List Nat) (hx : a.eval x = .agg (u8s q)) (hu : P.underlying t = some (.slice e))
    (hi : (P.info? e).map (fun i => (i.zero, i.size, i.bytes)) = some (some (.agg (u8s (List.replicate 27 0))), 27, 27)) (hq : q.length = 27)
    (h : ∀ w', New w w' (.cells (u8s q) e (0, 0)) → wpList P ops Q rest (a.put o.dst (.slice (some ⟨w.heap.size, 0, none⟩) 1 1)) w') : wpList P ops Q (o :: rest) a w :=
  wpList_of_exec hg (exec_buildSlice1 t e x ho q hx hu hi hq) (h _ (New.alloc _ _))
end
theorem Shp.cells {v : Value} {n : Nat} (h : Shp v n) : v.cells = #[v] ∧ v.oneCell' = true := by
  rcases h with ⟨rfl, _⟩ | ⟨g, c, rfl⟩ <;> exact ⟨rfl, rfl⟩
theorem Own.off {w : World} {lo g : Nat} {v : Value} {qs : List (List Nat)} {cs : Array Value} {t : TypeId} (h : Own w lo v qs) (hg : At w g (.cells cs t (0, 0))) (ht : t ≠ 49) : some g ≠ v.ownBlock := fun e => by
  rcases h.2 with ⟨rfl, _⟩ | ⟨g', cap, cur, rfl, hb, hgg, _⟩
  · cases e
  · simp only [Value.ownBlock, Option.some.injEq] at e
    subst e
    have h1 : some (Obj.cells cs t (0, 0)) = some (Obj.cells cur 49 (0, 0)) := hg.symm.trans hgg
    simp only [Option.some.injEq, Obj.cells.injEq] at h1
    exact ht h1.2.1
theorem Own.put {w w' : World} {lo g : Nat} {v : Value} {qs : List (List Nat)} {o : Obj} (h : Own w lo v qs) (hp : Put w w' g o) (hne : some g ≠ v.ownBlock) : Own w' lo v qs := by
  refine ⟨h.1, ?_⟩
  rcases h.2 with hn | ⟨g2, cap, cur, rfl, hb, hgg, rest⟩
  · exact .inl hn
  · exact .inr ⟨g2, cap, cur, rfl, hb, hp.other (k := g2) hgg (fun e => hne (by simp [Value.ownBlock, e])), rest⟩
theorem u8s_snoc (qs : List (List Nat)) (q : List Nat) : (u8s (qs ++ [q]).flatten).toList = (u8s qs.flatten).toList ++ (u8s q).toList := by simp [u8s]
/-- A scheme in a box, its products in memory of their own. -/
structure KB (w : World) (lo g : Nat) (p n m k : Int) (qs : List (List Nat)) (v : Value) (wr : World) : Prop where
  below : Below w.heap.size w wr
  own : Own wr lo v qs
  box : At wr g (.cells #[.int .i64 p, .int .i64 n, .int .i64 m, .int .i64 k, v] 28 (0, 0))
  lo_le : w.heap.size ≤ lo
  g_le : w.heap.size ≤ g
section
variable {w wr w2 w3 : World} {lo g : Nat} {p n m k : Int} {qs : List (List Nat)} {v v' : Value}
theorem KB.after (h : KB w lo g p n m k qs v wr) (hb : Below wr.heap.size wr w2) : KB w lo g p n m k qs v w2 := ⟨below_after h.below hb, h.own.below hb, h.box.after hb, h.lo_le, h.g_le⟩
theorem KB.drew (h : KB w lo g p n m k qs v wr) : KB w lo g p n m k qs v wr.drew := ⟨h.below.drew, h.own, h.box, h.lo_le, h.g_le⟩
theorem KB.c4 (h : KB w lo g p n m k qs v wr) : wr.cell? ⟨g, 4, none⟩ = some v := h.box.at_ 4
/-- Behind an append of one product. -/
theorem KB.grow (h : KB w lo g p n m k qs v wr) {q : List Nat} (gr : wr.grownBy w3 v.ownBlock) (ow : w3.ownsRow lo 49 27 v' (qs.length + 1) ((u8s qs.flatten).toList ++ (u8s q).toList)) :
    Below w.heap.size w w3 ∧ Own w3 lo v' (qs ++ [q]) ∧ At w3 g (.cells #[.int .i64 p, .int .i64 n, .int .i64 m, .int .i64 k, v] 28 (0, 0)) := by
  refine ⟨below_grown h.below gr h.own h.lo_le, ?_, h.box.grown gr (h.own.off h.box (by decide))⟩
  unfold Own
  rw [u8s_snoc, List.length_append]
  exact ow
theorem KB.put (h : Below w.heap.size w w3 ∧ Own w3 lo v' qs ∧ At w3 g (.cells #[.int .i64 p, .int .i64 n, .int .i64 m, .int .i64 k, v] 28 (0, 0))) (hl : w.heap.size ≤ lo) (hg : w.heap.size ≤ g)
    {w4 : World} (hp : Put w3 w4 g (.cells #[.int .i64 p, .int .i64 n, .int .i64 m, .int .i64 k, v'] 28 (0, 0))) : KB w lo g p n m k qs v' w4 := by
  have hoff := h.2.1.off h.2.2 (by decide)
  refine ⟨hp.below h.1 hg, ?_, hp.at_, hl, hg⟩
  refine ⟨h.2.1.1, ?_⟩
  rcases h.2.1.2 with hn | ⟨g', cap, cur, rfl, hb, hgg, rest⟩
  · exact .inl hn
  · exact .inr ⟨g', cap, cur, rfl, hb, hp.other (k := g') hgg (fun e => hoff (by simp [Value.ownBlock, e])), rest⟩
/-- Behind a store into another block. -/
theorem KB.other (h : KB w lo g p n m k qs v wr) {g' : Nat} {o' : Obj} (hp : Put wr w2 g' o') (hne : g' ≠ g) (hv : some g' ≠ v.ownBlock) (hl : w.heap.size ≤ g') : KB w lo g p n m k qs v w2 := by
  refine ⟨hp.below h.below hl, ?_, hp.other h.box (fun e => hne e.symm), h.lo_le, h.g_le⟩
  refine ⟨h.own.1, ?_⟩
  rcases h.own.2 with hn | ⟨g2, cap, cur, rfl, hb, hgg, rest⟩
  · exact .inl hn
  · exact .inr ⟨g2, cap, cur, rfl, hb, hp.other (k := g2) hgg (fun e => hv (by simp [Value.ownBlock, e])), rest⟩
end
theorem cells_of_new {w w' : World} {q : List Nat} {t : TypeId} (h : New w w' (.cells (u8s q) t (0, 0))) : ∀ j u, (u8s q).toList[j]? = some u → w'.cell? ((⟨w.heap.size, 0, none⟩ : Addr).add j) = some u := by
  intro j u hu
  rw [add_none, Nat.zero_add, h.at_.at_, ← Array.getElem?_toList]
  exact hu
theorem KB.new {w wr w2 : World} {lo g : Nat} {p n m k : Int} {qs : List (List Nat)} {v : Value} {o : Obj} (h : KB w lo g p n m k qs v wr) (hn : New wr w2 o) : KB w lo g p n m k qs v w2 := h.after (hn.below (Below.refl _ _) (Nat.le_refl _))
theorem wp_store_one {P : Program} {o : Oper} {a : Act} {w : World} {K : Act → World → Prop} {Q : Exit → Act → World → Prop} (ty : TypeId) (x y : Operand) (ho : o.op = .store ty x y) (hdst : o.dst = none) (g i : Nat) (hx : a.eval x = .pointer (some ⟨g, i, none⟩)) (v : Value) (hy : a.eval y = v)
    (hv : v.cells = #[v]) (h1 : v.oneCell' = true) (t : TypeId) (cs : Array Value) (hg : At w g (.cells cs t (0, 0))) (hi : (P.info? ty).map (·.size) = some 1) (hle : i < cs.size)
    (h : ∀ w', Put w w' g (.cells (cs.setIfInBounds i v) t (0, 0)) → K a w') : Oper.wp P o a w K Q := by
  unfold Oper.wp execOp
  simp only [ho, hx, hy, Instr.storeAt, Instr.sureAddr, Sem.run_bind, Sem.run_pure, Result.andThen_ok, run_storeVar_one w g i t ty cs v hv h1 hg hi hle]
  simp only [Oper.upon, hdst, Act.put]
  rw [splice_one hle]
  exact h _ ⟨setRow_heap _ _ _ _ _ _ hg, fun h' hk => (setRow_other _ _ _ _ hk).trans h', fun hs => (setRow_size _ _ _).trans hs, fun hb hB => below_setRow' hb hB _⟩
theorem built_prod (parts : List (Nat × Value)) : Try.prog.built 49 parts = Instr.fill (fun i => (#[(0, 9), (9, 9), (18, 9)] : Array (Nat × Nat))[i]?) (u8s (List.replicate 27 0)) parts := by kernel_rfl
theorem exec_prod {o : Oper} {a : Act} {w : World} (x y z : Operand) (ho : o.op = .build 49 #[(0, x), (1, y), (2, z)]) (p q r : List Nat)
    (hx : a.eval x = .agg (u8s p)) (hy : a.eval y = .agg (u8s q)) (hz : a.eval z = .agg (u8s r)) (hp : p.length = 9) (hq : q.length = 9) (hr : r.length = 9) :
    (execOp a.eval o).run Try.prog w = .ok (.value (.agg (u8s (p ++ q ++ r)))) w := by
  have hb : Try.prog.built 49 [(0, .agg (u8s p)), (1, .agg (u8s q)), (2, .agg (u8s r))] = some (u8s (p ++ q ++ r)) := by
    have l1 : (over (List.replicate 27 0) 0 p).length = 27 := by rw [over_length (by simp [hp])]; simp
    have l2 : (over (over (List.replicate 27 0) 0 p) 9 q).length = 27 := by rw [over_length (by rw [l1, hq]; omega), l1]
    rw [built_prod, fill_u8s _ _ _ 0 0 9 _ rfl hp (by simp), fill_u8s _ _ _ 1 9 9 _ rfl hq (by rw [l1]; omega), fill_u8s _ _ _ 2 18 9 _ rfl hr (by rw [l2]; omega)]
    have h3 := over3 (p ++ q ++ r) (by simp [hp, hq, hr])
    have s0 : segm (p ++ q ++ r) 0 9 = p := by simp [segm, hp]
    have s1 : segm (p ++ q ++ r) 9 9 = q := by simp [segm, hp, hq]
    have s2 : segm (p ++ q ++ r) 18 9 = r := by
      have e : List.drop 18 (p ++ q ++ r) = r := by rw [List.drop_append, List.drop_eq_nil_of_le (by simp [hp, hq]), List.length_append, hp, hq]; rfl
      rw [segm, e, ← hr, List.take_length]
    rw [s0, s1, s2] at h3
    rw [h3]
    rfl
  unfold execOp
  have := run_build (P := Try.prog) w 49 #[(0, .agg (u8s p)), (1, .agg (u8s q)), (2, .agg (u8s r))] _ hb
  simp [ho, hx, hy, hz, this]
theorem wp_slice1 {P : Program} {o : Oper} {a : Act} {w : World} {K : Act → World → Prop} {Q : Exit → Act → World → Prop} (d : Option Tmp) (hd : o.dst = d) (t e : TypeId) (x : Operand) (ho : o.op = .buildSlice t 1 #[(0, x)]) (q : List Nat) (hx : a.eval x = .agg (u8s q)) (hu : P.underlying t = some (.slice e))
    (hi : (P.info? e).map (fun i => (i.zero, i.size, i.bytes)) = some (some (.agg (u8s (List.replicate 27 0))), 27, 27)) (hq : q.length = 27)
    (h : ∀ w', New w w' (.cells (u8s q) e (0, 0)) → K (a.put d (.slice (some ⟨w.heap.size, 0, none⟩) 1 1)) w') : Oper.wp P o a w K Q :=
  wp_exec d hd _ (exec_buildSlice1 t e x ho q hx hu hi hq) (h _ (New.alloc _ _))
theorem wp_append' {P : Program} {o : Oper} {a : Act} {w : World} {K : Act → World → Prop} {Q : Exit → Act → World → Prop} (d : Option Tmp) (hd : o.dst = d) (s x : Operand) (t : TypeId)
    (ho : o.op = .call { callee := .builtin .append, args := #[s, x], argTypes := #[t, t] })
    (base : Nat) (e : TypeId) (i : TypeInfo) (z : Value) (size bytes : Nat) (ht : P.underlying t = some (.slice e)) (hi : P.info? e = some i) (hz : i.zero = some z)
    (hsize : i.size = size) (hby : i.bytes = bytes) (hzs : z.cells.size = size) (hsz : 0 < size)
    (v : Value) (n : Nat) (xs : List Value) (hs : a.eval s = v) (hown : w.ownsRow base e size v n xs)
    (ad : Addr) (m c : Nat) (news : List Value) (hx : a.eval x = .slice (some ad) m c) (hl : news.length = m * size) (hnews : ∀ j u, news[j]? = some u → w.cell? (ad.add j) = some u) (h1 : ∀ u ∈ news, u.oneCell' = true)
    (h63 : n + m ≤ maxLen) (hbytes : (n + m) * bytes ≤ 140737488355328) (hbase : base ≤ w.heap.size)
    (h : ∀ v' w', w'.ownsRow base e size v' (n + m) (xs ++ news) → w.grownBy w' v.ownBlock → (v' = .slice none 0 0 ↔ v = .slice none 0 0 ∧ m = 0) → K (a.put d v') w') : Oper.wp P o a w K Q := by
  subst hd
  exact wp_append_own w s x t ho base e i z size bytes ht hi hz hsize hby hzs hsz v n xs hs hown ad m c news hx hl hnews h1 h63 hbytes hbase h
end Go.Proofs.Ytelicajipilhjaa
