/-
  Appends to slices of products, their stores; a scheme in a box with products of its own. No function of the program is named here.
  Single operations, run. No function of the program is named here.
  For the laws' walks: boxes, marks of schemes, what a world keeps behind them, told by the intervals of blocks.
  Regions that draw their order, with guarded operations ('&&' and '||'), walked by hand. No function of the program is named here.
-/
import Derived.Test.YtebmkmkhfhmfbaaMark
import Derived.Test.YtebmkmkhfhmfbaaHeld
import Derived.Great.BuildSlice
import Derived.Deep.CutRange
namespace Go.Proofs.Ytebmkmkhfhmfbaa
open Go.RowKit
set_option maxRecDepth 100000
theorem mul9 {a b M : Nat} (hM : M ≤ 3) (ha : a < 3) (hb : b < M) : a * M + b < 9 := by
  have h : a * M ≤ 2 * M := Nat.mul_le_mul_right _ (by omega)
  omega
section
variable {P : Program} {ops : Array Oper} {rest : List Oper} {o : Oper} {a : Act} {w : World} {Q : Exit → Act → World → Prop}
theorem run_storeVar_one (w : World) (g off : Nat) (t ty : TypeId) (cs : Array Value) (v : Value) (hv : v.cells = #[v]) (h1 : v.oneCell' = true) (hg : w.heap[g]? = some (.cells cs t (0, 0)))
    (hi : (P.info? ty).map (·.size) = some 1) (hle : off < cs.size) :
    (storeVar ty ⟨g, off, none⟩ v).run P w = .ok () (w.setRow g (splice cs off #[v])) := by
  cases hq : P.info? ty with
  | none => simp [hq] at hi
  | some i =>
    have hs : i.size = 1 := by simpa [hq] using hi
    have hst := run_storeCells_at P g off t [v] 0 cs w hg (by simp; omega) (by simpa using h1)
    simp only [Nat.add_zero] at hst
    simp [storeVar, Sem.run_bind, sizeOf, typeInfo, hq, hs, hv, hst, splice]
theorem splice_one {cs : Array Value} {i : Nat} {v : Value} (h : i < cs.size) : splice cs i #[v] = cs.setIfInBounds i v := by
  apply Array.ext'
  rw [Array.toList_setIfInBounds, List.set_eq_take_append_cons_drop, if_pos (by simpa using h)]
  simp [splice]
/-- One cell of a block is stored. -/
theorem wpList_store_one (hgd : o.guard = none) (ty : TypeId) (x y : Operand) (ho : o.op = .store ty x y) (hdst : o.dst = none) (g i : Nat) (hx : a.eval x = .pointer (some ⟨g, i, none⟩)) (v : Value) (hy : a.eval y = v)
    (hv : v.cells = #[v]) (h1 : v.oneCell' = true) (t : TypeId) (cs : Array Value) (hg : At w g (.cells cs t (0, 0))) (hi : (P.info? ty).map (·.size) = some 1) (hle : i < cs.size)
    (h : ∀ w', Put w w' g (.cells (cs.setIfInBounds i v) t (0, 0)) → wpList P ops Q rest a w') : wpList P ops Q (o :: rest) a w :=
  wpList_plain hgd fun _ hK => by
    unfold Oper.wp execOp
    simp only [ho, hx, hy, Instr.storeAt, Instr.sureAddr, Sem.run_bind, Sem.run_pure, Result.andThen_ok, run_storeVar_one w g i t ty cs v hv h1 hg hi hle]
    simp only [Oper.upon, hdst, Act.put]
    rw [splice_one hle]
    exact hK _ _ (h _ ⟨setRow_heap _ _ _ _ _ _ hg, fun h' hk => (setRow_other _ _ _ _ hk).trans h', fun hs => (setRow_size _ _ _).trans hs, fun hb hB => below_setRow' hb hB _⟩)
theorem wpList_store_byte (hgd : o.guard = none) (ty : TypeId) (x y : Operand) (ho : o.op = .store ty x y) (hdst : o.dst = none) (g i : Nat) (hx : a.eval x = .pointer (some ⟨g, i, none⟩)) (n : Nat) (hy : a.eval y = .int .u8 (n : Int))
    (t : TypeId) (l : List Nat) (hg : At w g (.cells (u8s l) t (0, 0))) (hi : (P.info? ty).map (·.size) = some 1) (hle : i < l.length)
    (h : ∀ w', Put w w' g (.cells (u8s (l.set i n)) t (0, 0)) → wpList P ops Q rest a w') : wpList P ops Q (o :: rest) a w := by
  refine wpList_store_one hgd ty x y ho hdst g i hx _ hy rfl rfl t (u8s l) hg hi (by rw [u8s_size]; exact hle) ?_
  rw [u8s_set]
  exact h
end
theorem infoProd : (Try.prog.info? 47).map (fun i => (i.zero, i.size, i.bytes)) = some (some (.agg (u8s (List.replicate 27 0))), 27, 27) := by kernel_rfl
theorem zero27 : ((Array.range (1 * 27)).map ((Value.agg (u8s (List.replicate 27 0))).cells[· % (Value.agg (u8s (List.replicate 27 0))).cells.size]!)) = u8s (List.replicate 27 0) := by kernel_rfl
theorem run_buildSlice1 {P : Program} (w : World) (t e : TypeId) (q : List Nat) (hu : P.underlying t = some (.slice e))
    (hi : (P.info? e).map (fun i => (i.zero, i.size, i.bytes)) = some (some (.agg (u8s (List.replicate 27 0))), 27, 27)) (hq : q.length = 27) :
    (Instr.buildSlice t 1 #[(0, .agg (u8s q))]).run P w = .ok (.slice (some ⟨w.heap.size, 0, none⟩) 1 1) (w.alloc (.cells (u8s q) e)) := by
  obtain ⟨i, hi0, hz, h1, h2⟩ := info_parts hi
  refine run_buildSlice w t e 1 _ (u8s q) i _ hu hi0 hz (by rw [h1]; omega) (by rw [h1]; omega) ?_
  rw [h1, zero27]
  rw [fill_u8s (fun i => some (i * 27, 27)) (List.replicate 27 0) q 0 0 27 [] rfl hq (by simp), over_all (by simp [hq])]
  rfl
section
variable {P : Program} {ops : Array Oper} {rest : List Oper} {o : Oper} {a : Act} {w : World} {Q : Exit → Act → World → Prop}
theorem exec_buildSlice1 (t e : TypeId) (x : Operand) (ho : o.op = .buildSlice t 1 #[(0, x)]) (q : List Nat) (hx : a.eval x = .agg (u8s q)) (hu : P.underlying t = some (.slice e))
    (hi : (P.info? e).map (fun i => (i.zero, i.size, i.bytes)) = some (some (.agg (u8s (List.replicate 27 0))), 27, 27)) (hq : q.length = 27) :
    (execOp a.eval o).run P w = .ok (.value (.slice (some ⟨w.heap.size, 0, none⟩) 1 1)) (w.alloc (.cells (u8s q) e)) := by
  have := run_buildSlice1 (P := P) w t e q hu hi hq
  unfold execOp
  simp [ho, hx, this]
theorem wpList_buildSlice1 (hg : o.guard = none) (t e : TypeId) (x : Operand) (ho : o.op = .buildSlice t 1 #[(0, x)]) (q : List Nat) (hx : a.eval x = .agg (u8s q)) (hu : P.underlying t = some (.slice e))
    (hi : (P.info? e).map (fun i => (i.zero, i.size, i.bytes)) = some (some (.agg (u8s (List.replicate 27 0))), 27, 27)) (hq : q.length = 27)
    (h : ∀ w', New w w' (.cells (u8s q) e (0, 0)) → wpList P ops Q rest (a.put o.dst (.slice (some ⟨w.heap.size, 0, none⟩) 1 1)) w') : wpList P ops Q (o :: rest) a w :=
  wpList_of_exec hg (exec_buildSlice1 t e x ho q hx hu hi hq) (h _ (New.alloc _ _))
end
theorem Shp.cells {v : Value} {n : Nat} (h : Shp v n) : v.cells = #[v] ∧ v.oneCell' = true := by
  rcases h with ⟨rfl, _⟩ | ⟨g, c, rfl⟩ <;> exact ⟨rfl, rfl⟩
theorem Own.off {w : World} {lo g : Nat} {v : Value} {qs : List (List Nat)} {cs : Array Value} {t : TypeId} (h : Own w lo v qs) (hg : At w g (.cells cs t (0, 0))) (ht : t ≠ 47) : some g ≠ v.ownBlock := fun e => by
  rcases h.2 with ⟨rfl, _⟩ | ⟨g', cap, cur, rfl, hb, hgg, _⟩
  · cases e
  · simp only [Value.ownBlock, Option.some.injEq] at e
    subst e
    have h1 : some (Obj.cells cs t (0, 0)) = some (Obj.cells cur 47 (0, 0)) := hg.symm.trans hgg
    simp only [Option.some.injEq, Obj.cells.injEq] at h1
    exact ht h1.2.1
theorem Own.put {w w' : World} {lo g : Nat} {v : Value} {qs : List (List Nat)} {o : Obj} (h : Own w lo v qs) (hp : Put w w' g o) (hne : some g ≠ v.ownBlock) : Own w' lo v qs := by
  refine ⟨h.1, ?_⟩
  rcases h.2 with hn | ⟨g2, cap, cur, rfl, hb, hgg, rest⟩
  · exact .inl hn
  · exact .inr ⟨g2, cap, cur, rfl, hb, hp.other (k := g2) hgg (fun e => hne (by simp [Value.ownBlock, e])), rest⟩
theorem u8s_snoc (qs : List (List Nat)) (q : List Nat) : (u8s (qs ++ [q]).flatten).toList = (u8s qs.flatten).toList ++ (u8s q).toList := by simp [u8s]
/-- A scheme in a box, its products in memory of their own. -/
structure KB (w : World) (lo g : Nat) (p n m k : Int) (qs : List (List Nat)) (v : Value) (wr : World) : Prop where
  below : Below w.heap.size w wr
  own : Own wr lo v qs
  box : At wr g (.cells #[.int .i64 p, .int .i64 n, .int .i64 m, .int .i64 k, v] 31 (0, 0))
  lo_le : w.heap.size ≤ lo
  g_le : w.heap.size ≤ g
section
variable {w wr w2 w3 : World} {lo g : Nat} {p n m k : Int} {qs : List (List Nat)} {v v' : Value}
theorem KB.after (h : KB w lo g p n m k qs v wr) (hb : Below wr.heap.size wr w2) : KB w lo g p n m k qs v w2 := ⟨below_after h.below hb, h.own.below hb, h.box.after hb, h.lo_le, h.g_le⟩
theorem KB.drew (h : KB w lo g p n m k qs v wr) : KB w lo g p n m k qs v wr.drew := ⟨h.below.drew, h.own, h.box, h.lo_le, h.g_le⟩
theorem KB.c4 (h : KB w lo g p n m k qs v wr) : wr.cell? ⟨g, 4, none⟩ = some v := h.box.at_ 4
/-- Behind an append of one product. -/
theorem KB.grow (h : KB w lo g p n m k qs v wr) {q : List Nat} (gr : wr.grownBy w3 v.ownBlock) (ow : w3.ownsRow lo 47 27 v' (qs.length + 1) ((u8s qs.flatten).toList ++ (u8s q).toList)) :
    Below w.heap.size w w3 ∧ Own w3 lo v' (qs ++ [q]) ∧ At w3 g (.cells #[.int .i64 p, .int .i64 n, .int .i64 m, .int .i64 k, v] 31 (0, 0)) := by
  refine ⟨below_grown h.below gr h.own h.lo_le, ?_, h.box.grown gr (h.own.off h.box (by decide))⟩
  unfold Own
  rw [u8s_snoc, List.length_append]
  exact ow
theorem KB.put (h : Below w.heap.size w w3 ∧ Own w3 lo v' qs ∧ At w3 g (.cells #[.int .i64 p, .int .i64 n, .int .i64 m, .int .i64 k, v] 31 (0, 0))) (hl : w.heap.size ≤ lo) (hg : w.heap.size ≤ g)
    {w4 : World} (hp : Put w3 w4 g (.cells #[.int .i64 p, .int .i64 n, .int .i64 m, .int .i64 k, v'] 31 (0, 0))) : KB w lo g p n m k qs v' w4 := by
  have hoff := h.2.1.off h.2.2 (by decide)
  refine ⟨hp.below h.1 hg, ?_, hp.at_, hl, hg⟩
  refine ⟨h.2.1.1, ?_⟩
  rcases h.2.1.2 with hn | ⟨g', cap, cur, rfl, hb, hgg, rest⟩
  · exact .inl hn
  · exact .inr ⟨g', cap, cur, rfl, hb, hp.other (k := g') hgg (fun e => hoff (by simp [Value.ownBlock, e])), rest⟩
/-- Behind a store into another block. -/
theorem KB.other (h : KB w lo g p n m k qs v wr) {g' : Nat} {o' : Obj} (hp : Put wr w2 g' o') (hne : g' ≠ g) (hv : some g' ≠ v.ownBlock) (hl : w.heap.size ≤ g') : KB w lo g p n m k qs v w2 := by
  refine ⟨hp.below h.below hl, ?_, hp.other h.box (fun e => hne e.symm), h.lo_le, h.g_le⟩
  refine ⟨h.own.1, ?_⟩
  rcases h.own.2 with hn | ⟨g2, cap, cur, rfl, hb, hgg, rest⟩
  · exact .inl hn
  · exact .inr ⟨g2, cap, cur, rfl, hb, hp.other (k := g2) hgg (fun e => hv (by simp [Value.ownBlock, e])), rest⟩
end
theorem cells_of_new {w w' : World} {q : List Nat} {t : TypeId} (h : New w w' (.cells (u8s q) t (0, 0))) : ∀ j u, (u8s q).toList[j]? = some u → w'.cell? ((⟨w.heap.size, 0, none⟩ : Addr).add j) = some u := by
  intro j u hu
  rw [add_none, Nat.zero_add, h.at_.at_, ← Array.getElem?_toList]
  exact hu
theorem KB.new {w wr w2 : World} {lo g : Nat} {p n m k : Int} {qs : List (List Nat)} {v : Value} {o : Obj} (h : KB w lo g p n m k qs v wr) (hn : New wr w2 o) : KB w lo g p n m k qs v w2 := h.after (hn.below (Below.refl _ _) (Nat.le_refl _))
theorem wp_store_one {P : Program} {o : Oper} {a : Act} {w : World} {K : Act → World → Prop} {Q : Exit → Act → World → Prop} (ty : TypeId) (x y : Operand) (ho : o.op = .store ty x y) (hdst : o.dst = none) (g i : Nat) (hx : a.eval x = .pointer (some ⟨g, i, none⟩)) (v : Value) (hy : a.eval y = v)
    (hv : v.cells = #[v]) (h1 : v.oneCell' = true) (t : TypeId) (cs : Array Value) (hg : At w g (.cells cs t (0, 0))) (hi : (P.info? ty).map (·.size) = some 1) (hle : i < cs.size)
    (h : ∀ w', Put w w' g (.cells (cs.setIfInBounds i v) t (0, 0)) → K a w') : Oper.wp P o a w K Q := by
  unfold Oper.wp execOp
  simp only [ho, hx, hy, Instr.storeAt, Instr.sureAddr, Sem.run_bind, Sem.run_pure, Result.andThen_ok, run_storeVar_one w g i t ty cs v hv h1 hg hi hle]
  simp only [Oper.upon, hdst, Act.put]
  rw [splice_one hle]
  exact h _ ⟨setRow_heap _ _ _ _ _ _ hg, fun h' hk => (setRow_other _ _ _ _ hk).trans h', fun hs => (setRow_size _ _ _).trans hs, fun hb hB => below_setRow' hb hB _⟩
theorem built_prod (parts : List (Nat × Value)) : Try.prog.built 47 parts = Instr.fill (fun i => (#[(0, 9), (9, 9), (18, 9)] : Array (Nat × Nat))[i]?) (u8s (List.replicate 27 0)) parts := by kernel_rfl
theorem exec_prod {o : Oper} {a : Act} {w : World} (x y z : Operand) (ho : o.op = .build 47 #[(0, x), (1, y), (2, z)]) (p q r : List Nat)
    (hx : a.eval x = .agg (u8s p)) (hy : a.eval y = .agg (u8s q)) (hz : a.eval z = .agg (u8s r)) (hp : p.length = 9) (hq : q.length = 9) (hr : r.length = 9) :
    (execOp a.eval o).run Try.prog w = .ok (.value (.agg (u8s (p ++ q ++ r)))) w := by
  have hb : Try.prog.built 47 [(0, .agg (u8s p)), (1, .agg (u8s q)), (2, .agg (u8s r))] = some (u8s (p ++ q ++ r)) := by
    have l1 : (over (List.replicate 27 0) 0 p).length = 27 := by rw [over_length (by simp [hp])]; simp
    have l2 : (over (over (List.replicate 27 0) 0 p) 9 q).length = 27 := by rw [over_length (by rw [l1, hq]; omega), l1]
    rw [built_prod, fill_u8s _ _ _ 0 0 9 _ rfl hp (by simp), fill_u8s _ _ _ 1 9 9 _ rfl hq (by rw [l1]; omega), fill_u8s _ _ _ 2 18 9 _ rfl hr (by rw [l2]; omega)]
    have h3 := over3 (p ++ q ++ r) (by simp [hp, hq, hr])
    have s0 : segm (p ++ q ++ r) 0 9 = p := by simp [segm, hp]
    have s1 : segm (p ++ q ++ r) 9 9 = q := by simp [segm, hp, hq]
    have s2 : segm (p ++ q ++ r) 18 9 = r := by
      have e : List.drop 18 (p ++ q ++ r) = r := by rw [List.drop_append, List.drop_eq_nil_of_le (by simp [hp, hq]), List.length_append, hp, hq]; rfl
      rw [segm, e, ← hr, List.take_length]
    rw [s0, s1, s2] at h3
    rw [h3]
    rfl
  unfold execOp
  have := run_build (P := Try.prog) w 47 #[(0, .agg (u8s p)), (1, .agg (u8s q)), (2, .agg (u8s r))] _ hb
  simp [ho, hx, hy, hz, this]
theorem wp_slice1 {P : Program} {o : Oper} {a : Act} {w : World} {K : Act → World → Prop} {Q : Exit → Act → World → Prop} (d : Option Tmp) (hd : o.dst = d) (t e : TypeId) (x : Operand) (ho : o.op = .buildSlice t 1 #[(0, x)]) (q : List Nat) (hx : a.eval x = .agg (u8s q)) (hu : P.underlying t = some (.slice e))
    (hi : (P.info? e).map (fun i => (i.zero, i.size, i.bytes)) = some (some (.agg (u8s (List.replicate 27 0))), 27, 27)) (hq : q.length = 27)
    (h : ∀ w', New w w' (.cells (u8s q) e (0, 0)) → K (a.put d (.slice (some ⟨w.heap.size, 0, none⟩) 1 1)) w') : Oper.wp P o a w K Q :=
  wp_exec d hd _ (exec_buildSlice1 t e x ho q hx hu hi hq) (h _ (New.alloc _ _))
theorem wp_append' {P : Program} {o : Oper} {a : Act} {w : World} {K : Act → World → Prop} {Q : Exit → Act → World → Prop} (d : Option Tmp) (hd : o.dst = d) (s x : Operand) (t : TypeId)
    (ho : o.op = .call { callee := .builtin .append, args := #[s, x], argTypes := #[t, t] })
    (base : Nat) (e : TypeId) (i : TypeInfo) (z : Value) (size bytes : Nat) (ht : P.underlying t = some (.slice e)) (hi : P.info? e = some i) (hz : i.zero = some z)
    (hsize : i.size = size) (hby : i.bytes = bytes) (hzs : z.cells.size = size) (hsz : 0 < size)
    (v : Value) (n : Nat) (xs : List Value) (hs : a.eval s = v) (hown : w.ownsRow base e size v n xs)
    (ad : Addr) (m c : Nat) (news : List Value) (hx : a.eval x = .slice (some ad) m c) (hl : news.length = m * size) (hnews : ∀ j u, news[j]? = some u → w.cell? (ad.add j) = some u) (h1 : ∀ u ∈ news, u.oneCell' = true)
    (h63 : n + m ≤ maxLen) (hbytes : (n + m) * bytes ≤ 140737488355328) (hbase : base ≤ w.heap.size)
    (h : ∀ v' w', w'.ownsRow base e size v' (n + m) (xs ++ news) → w.grownBy w' v.ownBlock → (v' = .slice none 0 0 ↔ v = .slice none 0 0 ∧ m = 0) → K (a.put d v') w') : Oper.wp P o a w K Q := by
  subst hd
  exact wp_append_own w s x t ho base e i z size bytes ht hi hz hsize hby hzs hsz v n xs hs hown ad m c news hx hl hnews h1 h63 hbytes hbase h
end Go.Proofs.Ytebmkmkhfhmfbaa
namespace Go.Proofs.Ytebmkmkhfhmfbaa
open Go.RowKit
set_option maxRecDepth 100000
theorem exec_conv {o : Oper} {a : Act} {w : World} (x : Operand) (ho : o.op = .convert 5 2 x) (y : Nat) (hx : a.eval x = .int .u8 (y : Int)) (hy : y < 256) : (execOp a.eval o).run Try.prog w = .ok (.value (.int .i64 (y : Int))) w := by
  have hw : IntKind.i64.wrap (y : Int) = (y : Int) := IntWalk.i64_in _ (by omega)
  unfold execOp
  simp only [ho, hx]
  simp [go_sem, hw]
theorem exec_quo {P : Program} {o : Oper} {a : Act} {w : World} (t t' : TypeId) (x y : Operand) (ho : o.op = .binOp .quo t x y t') (m n r : Int) (hx : a.eval x = .int .i64 m) (hy : a.eval y = .int .i64 n) (hn : n ≠ 0) (hr : IntKind.i64.wrap (m.tdiv n) = r) :
    (execOp a.eval o).run P w = .ok (.value (.int .i64 r)) w := by
  subst hr
  unfold execOp
  simp only [ho, hx, hy]
  simp [go_sem, hn]
theorem exec_nilCheck {P : Program} {o : Oper} {a : Act} {w : World} (x : Operand) (ho : o.op = .nilCheck x) (ad : Addr) (hx : a.eval x = .pointer (some ad)) : (execOp a.eval o).run P w = .ok (.value (.pointer (some ad))) w := by
  unfold execOp
  simp only [ho, hx]
  simp [go_sem]
theorem exec_rem {P : Program} {o : Oper} {a : Act} {w : World} (t t' : TypeId) (x y : Operand) (ho : o.op = .binOp .rem t x y t') (m n r : Int) (hx : a.eval x = .int .i64 m) (hy : a.eval y = .int .i64 n) (hn : n ≠ 0) (hr : m.tmod n = r) :
    (execOp a.eval o).run P w = .ok (.value (.int .i64 r)) w := by
  subst hr
  unfold execOp
  simp only [ho, hx, hy]
  simp [go_sem, hn]
section
variable {P : Program} {o : Oper} {a : Act} {w : World}
theorem exec_index1 (ty e : TypeId) (x i : Operand) (ho : o.op = .indexAddr ty x i) (b off len cap k : Nat) (hx : a.eval x = .slice (some ⟨b, off, none⟩) len cap) (hi : a.eval i = .int .i64 k)
    (hu : P.underlying ty = some (.slice e)) (hs : (P.info? e).map (·.size) = some 1) (hk : k < len) :
    (execOp a.eval o).run P w = .ok (.value (.pointer (some ⟨b, off + k, none⟩))) w := by
  have h := exec_index_slice (P := P) (w := w) ty e x i ho b off len cap k 1 hx hi hu hs hk
  rwa [Nat.mul_one] at h
theorem exec_index0 (ty e : TypeId) (x i : Operand) (ho : o.op = .indexAddr ty x i) (b len cap k : Nat) (hx : a.eval x = .slice (some ⟨b, 0, none⟩) len cap) (hi : a.eval i = .int .i64 k)
    (hu : P.underlying ty = some (.slice e)) (hs : (P.info? e).map (·.size) = some 1) (hk : k < len) :
    (execOp a.eval o).run P w = .ok (.value (.pointer (some ⟨b, k, none⟩))) w := by
  have h := exec_index1 (P := P) (w := w) ty e x i ho b 0 len cap k hx hi hu hs hk
  rwa [Nat.zero_add] at h
end
theorem exec_len {P : Program} {o : Oper} {a : Act} {w : World} (x : Operand) (t e : TypeId) (ho : o.op = .call { callee := .builtin .len, args := #[x], argTypes := #[t] }) (A : Option Addr) (n c : Nat) (hx : a.eval x = .slice A n c) (ht : P.underlying t = some (.slice e)) :
    (execOp a.eval o).run P w = .ok (.value (.int .i64 (n : Int))) w := by
  unfold execOp
  simp only [ho, resolve, invoke, builtin, Sem.run_bind, Sem.run_pure, Result.andThen_ok, List.map_toArray, List.map_cons, List.map_nil, hx]
  simp [Builtin.len_, go_sem, run_underlying ht]
theorem wp_call4 {P : Program} {Q : Exit → Act → World → Prop} {o : Oper} {a : Act} {w : World} {K : Act → World → Prop} (d : Option Tmp) (hd : o.dst = d) (f : Nat) (x y z u : Operand) (ts : Array TypeId) (ho : o.op = .call { callee := .value (.func f), args := #[x, y, z, u], argTypes := ts }) (hcall : ∀ args w, (callFunc f args).run P w = .ok (.enter f args) w)
    (v1 v2 v3 v4 : Value) (hx : a.eval x = v1) (hy : a.eval y = v2) (hz : a.eval z = v3) (hu : a.eval u = v4) (post : Ending → World → Prop) (hc : Calls P f #[v1, v2, v3, v4] w post) (h : ∀ e w', post e w' → ∃ v, e = .returned v ∧ K (a.put d v) w') : Oper.wp P o a w K Q :=
  wp_call d hd f #[x, y, z, u] ts ho hcall #[v1, v2, v3, v4] (by simp [hx, hy, hz, hu]) post hc h
theorem exec_alloc_prod {o : Oper} {a : Act} {w : World} (ho : o.op = .alloc 47) : (execOp a.eval o).run Try.prog w = .ok (.value (.pointer (some ⟨w.heap.size, 0, none⟩))) (w.alloc (.cells (u8s (List.replicate 27 0)) 47 (0, 0))) := by
  unfold execOp
  rw [ho]
  kernel_rfl
theorem exec_sub {P : Program} {o : Oper} {a : Act} {w : World} (t t' : TypeId) (x y : Operand) (ho : o.op = .binOp .sub t x y t') (m n r : Int) (hx : a.eval x = .int .i64 m) (hy : a.eval y = .int .i64 n) (hr : IntKind.i64.wrap (m - n) = r) :
    (execOp a.eval o).run P w = .ok (.value (.int .i64 r)) w := by
  subst hr
  unfold execOp
  simp only [ho, hx, hy]
  simp [go_sem]
/-- A store of bytes into a part of a block of bytes. -/
theorem wp_store_u8s {P : Program} {o : Oper} {a : Act} {w : World} {K : Act → World → Prop} {Q : Exit → Act → World → Prop} (ty : TypeId) (x y : Operand) (ho : o.op = .store ty x y) (hdst : o.dst = none) (g off : Nat) (hx : a.eval x = .pointer (some ⟨g, off, none⟩)) (r : List Nat) (hy : a.eval y = .agg (u8s r))
    (t : TypeId) (l : List Nat) (hg : At w g (.cells (u8s l) t (0, 0))) (n : Nat) (hi : (P.info? ty).map (·.size) = some n) (hn : r.length = n) (hle : off + n ≤ l.length)
    (h : ∀ w', Put w w' g (.cells (u8s (over l off r)) t (0, 0)) → K a w') : Oper.wp P o a w K Q := by
  have hs := run_storeVar_part (P := P) w g off t ty (u8s l) (u8s r) hg (by rw [u8s_size, hn]; exact hi) (by rw [u8s_size, u8s_size]; omega) (u8s_one r)
  rw [splice_u8s] at hs
  unfold Oper.wp execOp
  simp only [ho, hx, hy, Instr.storeAt, Instr.sureAddr, Sem.run_bind, Sem.run_pure, Result.andThen_ok, hs]
  simp only [Oper.upon, hdst, Act.put]
  exact h _ ⟨setRow_heap _ _ _ _ _ _ hg, fun h' hk => (setRow_other _ _ _ _ hk).trans h', fun hs => (setRow_size _ _ _).trans hs, fun hb hB => below_setRow' hb hB _⟩
theorem exec_load_seg {P : Program} {o : Oper} {a : Act} {w : World} (ty : TypeId) (x : Operand) (ho : o.op = .load ty x)
    (g off : Nat) (hx : a.eval x = .pointer (some ⟨g, off, none⟩)) (t : TypeId) (l : List Nat) (d : TypeDesc) (n : Nat) (hg : At w g (.cells (u8s l) t (0, 0)))
    (hu : P.underlying ty = some d) (hd : (match d with | .struct _ | .array _ _ => true | _ => false) = true) (hi : (P.info? ty).map (·.size) = some n) (hle : off + n ≤ l.length) (r : List Nat) (hs : segm l off n = r) :
    (execOp a.eval o).run P w = .ok (.value (.agg (u8s r))) w := by
  subst hs
  exact exec_load_u8s ty x ho g off hx t l d n hg hu hd hi hle
/-- A product is its three forms. -/
def cat3 (A B C : List Nat) : List Nat := A ++ B ++ C
theorem over_a {A B C A' : List Nat} (hA : A.length = 9) (hA' : A'.length = 9) : over (cat3 A B C) 0 A' = cat3 A' B C := by
  simp [over, cat3, hA', ← hA]
theorem over_b {A B C B' : List Nat} (hA : A.length = 9) (hB : B.length = 9) (hB' : B'.length = 9) : over (cat3 A B C) 9 B' = cat3 A B' C := by
  have h1 : (A ++ (B ++ C)).take 9 = A := by rw [← hA, List.take_left]
  have h2 : (A ++ (B ++ C)).drop 18 = C := by
    rw [show 18 = A.length + B.length by omega, ← List.append_assoc, ← List.length_append, List.drop_left]
  simp [over, cat3, hB', h1, h2]
theorem over_c {A B C C' : List Nat} (hA : A.length = 9) (hB : B.length = 9) (hC : C.length = 9) (hC' : C'.length = 9) : over (cat3 A B C) 18 C' = cat3 A B C' := by
  have h1 : (A ++ (B ++ C)).take 18 = A ++ B := by
    rw [show 18 = A.length + B.length by omega, ← List.append_assoc, ← List.length_append, List.take_left]
  have h2 : (A ++ (B ++ C)).drop 27 = [] := List.drop_of_length_le (by simp; omega)
  simp [over, cat3, hC', h1, h2]
theorem segm_a {A B C : List Nat} (hA : A.length = 9) : segm (cat3 A B C) 0 9 = A := by
  simp [segm, cat3, ← hA]
theorem segm_b {A B C : List Nat} (hA : A.length = 9) (hB : B.length = 9) : segm (cat3 A B C) 9 9 = B := by
  have h2 : (A ++ (B ++ C)).drop 9 = B ++ C := by rw [← hA, List.drop_left]
  rw [segm, cat3, List.append_assoc, h2, ← hB, List.take_left]
theorem segm_c {A B C : List Nat} (hA : A.length = 9) (hB : B.length = 9) (hC : C.length = 9) : segm (cat3 A B C) 18 9 = C := by
  have h2 : (A ++ (B ++ C)).drop 18 = C := by
    rw [show 18 = A.length + B.length by omega, ← List.append_assoc, ← List.length_append, List.drop_left]
  simp [segm, cat3, h2, ← hC]
theorem parts3 {q : List Nat} (hq : Bytes 27 q) : ∃ A B C, q = cat3 A B C ∧ Bytes 9 A ∧ Bytes 9 B ∧ Bytes 9 C := by
  refine ⟨segm q 0 9, segm q 9 9, segm q 18 9, ?_, segm_bytes hq (by omega), segm_bytes hq (by omega), segm_bytes hq (by omega)⟩
  have h := hq.len
  simp only [segm, cat3, List.drop_zero]
  rw [show (q.drop 18).take 9 = q.drop 18 from List.take_of_length_le (by simp; omega)]
  rw [List.append_assoc, show q.drop 18 = (q.drop 9).drop 9 by rw [List.drop_drop], List.take_append_drop, List.take_append_drop]
theorem bytes3 {A B C : List Nat} (hA : Bytes 9 A) (hB : Bytes 9 B) (hC : Bytes 9 C) : Bytes 27 (cat3 A B C) := by
  refine ⟨by simp [cat3, hA.len, hB.len, hC.len], fun n hn => ?_⟩
  simp only [cat3, List.mem_append] at hn
  rcases hn with (hn | hn) | hn
  · exact hA.2 n hn
  · exact hB.2 n hn
  · exact hC.2 n hn
theorem len3 {A B C : List Nat} (hA : Bytes 9 A) (hB : Bytes 9 B) (hC : Bytes 9 C) : 27 ≤ (cat3 A B C).length := by simp [cat3, hA.len, hB.len, hC.len]
end Go.Proofs.Ytebmkmkhfhmfbaa
namespace Go.Proofs.Ytebmkmkhfhmfbaa
open Go.RowKit
set_option maxRecDepth 100000
theorem call_toScheme (args : Array Value) (w : World) : (callFunc 7 args).run Try.prog w = .ok (.enter 7 args) w := by kernel_rfl
theorem call_eqScheme (args : Array Value) (w : World) : (callFunc 10 args).run Try.prog w = .ok (.enter 10 args) w := by kernel_rfl
theorem wp_call2 {P : Program} {Q : Exit → Act → World → Prop} {o : Oper} {a : Act} {w : World} {K : Act → World → Prop} (d : Option Tmp) (hd : o.dst = d) (f : Nat) (x y : Operand) (ts : Array TypeId) (ho : o.op = .call { callee := .value (.func f), args := #[x, y], argTypes := ts }) (hcall : ∀ args w, (callFunc f args).run P w = .ok (.enter f args) w)
    (v1 v2 : Value) (hx : a.eval x = v1) (hy : a.eval y = v2) (post : Ending → World → Prop) (hc : Calls P f #[v1, v2] w post) (h : ∀ e w', post e w' → ∃ v, e = .returned v ∧ K (a.put d v) w') : Oper.wp P o a w K Q :=
  wp_call d hd f #[x, y] ts ho hcall #[v1, v2] (by simp [hx, hy]) post hc h
theorem exec_not {P : Program} {o : Oper} {a : Act} {w : World} (t : TypeId) (x : Operand) (ho : o.op = .unOp .not t x) (b : Bool) (hx : a.eval x = .bool b) : (execOp a.eval o).run P w = .ok (.value (.bool (!b))) w := by
  unfold execOp
  simp only [ho, hx]
  simp [go_sem]
theorem exec_extract {P : Program} {o : Oper} {a : Act} {w : World} (x : Operand) (i : Nat) (ho : o.op = .extract x i) (vs : Array Value) (hx : a.eval x = .tuple vs) (v : Value) (hi : vs[i]? = some v) : (execOp a.eval o).run P w = .ok (.value v) w := by
  unfold execOp
  simp only [ho, hx]
  simp [go_sem, hi]
theorem exec_assign {P : Program} {o : Oper} {a : Act} {w : World} (x : Operand) (ho : o.op = .assign x) (v : Value) (hx : a.eval x = v) : (execOp a.eval o).run P w = .ok (.value v) w := by
  unfold execOp
  simp only [ho, hx]
  simp [go_sem]
theorem exec_alloc_scheme {o : Oper} {a : Act} {w : World} (ho : o.op = .alloc 31) : (execOp a.eval o).run Try.prog w = .ok (.value (.pointer (some ⟨w.heap.size, 0, none⟩))) (w.alloc (.cells #[.int .i64 0, .int .i64 0, .int .i64 0, .int .i64 0, .slice none 0 0] 31 (0, 0))) := by
  unfold execOp
  rw [ho]
  kernel_rfl
theorem wp_new {P : Program} {o : Oper} {a : Act} {w : World} {K : Act → World → Prop} {Q : Exit → Act → World → Prop} {v : Value} {ob : Obj} (d : Option Tmp) (hd : o.dst = d) (he : (execOp a.eval o).run P w = .ok (.value v) (w.alloc ob)) (h : ∀ w', New w w' ob → K (a.put d v) w') : Oper.wp P o a w K Q :=
  wp_exec d hd v he (h _ (New.alloc _ _))
/-- A store of a whole aggregate. -/
theorem wp_store_all {P : Program} {o : Oper} {a : Act} {w : World} {K : Act → World → Prop} {Q : Exit → Act → World → Prop} (ty : TypeId) (x y : Operand) (ho : o.op = .store ty x y) (hdst : o.dst = none) (g : Nat) (hx : a.eval x = .pointer (some ⟨g, 0, none⟩)) (vs : Array Value) (hy : a.eval y = .agg vs)
    (t : TypeId) (cs : Array Value) (hg : At w g (.cells cs t (0, 0))) (n : Nat) (hi : (P.info? ty).map (·.size) = some n) (hn : vs.size = n) (hl : cs.size = n) (h1 : ∀ v ∈ vs.toList, v.oneCell' = true)
    (h : ∀ w', Put w w' g (.cells vs t (0, 0)) → K a w') : Oper.wp P o a w K Q := by
  have hs := run_storeVar_part (P := P) w g 0 t ty cs vs hg (by rw [hn]; exact hi) (by omega) h1
  rw [splice_all (by omega)] at hs
  unfold Oper.wp execOp
  simp only [ho, hx, hy, Instr.storeAt, Instr.sureAddr, Sem.run_bind, Sem.run_pure, Result.andThen_ok, hs]
  simp only [Oper.upon, hdst, Act.put]
  exact h _ ⟨setRow_heap _ _ _ _ _ _ hg, fun h' hk => (setRow_other _ _ _ _ hk).trans h', fun hs => (setRow_size _ _ _).trans hs, fun hb hB => below_setRow' hb hB _⟩
theorem one5 (p n m k : Int) (A : Option Addr) (l c : Nat) : ∀ v ∈ (#[.int .i64 p, .int .i64 n, .int .i64 m, .int .i64 k, .slice A l c] : Array Value).toList, v.oneCell' = true := by
  intro x hx
  simp at hx
  rcases hx with rfl | rfl | rfl | rfl | rfl <;> rfl
/-- The arguments' boxes: what was there at first; the scheme's box; the further box. -/
structure KA (w : World) (bs : List (Nat × Obj)) (wr : World) : Prop where
  below : Below w.heap.size w wr
  box : ∀ b ∈ bs, At wr b.1 b.2
section
variable {w wr w2 : World} {bs : List (Nat × Obj)}
theorem KA.after (h : KA w bs wr) (hb : Below wr.heap.size wr w2) : KA w bs w2 := ⟨below_after h.below hb, fun b hm => (h.box b hm).after hb⟩
theorem KA.drew (h : KA w bs wr) : KA w bs wr.drew := ⟨h.below.drew, h.box⟩
theorem KA.put (h : KA w bs wr) {g : Nat} {o : Obj} (hp : Put wr w2 g o) (hg : w.heap.size ≤ g) (hne : ∀ b ∈ bs, b.1 ≠ g) : KA w bs w2 := ⟨hp.below h.below hg, fun b hm => hp.other (h.box b hm) (hne b hm)⟩
theorem KA.lt (h : KA w bs wr) : ∀ b ∈ bs, b.1 < wr.heap.size := fun b hm => (h.box b hm).lt
theorem KA.more (h : KA w bs wr) {g : Nat} {o : Obj} (hg : At wr g o) : KA w ((g, o) :: bs) wr := ⟨h.below, fun b hm => by
  rcases List.mem_cons.1 hm with rfl | hm
  · exact hg
  · exact h.box b hm⟩
theorem KA.grown (h : KA w bs wr) {lo : Nat} {v : Value} {rs : List (List Nat)} (ho : Own wr lo v rs) (hl : w.heap.size ≤ lo) (hG : wr.grownBy w2 v.ownBlock) (hne : ∀ b ∈ bs, ∃ cs t, b.2 = .cells cs t (0, 0) ∧ t ≠ 47) : KA w bs w2 :=
  ⟨below_grown h.below hG ho hl, fun b hm => by
    obtain ⟨cs, t, e, ht⟩ := hne b hm
    have hb := h.box b hm
    rw [e] at hb ⊢
    exact hb.grown hG (ho.off hb ht)⟩
end
theorem own_symm {a b : Option Nat} (h : a = none ∨ a ≠ b) : b = none ∨ b ≠ a := by
  rcases h with rfl | h
  · rcases b with _ | b
    · exact .inl rfl
    · exact .inr (by simp)
  · exact .inr (Ne.symm h)
/-- The slice's block, where it has one, is there. -/
def Blk (w : World) (v : Value) : Prop := ∀ g, v.ownBlock = some g → g < w.heap.size
theorem Blk.after {w w' : World} {v : Value} (h : Blk w v) (hb : Below w.heap.size w w') : Blk w' v := fun g hg => Nat.lt_of_lt_of_le (h g hg) hb.size
theorem Blk.of {w w' : World} {lo : Nat} {v : Value} {qs : List (List Nat)} {r : Option Nat} (h : Own w lo v qs) (hG : w.grownBy w' r) : Blk w' v := fun _ hg => Nat.lt_of_lt_of_le (h.lt hg).2 hG.size
theorem Blk.ne {w : World} {v : Value} (h : Blk w v) : some w.heap.size ≠ v.ownBlock := fun e => by
  have := h _ e.symm
  omega
theorem Held.put {w w' : World} {v : Value} {k n g : Nat} {o : Obj} (h : Held w v k n) (hp : Put w w' g o) (hne : some g ≠ v.ownBlock) : Held w' v k n := fun g' hg i hi => by
  have hc := h g' hg i hi
  have hlt := block_lt_of_cell hc
  have hat : At w g' (w.heap[g']) := Array.getElem?_eq_getElem hlt
  have hat' := hp.other hat (fun e => hne (by rw [← e, hg]))
  rw [World.cell?_of_block (a := ⟨g', i, none⟩) (w := w) (show w'.heap[g']? = w.heap[g']? by rw [hat', hat])]
  exact hc
theorem call_toProduct (args : Array Value) (w : World) : (callFunc 47 args).run Try.prog w = .ok (.enter 47 args) w := by kernel_rfl
/-- Only blocks of a range may have changed. -/
structure Same (lo hi : Nat) (w w' : World) : Prop where
  os : w'.os = w.os
  tape : w'.tape = w.tape
  output : w'.output = w.output
  size : w.heap.size ≤ w'.heap.size
  block : ∀ k, k < w.heap.size → k < lo ∨ hi ≤ k → w'.heap[k]? = w.heap[k]?
section
variable {w w' w'' w0 : World} {lo hi lo' hi' g k b n : Nat}
theorem Below.same (hb : Below w.heap.size w w') (lo hi : Nat) : Same lo hi w w' := ⟨hb.os, hb.tape, hb.output, hb.size, fun k hk _ => hb.block k hk⟩
theorem Same.refl (lo hi : Nat) (w : World) : Same lo hi w w := ⟨rfl, rfl, rfl, Nat.le_refl _, fun _ _ _ => rfl⟩
theorem Same.trans (h : Same lo hi w w') (h' : Same lo hi w' w'') : Same lo hi w w'' :=
  ⟨h'.os.trans h.os, h'.tape.trans h.tape, h'.output.trans h.output, Nat.le_trans h.size h'.size, fun k hk hd => (h'.block k (Nat.lt_of_lt_of_le hk h.size) hd).trans (h.block k hk hd)⟩
theorem Same.of_grown (h : w.grownBy w' (some g)) (hg : lo ≤ g ∧ g < hi) : Same lo hi w w' :=
  ⟨h.os, h.tape, h.output, h.size, fun k hk hd => h.block k hk (fun e => by simp only [Option.some.injEq] at e; omega)⟩
theorem Below.of_same (hb : Below w0.heap.size w0 w) (h : Same lo hi w w') (hl : w0.heap.size ≤ lo) : Below w0.heap.size w0 w' :=
  hb.trans ⟨h.os, h.tape, h.output, h.size, fun k hk => h.block k (Nat.lt_of_lt_of_le hk hb.size) (by omega)⟩
end
/-- The slice's block, where it has one, lies in this interval. -/
def In (lo hi : Nat) (v : Value) : Prop := ∀ g, v.ownBlock = some g → lo ≤ g ∧ g < hi
theorem Own.inn {w : World} {lo : Nat} {v : Value} {qs : List (List Nat)} (h : Own w lo v qs) : In lo w.heap.size v := fun _ hg => h.lt hg
theorem Same.of_in {w w' : World} {lo hi : Nat} {v : Value} (h : w.grownBy w' v.ownBlock) (i : In lo hi v) : Same lo hi w w' :=
  ⟨h.os, h.tape, h.output, h.size, fun k hk hd => h.block k hk fun e => by have := i k e.symm; omega⟩
theorem Same.mono {w w' : World} {lo hi lo' hi' : Nat} (h : Same lo hi w w') (h1 : lo' ≤ lo) (h2 : hi ≤ hi') : Same lo' hi' w w' :=
  ⟨h.os, h.tape, h.output, h.size, fun k hk hd => h.block k hk (by omega)⟩
theorem At.same {w w' : World} {g lo hi : Nat} {o : Obj} (h : At w g o) (hs : Same lo hi w w') (hd : g < lo ∨ hi ≤ g) : At w' g o := (hs.block g h.lt hd).trans h
theorem kept_same {w w' : World} {lo lo' hi' : Nat} {e : TypeId} {size : Nat} {v : Value} {n : Nat} {xs : List Value} {hi : Nat} (h : w.ownsRow lo e size v n xs) (i : In lo hi v) (hs : Same lo' hi' w w') (hd : hi ≤ lo' ∨ hi' ≤ lo) : w'.ownsRow lo e size v n xs := by
  refine ⟨h.1, ?_⟩
  rcases h.2 with h0 | ⟨g, cap, cur, rfl, hb, hgg, rest⟩
  · exact .inl h0
  · refine .inr ⟨g, cap, cur, rfl, hb, ?_, rest⟩
    have hi := i g rfl
    exact (hs.block g (Array.getElem?_eq_some_iff.1 hgg).1 (by omega)).trans hgg
theorem Own.same {w w' : World} {lo hi lo' hi' : Nat} {v : Value} {qs : List (List Nat)} (h : Own w lo v qs) (i : In lo hi v) (hs : Same lo' hi' w w') (hd : hi ≤ lo' ∨ hi' ≤ lo) : Own w' lo v qs := kept_same (w := w) h i hs hd
theorem cell_same {w w' : World} {g i lo hi : Nat} {v : Value} (h : w.cell? ⟨g, i, none⟩ = some v) (hs : Same lo hi w w') (hd : g < lo ∨ hi ≤ g) : w'.cell? ⟨g, i, none⟩ = some v := by
  rw [World.cell?_of_block (a := ⟨g, i, none⟩) (w := w) (show w'.heap[g]? = w.heap[g]? from hs.block g (block_lt_of_cell h) hd)]
  exact h
theorem Held.same {w w' : World} {lo hi lo' hi' k n : Nat} {v : Value} (h : Held w v k n) (i : In lo hi v) (hs : Same lo' hi' w w') (hd : hi ≤ lo' ∨ hi' ≤ lo) : Held w' v k n := fun g hg j hj =>
  cell_same (h g hg j hj) hs (by have := i g hg; omega)
theorem KA.same {w wr w2 : World} {bs : List (Nat × Obj)} {lo hi : Nat} (h : KA w bs wr) (hs : Same lo hi wr w2) (hl : w.heap.size ≤ lo) (hd : ∀ b ∈ bs, b.1 < lo ∨ hi ≤ b.1) : KA w bs w2 :=
  ⟨Below.of_same h.below hs hl, fun b hm => (h.box b hm).same hs (hd b hm)⟩
def SzN (n : Nat) (l r : Int) : Prop := r = -1 ∨ (0 ≤ r ∧ r + n = l)
theorem szScheme_e (p n m k : Int) (A : Option Addr) (len c : Nat) (l : Int) (w : World) (h0 : 0 ≤ l) (hn : len ≤ 9223372036854775807) (hl : l ≤ 1048576) :
    Calls Try.prog 5 #[.agg #[.int .i64 p, .int .i64 n, .int .i64 m, .int .i64 k, .slice A len c], .int .i64 l] w fun e w' => ∃ r, e = .returned (.int .i64 r) ∧ SzN len l r ∧ Below w.heap.size w w' := by
  refine (szScheme_c p n m k A len c l w h0 hn hl).mono ?_
  rintro e w' ⟨rfl, hb⟩
  refine ⟨_, rfl, ?_, hb⟩
  by_cases h : l < len
  · rw [if_pos h]; exact .inl rfl
  · rw [if_neg h]; exact .inr ⟨by omega, by omega⟩
theorem markScheme_2 (p n m k : Int) {lo : Nat} {v : Value} {qs : List (List Nat)} (K : Nat) (kk : Int) (w : World) (hk' : kk = (K : Int)) (h : Own w lo v qs) (hn : qs.length ≤ 1048576) (hk : K ≤ 1000000000) :
    Calls Try.prog 11 #[.agg #[.int .i64 p, .int .i64 n, .int .i64 m, .int .i64 k, v], .int .i64 kk] w
      fun e w' => e = .returned (.int .i64 ((K + qs.length * 27 : Nat) : Int)) ∧ w.grownBy w' v.ownBlock ∧ Held w' v K qs.length := by
  subst hk'
  exact markScheme_c p n m k K w h hn (by omega)
theorem size_after {w w' : World} {n : Nat} (h : n ≤ w.heap.size) (hb : Below w.heap.size w w') : n ≤ w'.heap.size := Nat.le_trans h hb.size
theorem Own.nil (w : World) (lo : Nat) : Own w lo (.slice none 0 0) [] := World.ownsRow_nil _ _ _ _
/-- Two results, the first in block 'g'. -/
theorem results_at2 {P : Program} {fn : Func} {p q : Tmp} {ty : TypeId} (h : fn.results = #[.cell p ty, .tmp q]) (tmps : Array Value) (w : World) (g : Nat) (t : TypeId) (cs : Array Value) (d : TypeDesc)
    (hp : tmps.getD p undef = .pointer (some ⟨g, 0, none⟩)) (v : Value) (hv : tmps.getD q undef = v) (hg : At w g (.cells cs t (0, 0)))
    (hu : P.underlying ty = some d) (hd : (match d with | .struct _ | .array _ _ => true | _ => false) = true) (n : Nat) (hi : (P.info? ty).map (·.size) = some n) (hn : cs.size = n) :
    (results fn tmps).run P w = .ok (.tuple #[.agg cs, v]) w := by
  have hp' : tmps[p]?.getD undef = .pointer (some ⟨g, 0, none⟩) := by simpa using hp
  have hv' : tmps[q]?.getD undef = v := by simpa using hv
  simp [results, h, hp', hv', asAddr, run_loadVar_row w g t ty cs (0, 0) d hg hu hd (by rw [hn]; exact hi)]
theorem mul_le9 {a K : Nat} (hK : K ≤ 3) (ha : a < 3) : a * K ≤ 6 := by
  have h : a * K ≤ 2 * K := Nat.mul_le_mul_right _ (by omega)
  omega
end Go.Proofs.Ytebmkmkhfhmfbaa
namespace Go.Proofs.Ytebmkmkhfhmfbaa
open Go.RowKit
section
variable {P : Program} {ops : Array Oper} {Q : Exit → Act → World → Prop} {md : Region.Mode} {S : World → Prop}
theorem held_yield_g (i : Nat) {oi : Oper} (d : Option Tmp) (v : Value) {fuel : Nat} {listed : Array Bool} {a : Act} {w : World} (hi : ops[i]? = some oi)
    (hs : Region.noSelect ops = true) (hf : Region.free md ops listed i = true) (hr : (Region.ready md ops listed).contains i = true)
    (hQ : ∀ c a w, Q (.panic c) (a.put oi.dst v) w → Q (.panic c) a w) (hw : Region.wanted oi (yielded ops a.tmps) = true) (hd : oi.dst = d) (hS : S w) (he : ∀ w', S w' → (execOp a.eval oi).run P w' = .ok (.value v) w')
    (h : wpAnyH P md ops Q S fuel (listed.setIfInBounds i true) (a.put d v) w) : wpAnyH P md ops Q S (fuel + 1) listed a w :=
  wpAnyH_take hi hs hf hr hQ (.inl ⟨hw, he⟩) hS (by rw [hd]; exact h)
theorem held_skip_g (i : Nat) {oi : Oper} (d : Option Tmp) {fuel : Nat} {listed : Array Bool} {a : Act} {w : World} (hi : ops[i]? = some oi)
    (hs : Region.noSelect ops = true) (hf : Region.free md ops listed i = true) (hr : (Region.ready md ops listed).contains i = true)
    (hQ : ∀ c a w, Q (.panic c) (a.put oi.dst undef) w → Q (.panic c) a w) (hw : Region.wanted oi (yielded ops a.tmps) = false) (hd : oi.dst = d) (hS : S w)
    (h : wpAnyH P md ops Q S fuel (listed.setIfInBounds i true) (a.put d undef) w) : wpAnyH P md ops Q S (fuel + 1) listed a w :=
  wpAnyH_take hi hs hf hr hQ (.inr ⟨hw, rfl⟩) hS (by rw [hd]; exact h)
theorem held_oper_g (i : Nat) {oi : Oper} {fuel : Nat} {listed : Array Bool} {a : Act} {w : World} (hr : Region.ready md ops listed = [i]) (hi : ops[i]? = some oi) (hw : Region.wanted oi (yielded ops a.tmps) = true)
    (h : ∀ K : Act → World → Prop, (∀ a' w', S w' → wpAnyH P md ops Q S fuel (listed.setIfInBounds i true) a' w' → K a' w') → Oper.wp P oi a w K Q) : wpAnyH P md ops Q S (fuel + 1) listed a w :=
  wpAnyH_all hr (by simp) fun j hj => by
    obtain rfl : j = i := by simpa using hj
    refine wpOp_step hi fun K hK => ?_
    rw [if_pos hw]
    exact h K fun a' w' hS hW => hK a' w' ⟨hS, hW⟩
/-- An operation that is skipped, where it alone may come up (a call). -/
theorem held_pass_g (i : Nat) {oi : Oper} (d : Option Tmp) {fuel : Nat} {listed : Array Bool} {a : Act} {w : World} (hr : Region.ready md ops listed = [i]) (hi : ops[i]? = some oi) (hw : Region.wanted oi (yielded ops a.tmps) = false) (hd : oi.dst = d) (hS : S w)
    (h : wpAnyH P md ops Q S fuel (listed.setIfInBounds i true) (a.put d undef) w) : wpAnyH P md ops Q S (fuel + 1) listed a w :=
  wpAnyH_all hr (by simp) fun j hj => by
    obtain rfl : j = i := by simpa using hj
    refine wpOp_step hi fun K hK => ?_
    rw [if_neg (by simp [hw]), hd]
    exact hK _ _ ⟨hS, h⟩
theorem exec_pick {o : Oper} {a : Act} {w : World} (c x y : Operand) (ho : o.op = .pick c x y) (b : Bool) (hc : a.eval c = .bool b) (v : Value) (hv : (if b then a.eval x else a.eval y) = v) : (execOp a.eval o).run P w = .ok (.value v) w := by
  unfold execOp
  simp only [ho, hc]
  cases b
  · simp only [Bool.false_eq_true, if_false] at hv
    subst hv
    cases y <;> simp [go_sem, Act.eval]
  · simp only [if_true] at hv
    subst hv
    cases x <;> simp [go_sem, Act.eval]
theorem exec_neq {o : Oper} {a : Act} {w : World} (t t' : TypeId) (x y : Operand) (ho : o.op = .binOp .neq t x y t') (m n : Int) (hx : a.eval x = .int .i64 m) (hy : a.eval y = .int .i64 n) (b : Bool) (hb : (m != n) = b) : (execOp a.eval o).run P w = .ok (.value (.bool b)) w := by
  unfold execOp
  simp only [ho, hx, hy]
  subst hb
  simp [go_sem, bne]
end
end Go.Proofs.Ytebmkmkhfhmfbaa
