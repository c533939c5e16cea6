/-
  Lists of twigs that grow; a form as a series, the series of parts. (Made by mktw6.py.)
-/
import Derived.Test.YtlpdglmjejfmhaaTw5
namespace Go.Proofs.Ytlpdglmjejfmhaa
open Go.RowKit
set_option maxRecDepth 100000
theorem infoTwig : (Try.prog.info? 63).map (fun i => (i.zero, i.size, i.bytes)) = some (some (.agg (u8s (List.replicate 108 0))), 108, 108) := by kernel_rfl
theorem zero108 : ((Array.range (1 * 108)).map ((Value.agg (u8s (List.replicate 108 0))).cells[· % (Value.agg (u8s (List.replicate 108 0))).cells.size]!)) = u8s (List.replicate 108 0) := by kernel_rfl
theorem run_buildSlice1T {P : Program} (w : World) (t e : TypeId) (q : List Nat) (hu : P.underlying t = some (.slice e))
    (hi : (P.info? e).map (fun i => (i.zero, i.size, i.bytes)) = some (some (.agg (u8s (List.replicate 108 0))), 108, 108)) (hq : q.length = 108) :
    (Instr.buildSlice t 1 #[(0, .agg (u8s q))]).run P w = .ok (.slice (some ⟨w.heap.size, 0, none⟩) 1 1) (w.alloc (.cells (u8s q) e)) := by
  obtain ⟨i, hi0, hz, h1, h2⟩ := info_parts hi
  refine run_buildSlice w t e 1 _ (u8s q) i _ hu hi0 hz (by rw [h1]; omega) (by rw [h1]; omega) ?_
  rw [h1, zero108]
  rw [fill_u8s (fun i => some (i * 108, 108)) (List.replicate 108 0) q 0 0 108 [] rfl hq (by simp), over_all (by simp [hq])]
  rfl
section
variable {P : Program} {o : Oper} {a : Act} {w : World}
theorem exec_buildSlice1T (t e : TypeId) (x : Operand) (ho : o.op = .buildSlice t 1 #[(0, x)]) (q : List Nat) (hx : a.eval x = .agg (u8s q)) (hu : P.underlying t = some (.slice e))
    (hi : (P.info? e).map (fun i => (i.zero, i.size, i.bytes)) = some (some (.agg (u8s (List.replicate 108 0))), 108, 108)) (hq : q.length = 108) :
    (execOp a.eval o).run P w = .ok (.value (.slice (some ⟨w.heap.size, 0, none⟩) 1 1)) (w.alloc (.cells (u8s q) e)) := by
  have := run_buildSlice1T (P := P) w t e q hu hi hq
  unfold execOp
  simp [ho, hx, this]
end
theorem wp_slice1T {P : Program} {o : Oper} {a : Act} {w : World} {K : Act → World → Prop} {Q : Exit → Act → World → Prop} (d : Option Tmp) (hd : o.dst = d) (t e : TypeId) (x : Operand) (ho : o.op = .buildSlice t 1 #[(0, x)]) (q : List Nat) (hx : a.eval x = .agg (u8s q)) (hu : P.underlying t = some (.slice e))
    (hi : (P.info? e).map (fun i => (i.zero, i.size, i.bytes)) = some (some (.agg (u8s (List.replicate 108 0))), 108, 108)) (hq : q.length = 108)
    (h : ∀ w', New w w' (.cells (u8s q) e (0, 0)) → K (a.put d (.slice (some ⟨w.heap.size, 0, none⟩) 1 1)) w') : Oper.wp P o a w K Q :=
  wp_exec d hd _ (exec_buildSlice1T t e x ho q hx hu hi hq) (h _ (New.alloc _ _))
theorem built_twig (parts : List (Nat × Value)) : Try.prog.built 63 parts = Instr.fill (fun i => (#[(0, 36), (36, 36), (72, 36)] : Array (Nat × Nat))[i]?) (u8s (List.replicate 108 0)) parts := by kernel_rfl
theorem exec_twig0 {o : Oper} {a : Act} {w : World} (x y z : Operand) (ho : o.op = .build 63 #[(0, x), (1, y), (2, z)]) (p q r : List Nat)
    (hx : a.eval x = .agg (u8s p)) (hy : a.eval y = .agg (u8s q)) (hz : a.eval z = .agg (u8s r)) (hp : p.length = 36) (hq : q.length = 36) (hr : r.length = 36) :
    (execOp a.eval o).run Try.prog w = .ok (.value (.agg (u8s (p ++ q ++ r)))) w := by
  have hb : Try.prog.built 63 [(0, .agg (u8s p)), (1, .agg (u8s q)), (2, .agg (u8s r))] = some (u8s (p ++ q ++ r)) := by
    have l1 : (over (List.replicate 108 0) 0 p).length = 108 := by rw [over_length (by simp [hp])]; simp
    have l2 : (over (over (List.replicate 108 0) 0 p) 36 q).length = 108 := by rw [over_length (by rw [l1, hq]; omega), l1]
    rw [built_twig, fill_u8s _ _ _ 0 0 36 _ rfl hp (by simp), fill_u8s _ _ _ 1 36 36 _ rfl hq (by rw [l1]; omega), fill_u8s _ _ _ 2 72 36 _ rfl hr (by rw [l2]; omega)]
    have h3 := overT3 (p ++ q ++ r) (by simp [hp, hq, hr])
    have s0 : segm (p ++ q ++ r) 0 36 = p := by simp [segm, hp]
    have s1 : segm (p ++ q ++ r) 36 36 = q := by simp [segm, hp, hq]
    have s2 : segm (p ++ q ++ r) 72 36 = r := by
      have e : List.drop 72 (p ++ q ++ r) = r := by rw [List.drop_append, List.drop_eq_nil_of_le (by simp [hp, hq]), List.length_append, hp, hq]; rfl
      rw [segm, e, ← hr, List.take_length]
    rw [s0, s1, s2] at h3
    rw [h3]
    rfl
  unfold execOp
  have := run_build (P := Try.prog) w 63 #[(0, .agg (u8s p)), (1, .agg (u8s q)), (2, .agg (u8s r))] _ hb
  simp [ho, hx, hy, hz, this]
def catT (A B C : List Nat) : List Nat := A ++ B ++ C
theorem catT_bytes {A B C : List Nat} (hA : Bytes 36 A) (hB : Bytes 36 B) (hC : Bytes 36 C) : Bytes 108 (catT A B C) := by
  refine ⟨by simp [catT, hA.len, hB.len, hC.len], fun n hn => ?_⟩
  simp only [catT, List.mem_append] at hn
  rcases hn with (h | h) | h
  · exact hA.2 n h
  · exact hB.2 n h
  · exact hC.2 n h
theorem catT_eq (t : List Nat) (ht : t.length = 108) : catT (segm t 0 36) (segm t 36 36) (segm t 72 36) = t := by
  unfold catT segm
  rw [List.drop_zero]
  have h1 : t = t.take 36 ++ t.drop 36 := (List.take_append_drop 36 t).symm
  have h2 : t.drop 36 = (t.drop 36).take 36 ++ (t.drop 36).drop 36 := (List.take_append_drop 36 (t.drop 36)).symm
  rw [List.drop_drop] at h2
  have h3 : (t.drop 72).take 36 = t.drop 72 := List.take_of_length_le (by rw [List.length_drop]; omega)
  rw [h3, List.append_assoc, ← h2, ← h1]
theorem exec_twig {o : Oper} {a : Act} {w : World} (x y z : Operand) (ho : o.op = .build 63 #[(0, x), (1, y), (2, z)]) (p q r : List Nat)
    (hx : a.eval x = .agg (u8s p)) (hy : a.eval y = .agg (u8s q)) (hz : a.eval z = .agg (u8s r)) (hp : p.length = 36) (hq : q.length = 36) (hr : r.length = 36) :
    (execOp a.eval o).run Try.prog w = .ok (.value (.agg (u8s (catT p q r)))) w := exec_twig0 x y z ho p q r hx hy hz hp hq hr
theorem exec_bs0T {o : Oper} {a : Act} {w : World} (ho : o.op = .buildSlice 27 0 #[]) : (execOp a.eval o).run Try.prog w = .ok (.value (.slice (some ⟨w.heap.size, 0, none⟩) 0 0)) (w.alloc (.cells #[] 63 (0, 0))) := by
  unfold execOp
  rw [ho]
  kernel_rfl
theorem own_bs0T {w w' : World} (h : New w w' (.cells #[] 63 (0, 0))) : OwnT w' w.heap.size (.slice (some ⟨w.heap.size, 0, none⟩) 0 0) [] :=
  ⟨by simp [u8s], .inr ⟨w.heap.size, 0, #[], rfl, Nat.le_refl _, h.at_, by simp, by simp, by simp, by simp [u8s]⟩⟩
theorem OwnT.rdN {n : Nat} {w : World} {lo : Nat} {v : Value} {qs : List (List Nat)} (h : OwnT w lo v qs) (he : qs.length = n) : ∃ A c, v = .slice A n c := by
  subst he
  rcases h.shp with ⟨rfl, h0⟩ | ⟨g, c, rfl⟩
  · exact ⟨none, 0, by rw [h0]⟩
  · exact ⟨_, _, rfl⟩
theorem below_grownT {w0 w w' : World} {v : Value} {lo : Nat} {qs : List (List Nat)} (h : Below w0.heap.size w0 w) (hb : w.grownBy w' v.ownBlock) (ho : OwnT w lo v qs) (hl : w0.heap.size ≤ lo) : Below w0.heap.size w0 w' :=
  h.grown hb h.size (fun k hk => by have := (ho.lt hk).1; omega)
/-- An append of one twig. -/
theorem wp_appT {o : Oper} {a : Act} {w : World} {K : Act → World → Prop} {Q : Exit → Act → World → Prop} (d : Option Tmp) (hd : o.dst = d) (s x : Operand) (ho : o.op = .call { callee := .builtin .append, args := #[s, x], argTypes := #[27, 27] })
    {lo : Nat} (sl : Value) (qs : List (List Nat)) (q : List Nat) (hs : a.eval s = sl) (hown : OwnT w lo sl qs) (g : Nat) (hx : a.eval x = .slice (some ⟨g, 0, none⟩) 1 1) (hg : At w g (.cells (u8s q) 63 (0, 0))) (hq : q.length = 108) (hle : qs.length ≤ 1000000) (hlo : lo ≤ w.heap.size)
    (h : ∀ v' w', OwnT w' lo v' (qs ++ [q]) → w.grownBy w' sl.ownBlock → K (a.put d v') w') : Oper.wp Try.prog o a w K Q := by
  obtain ⟨i0, hi, hz0, hz1, hz2⟩ := info_parts infoTwig
  refine wp_append' d hd s x 27 ho lo 63 i0 (.agg (u8s (List.replicate 108 0))) 108 108 Try.underlying27 hi hz0 hz1 hz2 rfl (by decide) sl _ _ hs hown ⟨g, 0, none⟩ 1 1 (u8s q).toList hx (by rw [Array.length_toList, u8s_size, hq]) ?_ (u8s_one q) (by unfold maxLen; omega) (by omega) hlo ?_
  · intro j u hu
    rw [add_none, Nat.zero_add, hg.at_ j, ← Array.getElem?_toList]
    exact hu
  · intro v1 w8 own8 gr8 _
    refine h v1 w8 ?_ gr8
    unfold OwnT
    rw [u8s_snoc, List.length_append]
    exact own8
theorem map_take_step {α β : Type} {f : α → β} {xs : List α} {i : Nat} (hi : i < xs.length) : (xs.take i).map f ++ [f xs[i]] = (xs.take (i + 1)).map f := by
  rw [List.take_add_one, List.getElem?_eq_getElem hi, List.map_append]
  rfl
theorem map_take_len {α β : Type} {f : α → β} {xs : List α} {i : Nat} (hi : i ≤ xs.length) : ((xs.take i).map f).length = i := by simp; omega
/-- A form as a series; the series of parts. -/
def conS (f : List Nat) : List Nat := (List.range 36).map fun j => if j % 4 = 0 then f[j / 4]?.getD 0 else 0
def serOf (q : List Nat) : List Nat := (List.range 36).map fun j => q[(j % 4) * 9 + j / 4]?.getD 0
theorem conS_len (f : List Nat) : (conS f).length = 36 := by simp [conS]
theorem serOf_len (q : List Nat) : (serOf q).length = 36 := by simp [serOf]
theorem conS_bytes {f : List Nat} (hf : Bytes 9 f) : Bytes 36 (conS f) := ⟨conS_len f, fun n hn => by
  obtain ⟨j, _, rfl⟩ := List.mem_map.1 hn
  split
  · exact hf.lt _
  · omega⟩
theorem serOf_bytes {q : List Nat} (hq : Bytes 36 q) : Bytes 36 (serOf q) := ⟨serOf_len q, fun n hn => by
  obtain ⟨j, _, rfl⟩ := List.mem_map.1 hn
  exact hq.lt _⟩
theorem serOf_con (f : List Nat) (hf : f.length = 9) : serOf (f ++ List.replicate 27 0) = conS f := by
  unfold serOf conS
  apply List.map_congr_left
  intro j hj
  have hj := List.mem_range.1 hj
  by_cases h : j % 4 = 0
  · rw [if_pos h, h, Nat.zero_mul, Nat.zero_add, List.getElem?_append_left (by omega)]
  · rw [if_neg h, List.getElem?_append_right (by omega), List.getElem?_replicate, if_pos (by omega)]; rfl
/-- A product as a twig. -/
def conT (q : List Nat) : List Nat := catT (conS (segm q 0 9)) (conS (segm q 9 9)) (conS (segm q 18 9))
theorem conT_bytes {q : List Nat} (hq : Bytes 27 q) : Bytes 108 (conT q) := catT_bytes (conS_bytes (segm_bytes hq (by omega))) (conS_bytes (segm_bytes hq (by omega))) (conS_bytes (segm_bytes hq (by omega)))
def cmix (f : List Nat) (c : Nat) : List Nat := (List.range 36).map fun j => if j % 4 = 0 ∧ j / 4 < c then f[j / 4]?.getD 0 else 0
theorem cmix_len (f : List Nat) (c : Nat) : (cmix f c).length = 36 := by simp [cmix]
theorem cmix_start (f : List Nat) : cmix f 0 = List.replicate 36 0 := by
  apply List.ext_getElem
  · simp [cmix]
  · intro j h1 h2
    simp only [cmix, List.getElem_map, List.getElem_range, List.getElem_replicate]
    rw [if_neg (by omega)]
theorem cmix_step {f : List Nat} {c x : Nat} (hx : f[c]?.getD 0 = x) : (cmix f c).set (c * 4) x = cmix f (c + 1) := by
  apply List.ext_getElem
  · simp [cmix]
  · intro j h1 h2
    rw [List.getElem_set]
    simp only [cmix, List.getElem_map, List.getElem_range]
    by_cases e : c * 4 = j
    · subst e
      rw [if_pos rfl, if_pos (by omega), show c * 4 / 4 = c by omega, hx]
    · rw [if_neg e]
      by_cases h : j % 4 = 0 ∧ j / 4 < c
      · rw [if_pos h, if_pos (by omega)]
      · rw [if_neg h, if_neg (by omega)]
theorem cmix_end (f : List Nat) : cmix f 9 = conS f := by
  unfold cmix conS
  apply List.map_congr_left
  intro j hj
  have hj := List.mem_range.1 hj
  by_cases h : j % 4 = 0
  · rw [if_pos h, if_pos ⟨h, by omega⟩]
  · rw [if_neg h, if_neg (fun h' => h h'.1)]
def smix (q : List Nat) (i c : Nat) : List Nat := (List.range 36).map fun j => if j % 4 < i ∨ (j % 4 = i ∧ j / 4 < c) then q[(j % 4) * 9 + j / 4]?.getD 0 else 0
theorem smix_len (q : List Nat) (i c : Nat) : (smix q i c).length = 36 := by simp [smix]
theorem smix_start (q : List Nat) : smix q 0 0 = List.replicate 36 0 := by
  apply List.ext_getElem
  · simp [smix]
  · intro j h1 h2
    simp only [smix, List.getElem_map, List.getElem_range, List.getElem_replicate]
    rw [if_neg (by omega)]
theorem smix_step {q : List Nat} {i c x : Nat} (hi : i < 4) (hx : q[i * 9 + c]?.getD 0 = x) : (smix q i c).set (c * 4 + i) x = smix q i (c + 1) := by
  apply List.ext_getElem
  · simp [smix]
  · intro j h1 h2
    rw [List.getElem_set]
    simp only [smix, List.getElem_map, List.getElem_range]
    by_cases e : c * 4 + i = j
    · subst e
      rw [if_pos rfl, show (c * 4 + i) % 4 = i by omega, show (c * 4 + i) / 4 = c by omega, if_pos (by omega), hx]
    · rw [if_neg e]
      by_cases h : j % 4 < i ∨ (j % 4 = i ∧ j / 4 < c)
      · rw [if_pos h, if_pos (by omega)]
      · rw [if_neg h, if_neg (by omega)]
theorem smix_row (q : List Nat) (i : Nat) : smix q i 9 = smix q (i + 1) 0 := by
  apply List.ext_getElem
  · simp [smix]
  · intro j h1 h2
    have hj : j < 36 := by rw [smix_len] at h1; exact h1
    simp only [smix, List.getElem_map, List.getElem_range]
    by_cases h : j % 4 < i ∨ (j % 4 = i ∧ j / 4 < 9)
    · rw [if_pos h, if_pos (by omega)]
    · rw [if_neg h, if_neg (by omega)]
theorem smix_end (q : List Nat) : smix q 4 0 = serOf q := by
  unfold smix serOf
  apply List.map_congr_left
  intro j hj
  rw [if_pos (by omega)]
theorem exec_build_brd {o : Oper} {a : Act} {w : World} (x y z u v : Operand) (ho : o.op = .build 29 #[(0, x), (1, y), (2, z), (3, u), (4, v)]) (p n m k : Int) (A : Option Addr) (l c : Nat) (hx : a.eval x = .int .i64 p) (hy : a.eval y = .int .i64 n) (hz : a.eval z = .int .i64 m) (hu : a.eval u = .int .i64 k) (hv : a.eval v = .slice A l c) :
    (execOp a.eval o).run Try.prog w = .ok (.value (.agg #[.int .i64 p, .int .i64 n, .int .i64 m, .int .i64 k, .slice A l c])) w := by
  have hb : Try.prog.built 29 [(0, .int .i64 p), (1, .int .i64 n), (2, .int .i64 m), (3, .int .i64 k), (4, .slice A l c)] = some #[.int .i64 p, .int .i64 n, .int .i64 m, .int .i64 k, .slice A l c] := by kernel_rfl
  unfold execOp
  have := run_build (P := Try.prog) w 29 #[(0, .int .i64 p), (1, .int .i64 n), (2, .int .i64 m), (3, .int .i64 k), (4, .slice A l c)] _ hb
  simp [ho, hx, hy, hz, hu, hv, this]
theorem exec_build_brd4 {o : Oper} {a : Act} {w : World} (x y z u : Operand) (ho : o.op = .build 29 #[(0, x), (1, y), (2, z), (3, u)]) (p n m k : Int) (hx : a.eval x = .int .i64 p) (hy : a.eval y = .int .i64 n) (hz : a.eval z = .int .i64 m) (hu : a.eval u = .int .i64 k) :
    (execOp a.eval o).run Try.prog w = .ok (.value (.agg #[.int .i64 p, .int .i64 n, .int .i64 m, .int .i64 k, .slice none 0 0])) w := by
  have hb : Try.prog.built 29 [(0, .int .i64 p), (1, .int .i64 n), (2, .int .i64 m), (3, .int .i64 k)] = some #[.int .i64 p, .int .i64 n, .int .i64 m, .int .i64 k, .slice none 0 0] := by kernel_rfl
  unfold execOp
  have := run_build (P := Try.prog) w 29 #[(0, .int .i64 p), (1, .int .i64 n), (2, .int .i64 m), (3, .int .i64 k)] _ hb
  simp [ho, hx, hy, hz, hu, this]
theorem exec_parts1 {o : Oper} {a : Act} {w : World} (x : Operand) (ho : o.op = .build 75 #[(0, x)]) (f : List Nat) (hx : a.eval x = .agg (u8s f)) (hf : f.length = 9) :
    (execOp a.eval o).run Try.prog w = .ok (.value (.agg (u8s (f ++ List.replicate 27 0)))) w := by
  have h0 : Try.prog.built 75 [(0, .agg (u8s f))] = Instr.fill (fun i => (#[(0, 9), (9, 9), (18, 9), (27, 9)] : Array (Nat × Nat))[i]?) (u8s (List.replicate 36 0)) [(0, .agg (u8s f))] := by kernel_rfl
  have hb : Try.prog.built 75 [(0, .agg (u8s f))] = some (u8s (f ++ List.replicate 27 0)) := by
    rw [h0, fill_u8s _ _ _ 0 0 9 _ rfl hf (by simp)]
    have e : over (List.replicate 36 0) 0 f = f ++ List.replicate 27 0 := by simp [over, hf]
    rw [e]; rfl
  unfold execOp
  have := run_build (P := Try.prog) w 75 #[(0, .agg (u8s f))] _ hb
  simp [ho, hx, this]
attribute [local irreducible] wpList
theorem cell0 {w : World} {g i x : Nat} {l : List Nat} {t : TypeId} (h : At w g (.cells (u8s l) t (0, 0))) (hi : i < l.length) (hx : l[i]?.getD 0 = x) : w.cell? ⟨g, 0 + i, none⟩ = some (.int .u8 (x : Int)) := by
  rw [Nat.zero_add, ← hx]
  exact h.cell hi
set_option maxHeartbeats 12800000 in
theorem l08Constant_c (f : List Nat) (hf : Bytes 9 f) (w : World) :
    Calls Try.prog 80 #[.agg (u8s f)] w (fun e w' => e = .returned (.agg (u8s (conS f))) ∧ Below w.heap.size w w') := by
  have hB := Below.refl w.heap.size w
  have HF := Lib.hid hf.len
  go_enter Try.func80, Try.ntmps80
  go_upto_region 0 with (fail)
  refine wp_region_lit ?_
  refine ls_op rfl (fun K' hK' => ?_)
  have lz1 := hB.size
  refine wp_new (some 1) rfl (exec_box 71 _ rfl (u8s (f)) rfl) (fun Wz2 nnz3 => ?_)
  have bz4 := nnz3.below (Below.refl _ _) (Nat.le_refl _)
  replace hB := below_after hB bz4
  have hz5 : At Wz2 w.heap.size (.cells (u8s (f)) 71 (0, 0)) := nnz3.at_
  refine hK' _ _ ?_
  clear hK' K' nnz3 bz4
  go_frame
  refine ls_op rfl (fun K' hK' => ?_)
  have lz6 := hB.size
  have lz7 := hz5.lt
  refine wp_new (some 2) rfl (al_impl_Series rfl) (fun Wz8 nnz9 => ?_)
  have bz10 := nnz9.below (Below.refl _ _) (Nat.le_refl _)
  replace hB := below_after hB bz10
  replace hz5 := hz5.after bz10
  have hz11 : At Wz8 Wz2.heap.size (.cells (u8s (List.replicate 36 0)) 61 (0, 0)) := nnz9.at_
  refine hK' _ _ ?_
  clear hK' K' nnz9 bz10
  go_frame
  refine wpList_nil ?_
  go_upto_region 1 with (fail)
  refine wp_region_lit ?_
  refine ls_ex (some 5) (.agg (u8s (List.replicate 36 0))) rfl rfl (exec_build_nil 61 rfl _ (by kernel_rfl)) ?_
  go_frame
  refine ls_op rfl (fun K' hK' => ?_)
  have lz12 := hB.size
  have lz13 := hz5.lt
  have lz14 := hz11.lt
  refine wp_new (some 3) rfl (al_impl_Series rfl) (fun Wz15 nnz16 => ?_)
  have bz17 := nnz16.below (Below.refl _ _) (Nat.le_refl _)
  replace hB := below_after hB bz17
  replace hz5 := hz5.after bz17
  replace hz11 := hz11.after bz17
  have hz18 : At Wz15 Wz8.heap.size (.cells (u8s (List.replicate 36 0)) 61 (0, 0)) := nnz16.at_
  refine hK' _ _ ?_
  clear hK' K' nnz16 bz17
  go_frame
  refine ls_op rfl (fun K' hK' => ?_)
  refine wp_store_bytes 61 _ _ rfl rfl Wz8.heap.size rfl (List.replicate 36 0) rfl _ _ hz18 36 (by kernel_rfl) (by simp) (by simp) (fun Wz19 pz20 => ?_)
  replace hB := pz20.below hB (by omega)
  replace hz5 := pz20.other hz5 (by omega)
  replace hz11 := pz20.other hz11 (by omega)
  replace hz18 : At Wz19 Wz8.heap.size (.cells (u8s (List.replicate 36 0)) 61 (0, 0)) := pz20.at_
  refine hK' _ _ ?_
  clear hK' K' pz20
  refine wpList_nil ?_
  go_upto_region 2 with (fail)
  refine wp_region_lit ?_
  refine ls_ex (some 4) (.int .i64 0) rfl rfl (exec_assign _ rfl (.int .i64 0) rfl) ?_
  go_frame
  refine wpList_nil ?_
  go_wp2_with fail
  go_loopw [4] (fun s4 wr => ∃ c : Nat, c ≤ 9 ∧ s4 = .int .i64 c ∧ Below w.heap.size w wr ∧ At wr w.heap.size (.cells (u8s (f)) 71 (0, 0)) ∧ At wr Wz8.heap.size (.cells (u8s (cmix f c)) 61 (0, 0)) ∧ At wr Wz2.heap.size (.cells (u8s (List.replicate 36 0)) 61 (0, 0))) (fun s4 _ => 9 - (intOf s4).toNat)
  case atStart => exact ⟨0, by omega, rfl, hB, hz5, by rw [cmix_start]; exact hz18, hz11⟩
  case round =>
    clear hB hz5 hz11 hz18
    obtain ⟨c, hc, rfl, hB, h0, h1, h2⟩ := hrel
    by_cases hc9 : c < 9
    · obtain ⟨x, hx⟩ : ∃ x, f[c]?.getD 0 = x := ⟨_, rfl⟩
      have Hx := Lib.hid hx
      have HP : Hid ((cmix f c).set (c * 4) x = cmix f (c + 1)) := Lib.hid (cmix_step hx)
      clear hx
      go_upto_region 3 with (fail)
      refine wp_region_lit ?_
      refine ls_ex (some 6) (.int .i64 c) rfl rfl (exec_move _ rfl (.int .i64 c) rfl) ?_
      go_frame
      refine ls_ex (some 7) (.bool true) rfl rfl (exec_lss _ _ _ _ rfl c 9 rfl rfl true (decide_eq_true (by omega))) ?_
      go_frame
      refine wpList_nil ?_
      go_upto_region 5 with (fail)
      refine wp_region_y (zs := []) (S := fun w' => Below w.heap.size w w' ∧ At w' w.heap.size (.cells (u8s (f)) 71 (0, 0))) (S2 := fun w' => True) (by kernel_rfl) ?_
      change wpAnyY _ _ _ _ _ _ _ _ _ _ (World.drew _)
      generalize hwdz21 : World.drew _ = wdz21
      replace hB : Below w.heap.size w wdz21 := by rw [← hwdz21]; exact hB.drew
      replace h0 : At wdz21 w.heap.size (.cells (u8s (f)) 71 (0, 0)) := by rw [← hwdz21]; exact h0
      replace h1 : At wdz21 Wz8.heap.size (.cells (u8s (cmix f c)) 61 (0, 0)) := by rw [← hwdz21]; exact h1
      replace h2 : At wdz21 Wz2.heap.size (.cells (u8s (List.replicate 36 0)) 61 (0, 0)) := by rw [← hwdz21]; exact h2
      clear hwdz21
      refine y_yield 0 (some 10) (.int .i64 c) rfl (by kernel_rfl) (by kernel_rfl) (by kernel_rfl) (fun _ _ _ h => h) rfl rfl ⟨hB, h0⟩ (fun w' h' => exec_move _ rfl (.int .i64 c) rfl) ?_
      go_frame
      refine y_yield 1 (some 11) (.int .i64 c) rfl (by kernel_rfl) (by kernel_rfl) (by kernel_rfl) (fun _ _ _ h => h) rfl rfl ⟨hB, h0⟩ (fun w' h' => exec_move _ rfl (.int .i64 c) rfl) ?_
      go_frame
      refine y_yield 2 (some 12) (.pointer (some ⟨w.heap.size, 0 + c, none⟩)) rfl (by kernel_rfl) (by kernel_rfl) (by kernel_rfl) (fun _ _ _ h => h) rfl rfl ⟨hB, h0⟩ (fun w' h' => exec_index_arr1 71 5 _ _ rfl w.heap.size 0 9 c rfl rfl Try.underlying71 (by kernel_rfl) hc9) ?_
      go_frame
      refine y_yield 3 (some 13) (.int .u8 (x : Nat)) rfl (by kernel_rfl) (by kernel_rfl) (by kernel_rfl) (fun _ _ _ h => h) rfl rfl ⟨hB, h0⟩ (fun w' h' => exec_load_one 5 _ rfl w.heap.size (0 + c) rfl (.int .u8 (x : Nat)) _ Try.underlying5 rfl (cell0 h'.2 (by rw [HF.out]; exact hc9) Hx.out)) ?_
      go_frame
      refine y_yield 4 (some 14) (.pointer (some ⟨Wz8.heap.size, c * 4, none⟩)) rfl (by kernel_rfl) (by kernel_rfl) (by kernel_rfl) (fun _ _ _ h => h) rfl rfl ⟨hB, h0⟩ (fun w' h' => exec_index_arr0 61 59 _ _ rfl Wz8.heap.size 9 c 4 rfl rfl Try.underlying61 (by kernel_rfl) hc9) ?_
      go_frame
      refine y_yield 5 (some 15) (.pointer (some ⟨Wz8.heap.size, c * 4 + 0, none⟩)) rfl (by kernel_rfl) (by kernel_rfl) (by kernel_rfl) (fun _ _ _ h => h) rfl rfl ⟨hB, h0⟩ (fun w' h' => exec_index_arr1 59 5 _ _ rfl Wz8.heap.size (c * 4) 4 0 rfl rfl Try.underlying59 (by kernel_rfl) (by omega)) ?_
      go_frame
      refine y_oper 6 (by kernel_rfl) rfl rfl (fun K' hK' => ?_)
      refine wp_store_b1 5 _ _ rfl rfl Wz8.heap.size (c * 4 + 0) rfl (x) rfl _ _ h1 (by kernel_rfl) (by rw [cmix_len]; omega) (fun Wz22 pz23 => ?_)
      replace hB := pz23.below hB (by omega)
      replace h0 := pz23.other h0 (by omega)
      replace h2 := pz23.other h2 (by omega)
      replace h1 : At Wz22 Wz8.heap.size (.cells (u8s (cmix f (c + 1))) 61 (0, 0)) := by have h9 := pz23.at_; rwa [Nat.add_zero, HP.out] at h9
      refine hK' _ _ ⟨hB, h0⟩ (fun _ => trivial) ?_
      clear hK' K' pz23
      refine y_done (by kernel_rfl) ?_ _
      go_upto_region 4 with (fail)
      refine wp_region_lit ?_
      refine ls_ex (some 8) (.int .i64 c) rfl rfl (exec_move _ rfl (.int .i64 c) rfl) ?_
      go_frame
      refine ls_ex (some 9) (.int .i64 (c + 1)) rfl rfl (exec_add _ _ _ _ rfl c 1 (c + 1) rfl rfl (IntWalk.i64_in _ (by omega))) ?_
      go_frame
      refine ls_ex (some 4) (.int .i64 (c + 1)) rfl rfl (exec_assign _ rfl (.int .i64 (c + 1)) rfl) ?_
      go_frame
      refine wpList_nil ?_
      go_wp2_with fail
      go_roundw
      case rel => exact ⟨c + 1, by omega, by go_num, hB, h0, h1, h2⟩
      case measure => simp [intOf]; omega
    · have HR : Hid (cmix f c = conS f) := Lib.hid (by rw [show c = 9 by omega]; exact cmix_end f)
      rw [HR.out] at h1
      go_upto_region 3 with (fail)
      refine wp_region_lit ?_
      refine ls_ex (some 6) (.int .i64 c) rfl rfl (exec_move _ rfl (.int .i64 c) rfl) ?_
      go_frame
      refine ls_ex (some 7) (.bool false) rfl rfl (exec_lss _ _ _ _ rfl c 9 rfl rfl false (decide_eq_false (by omega))) ?_
      go_frame
      refine wpList_nil ?_
      go_upto_region 6 with (fail)
      refine wp_region_lit ?_
      refine ls_ex (some 16) (.agg (u8s (conS f))) rfl rfl (exec_load_all 61 _ rfl Wz8.heap.size rfl _ _ _ h1 Try.underlying61 rfl 36 (by kernel_rfl) ((u8s_size _).trans (conS_len f))) ?_
      go_frame
      refine ls_op rfl (fun K' hK' => ?_)
      refine wp_store_bytes 61 _ _ rfl rfl Wz2.heap.size rfl (conS f) rfl _ _ h2 36 (by kernel_rfl) (conS_len f) (by simp) (fun Wz24 pz25 => ?_)
      replace hB := pz25.below hB (by omega)
      replace h0 := pz25.other h0 (by omega)
      replace h1 := pz25.other h1 (by omega)
      replace h2 : At Wz24 Wz2.heap.size (.cells (u8s (conS f)) 61 (0, 0)) := pz25.at_
      refine hK' _ _ ?_
      clear hK' K' pz25
      refine wpList_nil ?_
      go_wp2_with fail
      refine bodyPost_ret (results_at rfl _ _ Wz2.heap.size _ _ _ rfl h2 Try.underlying61 rfl 36 (by kernel_rfl) ((u8s_size _).trans (conS_len f))) rfl ?_
      exact ⟨rfl, hB⟩
set_option maxHeartbeats 12800000 in
theorem series_c (q : List Nat) (hq : Bytes 36 q) (w : World) :
    Calls Try.prog 43 #[.agg (u8s q)] w (fun e w' => e = .returned (.agg (u8s (serOf q))) ∧ Below w.heap.size w w') := by
  have hB := Below.refl w.heap.size w
  have HF := Lib.hid hq.len
  go_enter Try.func43, Try.ntmps43
  go_upto_region 0 with (fail)
  refine wp_region_lit ?_
  refine ls_op rfl (fun K' hK' => ?_)
  have lz1 := hB.size
  refine wp_new (some 1) rfl (exec_box 75 _ rfl (u8s (q)) rfl) (fun Wz2 nnz3 => ?_)
  have bz4 := nnz3.below (Below.refl _ _) (Nat.le_refl _)
  replace hB := below_after hB bz4
  have hz5 : At Wz2 w.heap.size (.cells (u8s (q)) 75 (0, 0)) := nnz3.at_
  refine hK' _ _ ?_
  clear hK' K' nnz3 bz4
  go_frame
  refine ls_op rfl (fun K' hK' => ?_)
  have lz6 := hB.size
  have lz7 := hz5.lt
  refine wp_new (some 2) rfl (al_impl_Series rfl) (fun Wz8 nnz9 => ?_)
  have bz10 := nnz9.below (Below.refl _ _) (Nat.le_refl _)
  replace hB := below_after hB bz10
  replace hz5 := hz5.after bz10
  have hz11 : At Wz8 Wz2.heap.size (.cells (u8s (List.replicate 36 0)) 61 (0, 0)) := nnz9.at_
  refine hK' _ _ ?_
  clear hK' K' nnz9 bz10
  go_frame
  refine wpList_nil ?_
  go_upto_region 1 with (fail)
  refine wp_region_lit ?_
  refine ls_op rfl (fun K' hK' => ?_)
  have lz12 := hB.size
  have lz13 := hz5.lt
  have lz14 := hz11.lt
  refine wp_new (some 3) rfl (al_impl_Series rfl) (fun Wz15 nnz16 => ?_)
  have bz17 := nnz16.below (Below.refl _ _) (Nat.le_refl _)
  replace hB := below_after hB bz17
  replace hz5 := hz5.after bz17
  replace hz11 := hz11.after bz17
  have hz18 : At Wz15 Wz8.heap.size (.cells (u8s (List.replicate 36 0)) 61 (0, 0)) := nnz16.at_
  refine hK' _ _ ?_
  clear hK' K' nnz16 bz17
  go_frame
  refine wpList_nil ?_
  go_upto_region 2 with (fail)
  refine wp_region_lit ?_
  refine ls_ex (some 8) (.agg (u8s (q))) rfl rfl (exec_load_all 75 _ rfl w.heap.size rfl _ _ _ hz5 Try.underlying75 rfl 36 (by kernel_rfl) ((u8s_size _).trans HF.out)) ?_
  go_frame
  refine ls_ex (some 9) (.int .i64 0) rfl rfl (exec_move _ rfl (.int .i64 0) rfl) ?_
  go_frame
  refine wpList_nil ?_
  go_wp2_with fail
  go_loopw [9] (fun s9 wr => ∃ i : Nat, i ≤ 4 ∧ s9 = .int .i64 i ∧ Below w.heap.size w wr ∧ At wr Wz8.heap.size (.cells (u8s (smix q i 0)) 61 (0, 0)) ∧ At wr Wz2.heap.size (.cells (u8s (List.replicate 36 0)) 61 (0, 0))) (fun s9 _ => 4 - (intOf s9).toNat)
  case atStart => exact ⟨0, by omega, rfl, hB, by rw [smix_start]; exact hz18, hz11⟩
  case round =>
    clear hB hz5 hz11 hz18
    obtain ⟨i, hi, rfl, hB, h0, h1⟩ := hrel
    by_cases hi4 : i < 4
    · have hs9 : (segm q (i * 9) 9).length = 9 := segm_len (by rw [HF.out]; omega)
      go_upto_region 3 with (fail)
      refine wp_region_lit ?_
      refine ls_ex (some 10) (.bool true) rfl rfl (exec_lss _ _ _ _ rfl i 4 rfl rfl true (decide_eq_true (by omega))) ?_
      go_frame
      refine wpList_nil ?_
      go_upto_region 4 with (fail)
      refine wp_region_lit ?_
      refine ls_ex (some 11) (.int .i64 i) rfl rfl (exec_move _ rfl (.int .i64 i) rfl) ?_
      go_frame
      refine ls_ex (some 12) (.agg (u8s (segm q (i * 9) 9))) rfl rfl (exec_index_seg 75 71 _ _ rfl 4 i 9 q _ rfl rfl Try.underlying75 Try.underlying71 rfl (by kernel_rfl) hi4) ?_
      go_frame
      refine ls_op rfl (fun K' hK' => ?_)
      have lz19 := hB.size
      have lz20 := h0.lt
      have lz21 := h1.lt
      refine wp_new (some 5) rfl (al_impl_Form rfl) (fun Wz22 nnz23 => ?_)
      have bz24 := nnz23.below (Below.refl _ _) (Nat.le_refl _)
      replace hB := below_after hB bz24
      replace h0 := h0.after bz24
      replace h1 := h1.after bz24
      have hz25 : At Wz22 wr.heap.size (.cells (u8s (List.replicate 9 0)) 71 (0, 0)) := nnz23.at_
      refine hK' _ _ ?_
      clear hK' K' nnz23 bz24
      go_frame
      refine ls_ex (some 4) (.int .i64 i) rfl rfl (exec_assign _ rfl (.int .i64 i) rfl) ?_
      go_frame
      refine ls_op rfl (fun K' hK' => ?_)
      refine wp_store_bytes 71 _ _ rfl rfl wr.heap.size rfl (segm q (i * 9) 9) rfl _ _ hz25 9 (by kernel_rfl) hs9 (by simp) (fun Wz26 pz27 => ?_)
      replace hB := pz27.below hB (by omega)
      replace h0 := pz27.other h0 (by omega)
      replace h1 := pz27.other h1 (by omega)
      replace hz25 : At Wz26 wr.heap.size (.cells (u8s (segm q (i * 9) 9)) 71 (0, 0)) := pz27.at_
      refine hK' _ _ ?_
      clear hK' K' pz27
      refine wpList_nil ?_
      go_upto_region 5 with (fail)
      refine wp_region_lit ?_
      refine ls_ex (some 13) (.agg (u8s (segm q (i * 9) 9))) rfl rfl (exec_load_all 71 _ rfl wr.heap.size rfl _ _ _ hz25 Try.underlying71 rfl 9 (by kernel_rfl) ((u8s_size _).trans hs9)) ?_
      go_frame
      refine ls_ex (some 14) (.int .i64 0) rfl rfl (exec_move _ rfl (.int .i64 0) rfl) ?_
      go_frame
      refine wpList_nil ?_
      go_wp2_with fail
      obtain ⟨we, rfl⟩ : ∃ x : World, x = wr := ⟨_, rfl⟩
      go_loopw [14] (fun s14 wr => ∃ c : Nat, c ≤ 9 ∧ s14 = .int .i64 c ∧ Below w.heap.size w wr ∧ At wr Wz8.heap.size (.cells (u8s (smix q i c)) 61 (0, 0)) ∧ At wr Wz2.heap.size (.cells (u8s (List.replicate 36 0)) 61 (0, 0))) (fun s14 _ => 9 - (intOf s14).toNat)
      case atStart => exact ⟨0, by omega, rfl, hB, h0, h1⟩
      case round =>
        clear hB h0 h1 hz25
        obtain ⟨c, hc, rfl, hB, h0, h1⟩ := hrel
        by_cases hc9 : c < 9
        · obtain ⟨x, hx⟩ : ∃ x, (segm q (i * 9) 9)[c]?.getD 0 = x := ⟨_, rfl⟩
          have Hx := Lib.hid hx
          have HP : Hid ((smix q i c).set (c * 4 + i) x = smix q i (c + 1)) := Lib.hid (smix_step hi4 (by rw [← hx, segm_nth _ _ _ _ hc9]))
          clear hx
          go_upto_region 6 with (fail)
          refine wp_region_lit ?_
          refine ls_ex (some 15) (.bool true) rfl rfl (exec_lss _ _ _ _ rfl c 9 rfl rfl true (decide_eq_true (by omega))) ?_
          go_frame
          refine wpList_nil ?_
          go_upto_region 7 with (fail)
          refine wp_region_lit ?_
          refine ls_ex (some 16) (.int .i64 c) rfl rfl (exec_move _ rfl (.int .i64 c) rfl) ?_
          go_frame
          refine ls_ex (some 17) (.int .u8 (x : Nat)) rfl rfl (exec_index_u8x 71 5 _ _ rfl 9 c (segm q (i * 9) 9) rfl rfl Try.underlying71 Try.underlying5 (by kernel_rfl) hs9 hc9 x Hx.out) ?_
          go_frame
          refine ls_ex (some 6) (.int .i64 c) rfl rfl (exec_assign _ rfl (.int .i64 c) rfl) ?_
          go_frame
          refine ls_ex (some 7) (.int .u8 (x : Nat)) rfl rfl (exec_assign _ rfl (.int .u8 (x : Nat)) rfl) ?_
          go_frame
          refine wpList_nil ?_
          go_upto_region 8 with (fail)
          refine wp_region_lit ?_
          refine ls_ex (some 18) (.int .i64 c) rfl rfl (exec_move _ rfl (.int .i64 c) rfl) ?_
          go_frame
          refine ls_ex (some 19) (.int .i64 i) rfl rfl (exec_move _ rfl (.int .i64 i) rfl) ?_
          go_frame
          refine ls_ex (some 20) (.int .u8 (x : Nat)) rfl rfl (exec_move _ rfl (.int .u8 (x : Nat)) rfl) ?_
          go_frame
          refine ls_ex (some 21) (.pointer (some ⟨Wz8.heap.size, c * 4, none⟩)) rfl rfl (exec_index_arr0 61 59 _ _ rfl Wz8.heap.size 9 c 4 rfl rfl Try.underlying61 (by kernel_rfl) hc9) ?_
          go_frame
          refine ls_ex (some 22) (.pointer (some ⟨Wz8.heap.size, c * 4 + i, none⟩)) rfl rfl (exec_index_arr1 59 5 _ _ rfl Wz8.heap.size (c * 4) 4 i rfl rfl Try.underlying59 (by kernel_rfl) hi4) ?_
          go_frame
          refine ls_op rfl (fun K' hK' => ?_)
          refine wp_store_b1 5 _ _ rfl rfl Wz8.heap.size (c * 4 + i) rfl (x) rfl _ _ h0 (by kernel_rfl) (by rw [smix_len]; omega) (fun Wz28 pz29 => ?_)
          replace hB := pz29.below hB (by omega)
          replace h1 := pz29.other h1 (by omega)
          replace h0 : At Wz28 Wz8.heap.size (.cells (u8s (smix q i (c + 1))) 61 (0, 0)) := by have h9 := pz29.at_; rwa [HP.out] at h9
          refine hK' _ _ ?_
          clear hK' K' pz29
          refine wpList_nil ?_
          go_upto_region 9 with (fail)
          refine wp_region_lit ?_
          refine ls_ex (some 23) (.int .i64 (c + 1)) rfl rfl (exec_add _ _ _ _ rfl c 1 (c + 1) rfl rfl (IntWalk.i64_in _ (by omega))) ?_
          go_frame
          refine ls_ex (some 14) (.int .i64 (c + 1)) rfl rfl (exec_move _ rfl (.int .i64 (c + 1)) rfl) ?_
          go_frame
          refine wpList_nil ?_
          go_wp2_with fail
          go_roundw
          case rel => exact ⟨c + 1, by omega, by go_num, hB, h0, h1⟩
          case measure => simp [intOf]; omega
        · have HR : Hid (smix q i c = smix q (i + 1) 0) := Lib.hid (by rw [show c = 9 by omega]; exact smix_row q i)
          rw [HR.out] at h0
          go_upto_region 6 with (fail)
          refine wp_region_lit ?_
          refine ls_ex (some 15) (.bool false) rfl rfl (exec_lss _ _ _ _ rfl c 9 rfl rfl false (decide_eq_false (by omega))) ?_
          go_frame
          refine wpList_nil ?_
          go_upto_region 10 with (fail)
          refine wp_region_lit ?_
          refine ls_ex (some 24) (.int .i64 (i + 1)) rfl rfl (exec_add _ _ _ _ rfl i 1 (i + 1) rfl rfl (IntWalk.i64_in _ (by omega))) ?_
          go_frame
          refine ls_ex (some 9) (.int .i64 (i + 1)) rfl rfl (exec_move _ rfl (.int .i64 (i + 1)) rfl) ?_
          go_frame
          refine wpList_nil ?_
          go_wp2_with fail
          go_roundw
          case rel => exact ⟨i + 1, by omega, by go_num, hB, h0, h1⟩
          case measure => simp [intOf]; omega
    · have HR : Hid (smix q i 0 = serOf q) := Lib.hid (by rw [show i = 4 by omega]; exact smix_end q)
      rw [HR.out] at h0
      go_upto_region 3 with (fail)
      refine wp_region_lit ?_
      refine ls_ex (some 10) (.bool false) rfl rfl (exec_lss _ _ _ _ rfl i 4 rfl rfl false (decide_eq_false (by omega))) ?_
      go_frame
      refine wpList_nil ?_
      go_upto_region 11 with (fail)
      refine wp_region_lit ?_
      refine ls_ex (some 25) (.agg (u8s (serOf q))) rfl rfl (exec_load_all 61 _ rfl Wz8.heap.size rfl _ _ _ h0 Try.underlying61 rfl 36 (by kernel_rfl) ((u8s_size _).trans (serOf_len q))) ?_
      go_frame
      refine ls_op rfl (fun K' hK' => ?_)
      refine wp_store_bytes 61 _ _ rfl rfl Wz2.heap.size rfl (serOf q) rfl _ _ h1 36 (by kernel_rfl) (serOf_len q) (by simp) (fun Wz30 pz31 => ?_)
      replace hB := pz31.below hB (by omega)
      replace h0 := pz31.other h0 (by omega)
      replace h1 : At Wz30 Wz2.heap.size (.cells (u8s (serOf q)) 61 (0, 0)) := pz31.at_
      refine hK' _ _ ?_
      clear hK' K' pz31
      refine wpList_nil ?_
      go_wp2_with fail
      refine bodyPost_ret (results_at rfl _ _ Wz2.heap.size _ _ _ rfl h1 Try.underlying61 rfl 36 (by kernel_rfl) ((u8s_size _).trans (serOf_len q))) rfl ?_
      exact ⟨rfl, hB⟩
end Go.Proofs.Ytlpdglmjejfmhaa
