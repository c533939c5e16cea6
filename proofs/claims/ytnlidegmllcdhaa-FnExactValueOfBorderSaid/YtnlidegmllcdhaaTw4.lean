/-
  impl.schemeLike, seriesOf, partsOf. (Made by mktw4.py.)
-/
import Derived.Test.YtnlidegmllcdhaaTw3
namespace Go.Proofs.Ytnlidegmllcdhaa
open Go.RowKit
set_option maxRecDepth 100000
theorem exec_build3T {P : Program} {o : Oper} {a : Act} {w : World} (t e : TypeId) (x y z : Operand) (ho : o.op = .build t #[(0, x), (1, y), (2, z)]) (n : Nat) (p q r : List Nat)
    (hx : a.eval x = .agg (u8s p)) (hy : a.eval y = .agg (u8s q)) (hz : a.eval z = .agg (u8s r)) (hu : P.underlying t = some (.array n e)) (hs : (P.info? e).map (·.size) = some 36)
    (h0 : (P.info? t).map (·.zero) = some (some (.agg (u8s (List.replicate 108 0))))) (hp : p.length = 36) (hq : q.length = 36) (hr : r.length = 36) :
    (execOp a.eval o).run P w = .ok (.value (.agg (u8s (over (over (over (List.replicate 108 0) 0 p) 36 q) 72 r)))) w := by
  obtain ⟨ie, hie, hse⟩ := Option.map_eq_some_iff.1 hs
  obtain ⟨it, hit, hzt⟩ := Option.map_eq_some_iff.1 h0
  have hb : P.built t [(0, .agg (u8s p)), (1, .agg (u8s q)), (2, .agg (u8s r))] = some (u8s (over (over (over (List.replicate 108 0) 0 p) 36 q) 72 r)) := by
    have l1 : (over (List.replicate 108 0) 0 p).length = 108 := by rw [over_length (by simp [hp])]; simp
    have l2 : (over (over (List.replicate 108 0) 0 p) 36 q).length = 108 := by rw [over_length (by rw [l1, hq]; omega), l1]
    unfold Program.built
    simp only [hit, hu, hzt, hie, hse, Value.cells]
    rw [fill_u8s _ _ _ 0 0 36 _ rfl hp (by simp), fill_u8s _ _ _ 1 36 36 _ rfl hq (by rw [l1]; omega), fill_u8s _ _ _ 2 72 36 _ rfl hr (by rw [l2]; omega)]
    rfl
  unfold execOp
  have := run_build (P := P) w t #[(0, .agg (u8s p)), (1, .agg (u8s q)), (2, .agg (u8s r))] _ hb
  simp [ho, hx, hy, hz, this]


theorem exec_build_sers {o : Oper} {a : Act} {w : World} (x y z : Operand) (ho : o.op = .build 114 #[(0, x), (1, y), (2, z)]) (t : List Nat) (ht : t.length = 108) (hx : a.eval x = .agg (u8s (segm t 0 36))) (hy : a.eval y = .agg (u8s (segm t 36 36))) (hz : a.eval z = .agg (u8s (segm t 72 36))) :
    (execOp a.eval o).run Try.prog w = .ok (.value (.agg (u8s t))) w := by
  have h := exec_build3T (P := Try.prog) (w := w) 114 50 x y z ho 3 _ _ _ hx hy hz Try.underlying114 (by kernel_rfl) (by kernel_rfl) (segm_len (by omega)) (segm_len (by omega)) (segm_len (by omega))
  rwa [overT3 t ht] at h
theorem schemeForT_c (p n m k : Int) (A : Option Addr) (l c : Nat) (w : World) :
    Calls Try.prog 58 #[.int .i64 p, .agg #[.int .i64 n, .int .i64 m, .int .i64 k], .slice A l c] w fun e w' => e = .returned (.agg #[.int .i64 p, .int .i64 n, .int .i64 m, .int .i64 k, .slice A l c]) ∧ Below w.heap.size w w' := by
  go_enter Try.func58, Try.ntmps58
  go_wp2_with fail
  refine bodyPost_ret (results_at rfl _ _ (w.heap.size + 1) _ _ _ rfl (al2_1 _ _ _) Try.underlying28 rfl 5 (by kernel_rfl) rfl) rfl ?_
  exact ⟨rfl, below2 _ _ _⟩
theorem wp_store_b1 {P : Program} {o : Oper} {a : Act} {w : World} {K : Act → World → Prop} {Q : Exit → Act → World → Prop} (ty : TypeId) (x y : Operand) (ho : o.op = .store ty x y) (hdst : o.dst = none) (g i : Nat) (hx : a.eval x = .pointer (some ⟨g, i, none⟩)) (n : Nat) (hy : a.eval y = .int .u8 (n : Int))
    (t : TypeId) (l : List Nat) (hg : At w g (.cells (u8s l) t (0, 0))) (hi : (P.info? ty).map (·.size) = some 1) (hle : i < l.length)
    (h : ∀ w', Put w w' g (.cells (u8s (l.set i n)) t (0, 0)) → K a w') : Oper.wp P o a w K Q := by
  refine wp_store_one ty x y ho hdst g i hx _ hy rfl rfl t (u8s l) hg hi (by rw [u8s_size]; exact hle) ?_
  rw [u8s_set]
  exact h
theorem exec_index_u8x {P : Program} {o : Oper} {a : Act} {w : World} (ty e : TypeId) (x i : Operand) (ho : o.op = .index ty x i) (n k : Nat) (l : List Nat) (hx : a.eval x = .agg (u8s l)) (hi : a.eval i = .int .i64 k)
    (hu : P.underlying ty = some (.array n e)) (he : P.underlying e = some (.int .u8)) (hs : (P.info? e).map (·.size) = some 1) (hl : l.length = n) (hk : k < n) (v : Nat) (hv : l[k]?.getD 0 = v) :
    (execOp a.eval o).run P w = .ok (.value (.int .u8 (v : Int))) w := by
  subst hv
  exact exec_index_u8s ty e x i ho n k l hx hi hu he hs hl hk
/-- The numbers of a power of e, and those of all powers in order. -/
def partL (s : List Nat) (i : Nat) : List Nat := (List.range 9).map fun c => s[c * 4 + i]?.getD 0
def partsL (s : List Nat) : List Nat := (List.range 36).map fun j => s[(j % 9) * 4 + j / 9]?.getD 0
theorem partL_len (s : List Nat) (i : Nat) : (partL s i).length = 9 := by simp [partL]
theorem partsL_len (s : List Nat) : (partsL s).length = 36 := by simp [partsL]
theorem partL_get (s : List Nat) (i c : Nat) (hc : c < 9) : (partL s i)[c]?.getD 0 = s[c * 4 + i]?.getD 0 := by simp [partL, hc]
theorem partL_bytes {s : List Nat} (h : Bytes 36 s) (i : Nat) : Bytes 9 (partL s i) := ⟨partL_len s i, fun n hn => by
  obtain ⟨c, _, rfl⟩ := List.mem_map.1 hn
  exact h.lt _⟩
theorem partsL_seg (s : List Nat) (i : Nat) (hi : i < 4) : segm (partsL s) (i * 9) 9 = partL s i := by
  apply List.ext_getElem
  · rw [segm_len (by rw [partsL_len]; omega), partL_len]
  · intro j h1 h2
    have hj : j < 9 := by rw [partL_len] at h2; exact h2
    simp only [segm, partsL, partL, List.getElem_take, List.getElem_drop, List.getElem_map, List.getElem_range]
    rw [show (i * 9 + j) % 9 = j by omega, show (i * 9 + j) / 9 = i by omega]
def pmix (s : List Nat) (c i : Nat) : List Nat := (List.range 36).map fun j => if j % 9 < c ∨ (j % 9 = c ∧ j / 9 < i) then s[(j % 9) * 4 + j / 9]?.getD 0 else 0
theorem pmix_len (s : List Nat) (c i : Nat) : (pmix s c i).length = 36 := by simp [pmix]
theorem pmix_start (s : List Nat) : pmix s 0 0 = List.replicate 36 0 := by
  apply List.ext_getElem
  · simp [pmix]
  · intro j h1 h2
    simp only [pmix, List.getElem_map, List.getElem_range, List.getElem_replicate]
    rw [if_neg (by omega)]
theorem pmix_step {s : List Nat} {c i x : Nat} (hc : c < 9) (hx : s[c * 4 + i]?.getD 0 = x) : (pmix s c i).set (i * 9 + c) x = pmix s c (i + 1) := by
  apply List.ext_getElem
  · simp [pmix]
  · intro j h1 h2
    rw [List.getElem_set]
    simp only [pmix, List.getElem_map, List.getElem_range]
    by_cases e : i * 9 + c = j
    · subst e
      rw [if_pos rfl, show (i * 9 + c) % 9 = c by omega, show (i * 9 + c) / 9 = i by omega, if_pos (by omega), hx]
    · rw [if_neg e]
      by_cases h : j % 9 < c ∨ (j % 9 = c ∧ j / 9 < i)
      · rw [if_pos h, if_pos (by omega)]
      · rw [if_neg h, if_neg (by omega)]
theorem pmix_row (s : List Nat) (c : Nat) : pmix s c 4 = pmix s (c + 1) 0 := by
  apply List.ext_getElem
  · simp [pmix]
  · intro j h1 h2
    have hj : j < 36 := by rw [pmix_len] at h1; exact h1
    simp only [pmix, List.getElem_map, List.getElem_range]
    by_cases h : j % 9 < c ∨ (j % 9 = c ∧ j / 9 < 4)
    · rw [if_pos h, if_pos (by omega)]
    · rw [if_neg h, if_neg (by omega)]
theorem pmix_end (s : List Nat) : pmix s 9 0 = partsL s := by
  apply List.ext_getElem
  · simp [pmix, partsL]
  · intro j h1 h2
    simp only [pmix, partsL, List.getElem_map, List.getElem_range]
    rw [if_pos (by omega)]
theorem okAt_part {p n : Int} {s : List Nat} {c i : Nat} (hc : c < 9) (hi : i < 4) : okAt p n (partL s i) c = okS p n s (c * 4 + i) := by
  unfold okAt okS
  rw [partL_get s i c hc, show (c * 4 + i) / 4 = c by omega]
theorem serB_part_no {p n : Int} {s : List Nat} {i : Nat} (hi : i < 4) (h : formB p (partL s i) n = false) : serB p s n = false := by
  unfold formB at h
  rw [List.all_eq_false] at h
  obtain ⟨c, hc, h⟩ := h
  have hc := List.mem_range.1 hc
  rw [okAt_part hc hi] at h
  exact serB_no (j := c * 4 + i) (by omega) (by simpa using h)
theorem someS_zero {s : List Nat} (h : (s == List.replicate 36 0) = true) : someS s 36 = false := by
  rw [eq_of_beq h]; decide
theorem serB_zero {p n : Int} {s : List Nat} (h : (s == List.replicate 36 0) = true) : serB p s n = false := by
  unfold serB
  rw [someS_zero h, Bool.and_false]
theorem serB_parts {p n : Int} {s : List Nat} (hl : s.length = 36) (hz : (s == List.replicate 36 0) = false) (h : ∀ i, i < 4 → formB p (partL s i) n = true) : serB p s n = true := by
  rw [serB_yes (fun j hj => ?_)]
  · rw [← Bool.not_eq_false]
    intro hc
    unfold someS at hc
    rw [List.take_of_length_le (by omega), List.any_eq_false] at hc
    have e : s = List.replicate 36 0 := List.eq_replicate_iff.2 ⟨hl, fun x hx => by simpa using hc x hx⟩
    rw [e] at hz
    simp at hz
  · have h1 := h (j % 4) (by omega)
    unfold formB at h1
    rw [List.all_eq_true] at h1
    have h2 := h1 (j / 4) (List.mem_range.2 (by omega))
    rwa [okAt_part (by omega) (by omega), show j / 4 * 4 + j % 4 = j by omega] at h2
/-- Whether one of a twig's series may stand where it does. -/
def sideS (p n m k : Int) (t : List Nat) (a : Nat) : Bool := serB p (segm t (a * 36) 36) (shR n m a * shC m k a)
theorem twigB_sides (p n m k : Int) (t : List Nat) : twigB p n m k t = (sideS p n m k t 0 && sideS p n m k t 1 && sideS p n m k t 2) := by
  simp only [twigB, sideS, shR, shC, Nat.zero_mul, Nat.one_mul, show 2 * 36 = 72 from rfl, show ¬ (0 : Nat) = 1 by omega, show ¬ (1 : Nat) = 0 by omega, show ¬ (2 : Nat) = 0 by omega, show ¬ (2 : Nat) = 1 by omega, if_true, if_false]
theorem twigB_no {p n m k : Int} {t : List Nat} {a : Nat} (ha : a < 3) (h : sideS p n m k t a = false) : twigB p n m k t = false := by
  rw [twigB_sides]
  obtain rfl | rfl | rfl : a = 0 ∨ a = 1 ∨ a = 2 := by omega
  · rw [h]; simp
  · rw [h]; simp
  · rw [h]; simp
theorem twigB_yes {p n m k : Int} {t : List Nat} (h : ∀ a, a < 3 → sideS p n m k t a = true) : twigB p n m k t = true := by
  rw [twigB_sides, h 0 (by omega), h 1 (by omega), h 2 (by omega)]; rfl
theorem run_eq_series (f g : List Nat) (hf : f.length = 36) (hg : g.length = 36) (w : World) : (Op.equalIn 10000 50 (.agg (u8s f)) (.agg (u8s g))).run Try.prog w = .ok (f == g) w := by
  obtain ⟨i, hi⟩ : ∃ i, Try.prog.info? 48 = some i := Option.isSome_iff_exists.1 (by kernel_rfl)
  have hc : Try.prog.cellsOf 48 = 4 := by kernel_rfl
  have hs : (Try.prog.info? 48).map (·.size) = some 4 := by kernel_rfl
  obtain ⟨ie, hie, hse⟩ := Option.map_eq_some_iff.1 hs
  have hagg : (isAgg 48).run Try.prog w = .ok true w := by
    unfold isAgg
    rw [Sem.run_bind, run_underlying Try.underlying48 w]
    rfl
  have hpart : ∀ (l : List Nat) (j : Nat), (part 48 (u8s l) (j * 4)).run Try.prog w = .ok (.agg (u8s (segm l (j * 4) 4))) w := by
    intro l j
    have hex : (u8s l).extract (j * 4) (j * 4 + 4) = u8s (segm l (j * 4) 4) := by
      rw [u8s_extract, show j * 4 + 4 - j * 4 = 4 by omega]
      rfl
    unfold part
    simp [Sem.run_bind, hagg, sizeOf, typeInfo, hie, hse, hex]
  have key : ∀ (js : List Nat), (∀ j ∈ js, j < 9) → (Op.eqItems 9999 48 4 (u8s f) (u8s g) js).run Try.prog w = .ok (js.all fun j => segm f (j * 4) 4 == segm g (j * 4) 4) w := by
    intro js
    induction js with
    | nil => intro _; simp [Op.eqItems]
    | cons j js ih =>
      intro hj
      have h9 : j < 9 := hj j (by simp)
      have l1 : (segm f (j * 4) 4).length = 4 := segm_len (by omega)
      have l2 : (segm g (j * 4) 4).length = 4 := segm_len (by omega)
      have h1 := run_equalIn_u8s (P := Try.prog) w 9997 48 5 4 Try.underlying48 Try.underlying5 (by kernel_rfl) _ _ l1 l2
      have ih := ih (fun x hx => hj x (by simp [hx]))
      simp only [Op.eqItems, Sem.run_bind, hpart, Result.andThen_ok, h1, Sem.run_ite, Sem.run_pure, ih, List.all_cons]
      cases segm f (j * 4) 4 == segm g (j * 4) 4 <;> rfl
  rw [run_equalIn_array (P := Try.prog) w 9999 _ _ Try.underlying50 hi, hc, key _ (fun j hj => List.mem_range.1 hj)]
  congr 1
  by_cases hfg : f = g
  · subst hfg; simp
  · rw [beq_eq_false_iff_ne.2 hfg, List.all_eq_false]
    refine Classical.byContradiction fun hne => hfg ?_
    apply List.ext_getElem (by omega)
    intro x h1 h2
    have h3 : (segm f (x / 4 * 4) 4 == segm g (x / 4 * 4) 4) = true := by
      rw [← Bool.not_eq_false]
      exact fun h => hne ⟨x / 4, List.mem_range.2 (by omega), by simp [h]⟩
    have h4 : (segm f (x / 4 * 4) 4)[x % 4]?.getD 0 = (segm g (x / 4 * 4) 4)[x % 4]?.getD 0 := by rw [eq_of_beq h3]
    rw [segm_nth _ _ _ _ (by omega), segm_nth _ _ _ _ (by omega), show x / 4 * 4 + x % 4 = x by omega, List.getElem?_eq_getElem h1, List.getElem?_eq_getElem h2] at h4
    exact h4
theorem exec_eql_ser {o : Oper} {a : Act} {w : World} (x y : Operand) (t' : TypeId) (ho : o.op = .binOp .eql 50 x y t') (f g : List Nat) (hx : a.eval x = .agg (u8s f)) (hy : a.eval y = .agg (u8s g)) (hf : f.length = 36) (hg : g.length = 36) (b : Bool) (hb : (f == g) = b) :
    (execOp a.eval o).run Try.prog w = .ok (.value (.bool b)) w := by
  subst hb
  have hm : Try.prog.eqGuardType Try.prog.depth 50 = false := by kernel_rfl
  have h1 := run_eq_series f g hf hg w
  unfold execOp
  simp [ho, hx, hy, Sem.run_bind, run_eqGuard_agg w .eql 50 x y _ _ hm, run_eql_struct, h1]
attribute [local irreducible] wpList
theorem al__3_impl_Series {o : Oper} {a : Act} {w : World} (ho : o.op = .alloc 114) : (execOp a.eval o).run Try.prog w = .ok (.value (.pointer (some ⟨w.heap.size, 0, none⟩))) (w.alloc (.cells (u8s (List.replicate 108 0)) 114 (0, 0))) := by
  unfold execOp
  rw [ho]
  kernel_rfl
theorem al__4_uint8 {o : Oper} {a : Act} {w : World} (ho : o.op = .alloc 48) : (execOp a.eval o).run Try.prog w = .ok (.value (.pointer (some ⟨w.heap.size, 0, none⟩))) (w.alloc (.cells (u8s (List.replicate 4 0)) 48 (0, 0))) := by
  unfold execOp
  rw [ho]
  kernel_rfl
theorem al_impl_parts {o : Oper} {a : Act} {w : World} (ho : o.op = .alloc 62) : (execOp a.eval o).run Try.prog w = .ok (.value (.pointer (some ⟨w.heap.size, 0, none⟩))) (w.alloc (.cells (u8s (List.replicate 36 0)) 62 (0, 0))) := by
  unfold execOp
  rw [ho]
  kernel_rfl
set_option maxHeartbeats 4000000 in
theorem schemeLike_c (p n m k : Int) (A B : Option Addr) (l c l2 d : Nat) (w : World) :
    Calls Try.prog 33 #[.agg #[.int .i64 p, .int .i64 n, .int .i64 m, .int .i64 k, .slice A l c], .slice B l2 d] w (fun e w' => e = .returned (.agg #[.int .i64 p, .int .i64 n, .int .i64 m, .int .i64 k, .slice B l2 d]) ∧ Below w.heap.size w w') := by
  have hB := Below.refl w.heap.size w
  skip
  go_enter Try.func33, Try.ntmps33
  go_upto_region 0 with (fail)
  refine wp_region_lit ?_
  refine ls_op rfl (fun K' hK' => ?_)
  have lz1 := hB.size
  refine wp_new (some 2) rfl (exec_box 33 _ rfl (#[.int .i64 p, .int .i64 n, .int .i64 m, .int .i64 k, .slice A l c]) rfl) (fun Wz2 nnz3 => ?_)
  have bz4 := nnz3.below (Below.refl _ _) (Nat.le_refl _)
  replace hB := below_after hB bz4
  have hz5 : At Wz2 w.heap.size (.cells #[.int .i64 p, .int .i64 n, .int .i64 m, .int .i64 k, .slice A l c] 33 (0, 0)) := nnz3.at_
  refine hK' _ _ ?_
  clear hK' K' nnz3 bz4
  go_frame
  refine ls_op rfl (fun K' hK' => ?_)
  have lz6 := hB.size
  have lz7 := hz5.lt
  refine wp_new (some 4) rfl (al_impl_Scheme rfl) (fun Wz8 nnz9 => ?_)
  have bz10 := nnz9.below (Below.refl _ _) (Nat.le_refl _)
  replace hB := below_after hB bz10
  replace hz5 := hz5.after bz10
  have hz11 : At Wz8 Wz2.heap.size (.cells #[.int .i64 0, .int .i64 0, .int .i64 0, .int .i64 0, .slice none 0 0] 28 (0, 0)) := nnz9.at_
  refine hK' _ _ ?_
  clear hK' K' nnz9 bz10
  go_frame
  refine wpList_nil ?_
  go_upto_region 1 with (fail)
  refine wp_region_lit ?_
  refine ls_ex (some 5) (.pointer (some ⟨w.heap.size, 0, none⟩)) rfl rfl (exec_fieldAddr 33 _ 0 rfl _ (by kernel_rfl)) ?_
  go_frame
  refine ls_ex (some 6) (.int .i64 p) rfl rfl (exec_load_one 2 _ rfl w.heap.size 0 rfl (.int .i64 p) _ Try.underlying2 rfl (hz5.at_ 0)) ?_
  go_frame
  refine ls_ex (some 7) (.pointer (some ⟨w.heap.size, 1, none⟩)) rfl rfl (exec_fieldAddr 33 _ 1 rfl _ (by kernel_rfl)) ?_
  go_frame
  refine ls_ex (some 8) (.int .i64 n) rfl rfl (exec_load_one 2 _ rfl w.heap.size 1 rfl (.int .i64 n) _ Try.underlying2 rfl (hz5.at_ 1)) ?_
  go_frame
  refine ls_ex (some 9) (.pointer (some ⟨w.heap.size, 2, none⟩)) rfl rfl (exec_fieldAddr 33 _ 2 rfl _ (by kernel_rfl)) ?_
  go_frame
  refine ls_ex (some 10) (.int .i64 m) rfl rfl (exec_load_one 2 _ rfl w.heap.size 2 rfl (.int .i64 m) _ Try.underlying2 rfl (hz5.at_ 2)) ?_
  go_frame
  refine ls_ex (some 11) (.pointer (some ⟨w.heap.size, 3, none⟩)) rfl rfl (exec_fieldAddr 33 _ 3 rfl _ (by kernel_rfl)) ?_
  go_frame
  refine ls_ex (some 12) (.int .i64 k) rfl rfl (exec_load_one 2 _ rfl w.heap.size 3 rfl (.int .i64 k) _ Try.underlying2 rfl (hz5.at_ 3)) ?_
  go_frame
  refine ls_ex (some 13) (.agg #[.int .i64 n, .int .i64 m, .int .i64 k]) rfl rfl (exec_build_sz3 _ _ _ rfl n m k rfl rfl rfl) ?_
  go_frame
  refine ls_ex (some 14) (.slice B l2 d) rfl rfl (exec_move _ rfl (.slice B l2 d) rfl) ?_
  go_frame
  refine ls_op rfl (fun K' hK' => ?_)
  have lz14 := hB.size
  have lz15 := hz5.lt
  have lz16 := hz11.lt
  refine wp_call3 (some 15) rfl 58 _ _ _ _ rfl (fun args w => by kernel_rfl) _ _ _ rfl rfl rfl _ (schemeForT_c p n m k B l2 d _) (fun e Wz12 h => ?_)
  obtain ⟨rfl, bz13⟩ := h
  replace hB := below_after hB bz13
  replace hz5 := hz5.after bz13
  replace hz11 := hz11.after bz13
  clear bz13
  refine ⟨_, rfl, ?_⟩
  refine hK' _ _ ?_
  clear hK' K'
  go_frame
  refine ls_op rfl (fun K' hK' => ?_)
  refine wp_store_all 28 _ _ rfl rfl Wz2.heap.size rfl #[.int .i64 p, .int .i64 n, .int .i64 m, .int .i64 k, .slice B l2 d] rfl _ _ hz11 5 (by kernel_rfl) rfl rfl (one5 _ _ _ _ _ _ _) (fun Wz17 pz18 => ?_)
  replace hB := pz18.below hB (by omega)
  replace hz5 := pz18.other hz5 (by omega)
  replace hz11 : At Wz17 Wz2.heap.size (.cells #[.int .i64 p, .int .i64 n, .int .i64 m, .int .i64 k, .slice B l2 d] 28 (0, 0)) := pz18.at_
  refine hK' _ _ ?_
  clear hK' K' pz18
  refine wpList_nil ?_
  go_wp2_with fail
  refine bodyPost_ret (results_at rfl _ _ Wz2.heap.size _ _ _ rfl hz11 Try.underlying28 rfl 5 (by kernel_rfl) rfl) rfl ?_
  exact ⟨rfl, hB⟩
set_option maxHeartbeats 4000000 in
theorem seriesOf_c (t : List Nat) (ht : Bytes 108 t) (w : World) :
    Calls Try.prog 77 #[.agg (u8s t)] w (fun e w' => e = .returned (.agg (u8s t)) ∧ Below w.heap.size w w') := by
  have hB := Below.refl w.heap.size w
  skip
  go_enter Try.func77, Try.ntmps77
  go_upto_region 0 with (fail)
  refine wp_region_lit ?_
  refine ls_op rfl (fun K' hK' => ?_)
  have lz1 := hB.size
  refine wp_new (some 1) rfl (exec_box 52 _ rfl (u8s (t)) rfl) (fun Wz2 nnz3 => ?_)
  have bz4 := nnz3.below (Below.refl _ _) (Nat.le_refl _)
  replace hB := below_after hB bz4
  have hz5 : At Wz2 w.heap.size (.cells (u8s (t)) 52 (0, 0)) := nnz3.at_
  refine hK' _ _ ?_
  clear hK' K' nnz3 bz4
  go_frame
  refine ls_op rfl (fun K' hK' => ?_)
  have lz6 := hB.size
  have lz7 := hz5.lt
  refine wp_new (some 2) rfl (al__3_impl_Series rfl) (fun Wz8 nnz9 => ?_)
  have bz10 := nnz9.below (Below.refl _ _) (Nat.le_refl _)
  replace hB := below_after hB bz10
  replace hz5 := hz5.after bz10
  have hz11 : At Wz8 Wz2.heap.size (.cells (u8s (List.replicate 108 0)) 114 (0, 0)) := nnz9.at_
  refine hK' _ _ ?_
  clear hK' K' nnz9 bz10
  go_frame
  refine wpList_nil ?_
  go_upto_region 1 with (fail)
  refine wp_region_lit ?_
  refine ls_ex (some 3) (.pointer (some ⟨w.heap.size, 0, none⟩)) rfl rfl (exec_fieldAddr 52 _ 0 rfl _ (by kernel_rfl)) ?_
  go_frame
  refine ls_ex (some 4) (.agg (u8s (segm (t) 0 36))) rfl rfl (exec_load_seg 50 _ rfl w.heap.size (0) rfl _ (t) _ 36 hz5 Try.underlying50 rfl (by kernel_rfl) (by rw [ht.len]; omega) (segm (t) 0 36) rfl) ?_
  go_frame
  refine ls_ex (some 5) (.pointer (some ⟨w.heap.size, 36, none⟩)) rfl rfl (exec_fieldAddr 52 _ 1 rfl _ (by kernel_rfl)) ?_
  go_frame
  refine ls_ex (some 6) (.agg (u8s (segm (t) 36 36))) rfl rfl (exec_load_seg 50 _ rfl w.heap.size (36) rfl _ (t) _ 36 hz5 Try.underlying50 rfl (by kernel_rfl) (by rw [ht.len]; omega) (segm (t) 36 36) rfl) ?_
  go_frame
  refine ls_ex (some 7) (.pointer (some ⟨w.heap.size, 72, none⟩)) rfl rfl (exec_fieldAddr 52 _ 2 rfl _ (by kernel_rfl)) ?_
  go_frame
  refine ls_ex (some 8) (.agg (u8s (segm (t) 72 36))) rfl rfl (exec_load_seg 50 _ rfl w.heap.size (72) rfl _ (t) _ 36 hz5 Try.underlying50 rfl (by kernel_rfl) (by rw [ht.len]; omega) (segm (t) 72 36) rfl) ?_
  go_frame
  refine ls_ex (some 9) (.agg (u8s (t))) rfl rfl (exec_build_sers _ _ _ rfl t ht.len rfl rfl rfl) ?_
  go_frame
  refine ls_op rfl (fun K' hK' => ?_)
  refine wp_store_bytes 114 _ _ rfl rfl Wz2.heap.size rfl (t) rfl _ _ hz11 108 (by kernel_rfl) ht.len (by simp) (fun Wz12 pz13 => ?_)
  replace hB := pz13.below hB (by omega)
  replace hz5 := pz13.other hz5 (by omega)
  replace hz11 : At Wz12 Wz2.heap.size (.cells (u8s (t)) 114 (0, 0)) := pz13.at_
  refine hK' _ _ ?_
  clear hK' K' pz13
  refine wpList_nil ?_
  go_wp2_with fail
  refine bodyPost_ret (results_at rfl _ _ Wz2.heap.size _ _ _ rfl hz11 Try.underlying114 rfl 108 (by kernel_rfl) ((u8s_size _).trans ht.len)) rfl ?_
  exact ⟨rfl, hB⟩
set_option maxHeartbeats 12800000 in
theorem partsOf_c (f : List Nat) (hf : Bytes 36 f) (w : World) :
    Calls Try.prog 31 #[.agg (u8s f)] w (fun e w' => e = .returned (.agg (u8s (partsL f))) ∧ Below w.heap.size w w') := by
  have hB := Below.refl w.heap.size w
  have HF := Lib.hid hf.len
  go_enter Try.func31, Try.ntmps31
  go_upto_region 0 with (fail)
  refine wp_region_lit ?_
  refine ls_op rfl (fun K' hK' => ?_)
  have lz1 := hB.size
  refine wp_new (some 1) rfl (exec_box 50 _ rfl (u8s (f)) rfl) (fun Wz2 nnz3 => ?_)
  have bz4 := nnz3.below (Below.refl _ _) (Nat.le_refl _)
  replace hB := below_after hB bz4
  have hz5 : At Wz2 w.heap.size (.cells (u8s (f)) 50 (0, 0)) := nnz3.at_
  refine hK' _ _ ?_
  clear hK' K' nnz3 bz4
  go_frame
  refine ls_op rfl (fun K' hK' => ?_)
  have lz6 := hB.size
  have lz7 := hz5.lt
  refine wp_new (some 2) rfl (al_impl_parts rfl) (fun Wz8 nnz9 => ?_)
  have bz10 := nnz9.below (Below.refl _ _) (Nat.le_refl _)
  replace hB := below_after hB bz10
  replace hz5 := hz5.after bz10
  have hz11 : At Wz8 Wz2.heap.size (.cells (u8s (List.replicate 36 0)) 62 (0, 0)) := nnz9.at_
  refine hK' _ _ ?_
  clear hK' K' nnz9 bz10
  go_frame
  refine wpList_nil ?_
  go_upto_region 1 with (fail)
  refine wp_region_lit ?_
  refine ls_op rfl (fun K' hK' => ?_)
  have lz12 := hB.size
  have lz13 := hz5.lt
  have lz14 := hz11.lt
  refine wp_new (some 3) rfl (al_impl_parts rfl) (fun Wz15 nnz16 => ?_)
  have bz17 := nnz16.below (Below.refl _ _) (Nat.le_refl _)
  replace hB := below_after hB bz17
  replace hz5 := hz5.after bz17
  replace hz11 := hz11.after bz17
  have hz18 : At Wz15 Wz8.heap.size (.cells (u8s (List.replicate 36 0)) 62 (0, 0)) := nnz16.at_
  refine hK' _ _ ?_
  clear hK' K' nnz16 bz17
  go_frame
  refine wpList_nil ?_
  go_upto_region 2 with (fail)
  refine wp_region_lit ?_
  refine ls_ex (some 8) (.agg (u8s (f))) rfl rfl (exec_load_all 50 _ rfl w.heap.size rfl _ _ _ hz5 Try.underlying50 rfl 36 (by kernel_rfl) ((u8s_size _).trans HF.out)) ?_
  go_frame
  refine ls_ex (some 9) (.int .i64 0) rfl rfl (exec_move _ rfl (.int .i64 0) rfl) ?_
  go_frame
  refine wpList_nil ?_
  go_wp2_with fail
  go_loopw [9] (fun s9 wr => ∃ c : Nat, c ≤ 9 ∧ s9 = .int .i64 c ∧ Below w.heap.size w wr ∧ At wr Wz8.heap.size (.cells (u8s (pmix f c 0)) 62 (0, 0)) ∧ At wr Wz2.heap.size (.cells (u8s (List.replicate 36 0)) 62 (0, 0))) (fun s9 _ => 9 - (intOf s9).toNat)
  case atStart => exact ⟨0, by omega, rfl, hB, by rw [pmix_start]; exact hz18, hz11⟩
  case round =>
    clear hB hz5 hz11 hz18
    obtain ⟨c, hc, rfl, hB, h0, h1⟩ := hrel
    by_cases hc9 : c < 9
    · have hs4 : (segm f (c * 4) 4).length = 4 := segm_len (by rw [HF.out]; omega)
      go_upto_region 3 with (fail)
      refine wp_region_lit ?_
      refine ls_ex (some 10) (.bool true) rfl rfl (exec_lss _ _ _ _ rfl c 9 rfl rfl true (decide_eq_true (by omega))) ?_
      go_frame
      refine wpList_nil ?_
      go_upto_region 4 with (fail)
      refine wp_region_lit ?_
      refine ls_ex (some 11) (.int .i64 c) rfl rfl (exec_move _ rfl (.int .i64 c) rfl) ?_
      go_frame
      refine ls_ex (some 12) (.agg (u8s (segm f (c * 4) 4))) rfl rfl (exec_index_seg 50 48 _ _ rfl 9 c 4 f _ rfl rfl Try.underlying50 Try.underlying48 rfl (by kernel_rfl) hc9) ?_
      go_frame
      refine ls_op rfl (fun K' hK' => ?_)
      have lz19 := hB.size
      have lz20 := h0.lt
      have lz21 := h1.lt
      refine wp_new (some 5) rfl (al__4_uint8 rfl) (fun Wz22 nnz23 => ?_)
      have bz24 := nnz23.below (Below.refl _ _) (Nat.le_refl _)
      replace hB := below_after hB bz24
      replace h0 := h0.after bz24
      replace h1 := h1.after bz24
      have hz25 : At Wz22 wr.heap.size (.cells (u8s (List.replicate 4 0)) 48 (0, 0)) := nnz23.at_
      refine hK' _ _ ?_
      clear hK' K' nnz23 bz24
      go_frame
      refine ls_ex (some 4) (.int .i64 c) rfl rfl (exec_assign _ rfl (.int .i64 c) rfl) ?_
      go_frame
      refine ls_op rfl (fun K' hK' => ?_)
      refine wp_store_bytes 48 _ _ rfl rfl wr.heap.size rfl (segm f (c * 4) 4) rfl _ _ hz25 4 (by kernel_rfl) hs4 (by simp) (fun Wz26 pz27 => ?_)
      replace hB := pz27.below hB (by omega)
      replace h0 := pz27.other h0 (by omega)
      replace h1 := pz27.other h1 (by omega)
      replace hz25 : At Wz26 wr.heap.size (.cells (u8s (segm f (c * 4) 4)) 48 (0, 0)) := pz27.at_
      refine hK' _ _ ?_
      clear hK' K' pz27
      refine wpList_nil ?_
      go_upto_region 5 with (fail)
      refine wp_region_lit ?_
      refine ls_ex (some 13) (.agg (u8s (segm f (c * 4) 4))) rfl rfl (exec_load_all 48 _ rfl wr.heap.size rfl _ _ _ hz25 Try.underlying48 rfl 4 (by kernel_rfl) ((u8s_size _).trans hs4)) ?_
      go_frame
      refine ls_ex (some 14) (.int .i64 0) rfl rfl (exec_move _ rfl (.int .i64 0) rfl) ?_
      go_frame
      refine wpList_nil ?_
      go_wp2_with fail
      obtain ⟨we, rfl⟩ : ∃ x : World, x = wr := ⟨_, rfl⟩
      go_loopw [14] (fun s14 wr => ∃ i : Nat, i ≤ 4 ∧ s14 = .int .i64 i ∧ Below w.heap.size w wr ∧ At wr Wz8.heap.size (.cells (u8s (pmix f c i)) 62 (0, 0)) ∧ At wr Wz2.heap.size (.cells (u8s (List.replicate 36 0)) 62 (0, 0))) (fun s14 _ => 4 - (intOf s14).toNat)
      case atStart => exact ⟨0, by omega, rfl, hB, h0, h1⟩
      case round =>
        clear hB h0 h1 hz25
        obtain ⟨i, hi, rfl, hB, h0, h1⟩ := hrel
        by_cases hi4 : i < 4
        · obtain ⟨x, hx⟩ : ∃ x, (segm f (c * 4) 4)[i]?.getD 0 = x := ⟨_, rfl⟩
          have Hx := Lib.hid hx
          have HP : Hid ((pmix f c i).set (i * 9 + c) x = pmix f c (i + 1)) := Lib.hid (pmix_step hc9 (by rw [← hx, segm_nth _ _ _ _ hi4]))
          clear hx
          go_upto_region 6 with (fail)
          refine wp_region_lit ?_
          refine ls_ex (some 15) (.bool true) rfl rfl (exec_lss _ _ _ _ rfl i 4 rfl rfl true (decide_eq_true (by omega))) ?_
          go_frame
          refine wpList_nil ?_
          go_upto_region 7 with (fail)
          refine wp_region_lit ?_
          refine ls_ex (some 16) (.int .i64 i) rfl rfl (exec_move _ rfl (.int .i64 i) rfl) ?_
          go_frame
          refine ls_ex (some 17) (.int .u8 (x : Nat)) rfl rfl (exec_index_u8x 48 5 _ _ rfl 4 i (segm f (c * 4) 4) rfl rfl Try.underlying48 Try.underlying5 (by kernel_rfl) hs4 hi4 x Hx.out) ?_
          go_frame
          refine ls_ex (some 6) (.int .i64 i) rfl rfl (exec_assign _ rfl (.int .i64 i) rfl) ?_
          go_frame
          refine ls_ex (some 7) (.int .u8 (x : Nat)) rfl rfl (exec_assign _ rfl (.int .u8 (x : Nat)) rfl) ?_
          go_frame
          refine wpList_nil ?_
          go_upto_region 8 with (fail)
          refine wp_region_lit ?_
          refine ls_ex (some 18) (.int .i64 i) rfl rfl (exec_move _ rfl (.int .i64 i) rfl) ?_
          go_frame
          refine ls_ex (some 19) (.int .i64 c) rfl rfl (exec_move _ rfl (.int .i64 c) rfl) ?_
          go_frame
          refine ls_ex (some 20) (.int .u8 (x : Nat)) rfl rfl (exec_move _ rfl (.int .u8 (x : Nat)) rfl) ?_
          go_frame
          refine ls_ex (some 21) (.pointer (some ⟨Wz8.heap.size, i * 9, none⟩)) rfl rfl (exec_index_arr0 62 55 _ _ rfl Wz8.heap.size 4 i 9 rfl rfl Try.underlying62 (by kernel_rfl) hi4) ?_
          go_frame
          refine ls_ex (some 22) (.pointer (some ⟨Wz8.heap.size, i * 9 + c, none⟩)) rfl rfl (exec_index_arr1 55 5 _ _ rfl Wz8.heap.size (i * 9) 9 c rfl rfl Try.underlying55 (by kernel_rfl) hc9) ?_
          go_frame
          refine ls_op rfl (fun K' hK' => ?_)
          refine wp_store_b1 5 _ _ rfl rfl Wz8.heap.size (i * 9 + c) rfl (x) rfl _ _ h0 (by kernel_rfl) (by rw [pmix_len]; omega) (fun Wz28 pz29 => ?_)
          replace hB := pz29.below hB (by omega)
          replace h1 := pz29.other h1 (by omega)
          replace h0 : At Wz28 Wz8.heap.size (.cells (u8s (pmix f c (i + 1))) 62 (0, 0)) := by have h9 := pz29.at_; rwa [HP.out] at h9
          refine hK' _ _ ?_
          clear hK' K' pz29
          refine wpList_nil ?_
          go_upto_region 9 with (fail)
          refine wp_region_lit ?_
          refine ls_ex (some 23) (.int .i64 (i + 1)) rfl rfl (exec_add _ _ _ _ rfl i 1 (i + 1) rfl rfl (IntWalk.i64_in _ (by omega))) ?_
          go_frame
          refine ls_ex (some 14) (.int .i64 (i + 1)) rfl rfl (exec_move _ rfl (.int .i64 (i + 1)) rfl) ?_
          go_frame
          refine wpList_nil ?_
          go_wp2_with fail
          go_roundw
          case rel => exact ⟨i + 1, by omega, by go_num, hB, h0, h1⟩
          case measure => simp [intOf]; omega
        · have HR : Hid (pmix f c i = pmix f (c + 1) 0) := Lib.hid (by rw [show i = 4 by omega]; exact pmix_row f c)
          rw [HR.out] at h0
          go_upto_region 6 with (fail)
          refine wp_region_lit ?_
          refine ls_ex (some 15) (.bool false) rfl rfl (exec_lss _ _ _ _ rfl i 4 rfl rfl false (decide_eq_false (by omega))) ?_
          go_frame
          refine wpList_nil ?_
          go_upto_region 10 with (fail)
          refine wp_region_lit ?_
          refine ls_ex (some 24) (.int .i64 (c + 1)) rfl rfl (exec_add _ _ _ _ rfl c 1 (c + 1) rfl rfl (IntWalk.i64_in _ (by omega))) ?_
          go_frame
          refine ls_ex (some 9) (.int .i64 (c + 1)) rfl rfl (exec_move _ rfl (.int .i64 (c + 1)) rfl) ?_
          go_frame
          refine wpList_nil ?_
          go_wp2_with fail
          go_roundw
          case rel => exact ⟨c + 1, by omega, by go_num, hB, h0, h1⟩
          case measure => simp [intOf]; omega
    · have HR : Hid (pmix f c 0 = partsL f) := Lib.hid (by rw [show c = 9 by omega]; exact pmix_end f)
      rw [HR.out] at h0
      go_upto_region 3 with (fail)
      refine wp_region_lit ?_
      refine ls_ex (some 10) (.bool false) rfl rfl (exec_lss _ _ _ _ rfl c 9 rfl rfl false (decide_eq_false (by omega))) ?_
      go_frame
      refine wpList_nil ?_
      go_upto_region 11 with (fail)
      refine wp_region_lit ?_
      refine ls_ex (some 25) (.agg (u8s (partsL f))) rfl rfl (exec_load_all 62 _ rfl Wz8.heap.size rfl _ _ _ h0 Try.underlying62 rfl 36 (by kernel_rfl) ((u8s_size _).trans (partsL_len f))) ?_
      go_frame
      refine ls_op rfl (fun K' hK' => ?_)
      refine wp_store_bytes 62 _ _ rfl rfl Wz2.heap.size rfl (partsL f) rfl _ _ h1 36 (by kernel_rfl) (partsL_len f) (by simp) (fun Wz30 pz31 => ?_)
      replace hB := pz31.below hB (by omega)
      replace h0 := pz31.other h0 (by omega)
      replace h1 : At Wz30 Wz2.heap.size (.cells (u8s (partsL f)) 62 (0, 0)) := pz31.at_
      refine hK' _ _ ?_
      clear hK' K' pz31
      refine wpList_nil ?_
      go_wp2_with fail
      refine bodyPost_ret (results_at rfl _ _ Wz2.heap.size _ _ _ rfl h1 Try.underlying62 rfl 36 (by kernel_rfl) ((u8s_size _).trans (partsL_len f))) rfl ?_
      exact ⟨rfl, hB⟩
end Go.Proofs.Ytnlidegmllcdhaa
