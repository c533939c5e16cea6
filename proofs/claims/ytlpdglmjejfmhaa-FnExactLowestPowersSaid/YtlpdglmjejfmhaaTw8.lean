/-
  impl.withEachSeries for any function value, twigOf; spec.l08Up. (Made by mktw8.py.)
-/
import Derived.Test.YtlpdglmjejfmhaaTw7
namespace Go.Proofs.Ytlpdglmjejfmhaa
open Go.RowKit
set_option maxRecDepth 100000

theorem wp_callv2 {P : Program} {Q : Exit → Act → World → Prop} {o : Oper} {a : Act} {w : World} {K : Act → World → Prop} (d : Option Tmp) (hd : o.dst = d) (fv x y : Operand) (ts : Array TypeId) (ho : o.op = .call { callee := .value fv, args := #[x, y], argTypes := ts }) (f : Nat) (caps : Array Value) (hf : a.eval fv = .func (.func f) #[] caps) (hcall : ∀ args w, (callFunc f args).run P w = .ok (.enter f args) w)
    (v1 v2 : Value) (hx : a.eval x = v1) (hy : a.eval y = v2) (post : Ending → World → Prop) (hc : Calls P f (#[v1, v2] ++ caps) w post) (h : ∀ e w', post e w' → ∃ v, e = .returned v ∧ K (a.put d v) w') : Oper.wp P o a w K Q := by
  subst hd
  have hm : #[x, y].map a.eval = #[v1, v2] := by simp [hx, hy]
  unfold Oper.wp execOp
  simp only [ho, resolve, hf, Deferred.ofValue, Sem.run_bind, Sem.run_pure, Result.andThen_ok, invoke, hcall, Array.empty_append, hm]
  rw [Oper.upon_enter]
  refine hc.mono fun e w' hp => ?_
  obtain ⟨v, rfl, hk⟩ := h e w' hp
  exact hk
theorem exec_twigE {o : Oper} {a : Act} {w : World} (x y z : Operand) (ho : o.op = .build 63 #[(0, x), (1, y), (2, z)]) (t : List Nat) (ht : t.length = 108) (hx : a.eval x = .agg (u8s (segm t 0 36))) (hy : a.eval y = .agg (u8s (segm t 36 36))) (hz : a.eval z = .agg (u8s (segm t 72 36))) :
    (execOp a.eval o).run Try.prog w = .ok (.value (.agg (u8s t))) w := by
  have h := exec_twig (w := w) x y z ho _ _ _ hx hy hz (segm_len (by omega)) (segm_len (by omega)) (segm_len (by omega))
  rwa [catT_eq t ht] at h
/-- Each series of a twig changed. -/
def mapT (G : Nat → List Nat → List Nat) (t : List Nat) : List Nat := catT (G 0 (segm t 0 36)) (G 1 (segm t 36 36)) (G 2 (segm t 72 36))
theorem mapT_bytes {G : Nat → List Nat → List Nat} {t : List Nat} (ht : Bytes 108 t) (hG : ∀ a s, a < 3 → Bytes 36 s → Bytes 36 (G a s)) : Bytes 108 (mapT G t) :=
  catT_bytes (hG 0 _ (by omega) (segm_bytes ht (by omega))) (hG 1 _ (by omega) (segm_bytes ht (by omega))) (hG 2 _ (by omega) (segm_bytes ht (by omega)))
def wmix (G : Nat → List Nat → List Nat) (t : List Nat) (a : Nat) : List Nat := mapT (fun b s => if b < a then G b s else s) t
theorem wmix_zero (G : Nat → List Nat → List Nat) {t : List Nat} (ht : t.length = 108) : wmix G t 0 = t := by
  unfold wmix mapT
  simp only [show ∀ b : Nat, ¬ b < 0 by omega, if_false]
  exact catT_eq t ht
theorem wmix_three (G : Nat → List Nat → List Nat) (t : List Nat) : wmix G t 3 = mapT G t := by
  unfold wmix mapT
  simp
theorem over_catA {A B C X : List Nat} (hA : A.length = 36) (hX : X.length = 36) : over (catT A B C) (0 * 36) X = catT X B C := by
  simp [over, catT, hA, hX]
theorem over_catB {A B C X : List Nat} (hA : A.length = 36) (hB : B.length = 36) (hX : X.length = 36) : over (catT A B C) (1 * 36) X = catT A X C := by
  have h1 : List.take 36 (A ++ B ++ C) = A := by rw [List.append_assoc, List.take_left' hA]
  have h2 : List.drop (36 + 36) (A ++ B ++ C) = C := List.drop_left' (by simp [hA, hB])
  simp only [over, catT, hX, Nat.one_mul, h1, h2]
theorem over_catC {A B C X : List Nat} (hA : A.length = 36) (hB : B.length = 36) (hC : C.length = 36) (hX : X.length = 36) : over (catT A B C) (2 * 36) X = catT A B X := by
  have hl : (A ++ B).length = 72 := by simp [hA, hB]
  simp only [over, catT, hX, show 2 * 36 = 72 from rfl]
  rw [List.take_left' hl, List.drop_eq_nil_of_le (by simp [hA, hB, hC]), List.append_nil]
theorem wmix_step {G : Nat → List Nat → List Nat} {t : List Nat} {a : Nat} (ht : Bytes 108 t) (hG : ∀ a s, a < 3 → Bytes 36 s → Bytes 36 (G a s)) (ha : a < 3) : over (wmix G t a) (a * 36) (G a (segm t (a * 36) 36)) = wmix G t (a + 1) := by
  have b0 : Bytes 36 (segm t 0 36) := segm_bytes ht (by omega)
  have b1 : Bytes 36 (segm t 36 36) := segm_bytes ht (by omega)
  have b2 : Bytes 36 (segm t 72 36) := segm_bytes ht (by omega)
  obtain rfl | rfl | rfl : a = 0 ∨ a = 1 ∨ a = 2 := by omega
  · unfold wmix mapT
    rw [show 0 * 36 = 0 from rfl]
    have := over_catA (A := segm t 0 36) (B := segm t 36 36) (C := segm t 72 36) (X := G 0 (segm t 0 36)) b0.len (hG 0 _ (by omega) b0).len
    simpa using this
  · unfold wmix mapT
    have := over_catB (A := G 0 (segm t 0 36)) (B := segm t 36 36) (C := segm t 72 36) (X := G 1 (segm t 36 36)) (hG 0 _ (by omega) b0).len b1.len (hG 1 _ (by omega) b1).len
    simpa using this
  · unfold wmix mapT
    have := over_catC (A := G 0 (segm t 0 36)) (B := G 1 (segm t 36 36)) (C := segm t 72 36) (X := G 2 (segm t 72 36)) (hG 0 _ (by omega) b0).len (hG 1 _ (by omega) b1).len b2.len (hG 2 _ (by omega) b2).len
    simpa using this
theorem wmix_len {G : Nat → List Nat → List Nat} {t : List Nat} (a : Nat) (ht : Bytes 108 t) (hG : ∀ a s, a < 3 → Bytes 36 s → Bytes 36 (G a s)) : (wmix G t a).length = 108 :=
  (mapT_bytes ht (fun b s hb hs => by
    show Bytes 36 (if b < a then G b s else s)
    split
    · exact hG b s hb hs
    · exact hs)).len
/-- A series times e. -/
def upS (s : List Nat) : List Nat := (List.range 36).map fun j => if j % 4 = 0 then 0 else s[j - 1]?.getD 0
def topS (s : List Nat) : Bool := (List.range 9).any fun c => s[c * 4 + 3]?.getD 0 != 0
theorem upS_len (s : List Nat) : (upS s).length = 36 := by simp [upS]
theorem upS_bytes {s : List Nat} (h : Bytes 36 s) : Bytes 36 (upS s) := ⟨upS_len s, fun n hn => by
  obtain ⟨j, _, rfl⟩ := List.mem_map.1 hn
  split
  · omega
  · exact h.lt _⟩
def umix (s : List Nat) (c i : Nat) : List Nat := (List.range 36).map fun j => if j % 4 ≠ 0 ∧ (j / 4 < c ∨ (j / 4 = c ∧ j % 4 ≤ i)) then s[j - 1]?.getD 0 else 0
theorem umix_len (s : List Nat) (c i : Nat) : (umix s c i).length = 36 := by simp [umix]
theorem umix_start (s : List Nat) : umix s 0 0 = List.replicate 36 0 := by
  apply List.ext_getElem
  · simp [umix]
  · intro j h1 h2
    simp only [umix, List.getElem_map, List.getElem_range, List.getElem_replicate]
    rw [if_neg (by omega)]
theorem umix_step {s : List Nat} {c i x : Nat} (hi : i < 3) (hx : s[c * 4 + i]?.getD 0 = x) : (umix s c i).set (c * 4 + (i + 1)) x = umix s c (i + 1) := by
  apply List.ext_getElem
  · simp [umix]
  · intro j h1 h2
    rw [List.getElem_set]
    simp only [umix, List.getElem_map, List.getElem_range]
    by_cases e : c * 4 + (i + 1) = j
    · subst e
      rw [if_pos rfl, if_pos (by omega), show c * 4 + (i + 1) - 1 = c * 4 + i by omega, hx]
    · rw [if_neg e]
      by_cases h : j % 4 ≠ 0 ∧ (j / 4 < c ∨ (j / 4 = c ∧ j % 4 ≤ i))
      · rw [if_pos h, if_pos (by omega)]
      · rw [if_neg h, if_neg (by omega)]
theorem umix_row (s : List Nat) (c : Nat) : umix s c 3 = umix s (c + 1) 0 := by
  apply List.ext_getElem
  · simp [umix]
  · intro j h1 h2
    simp only [umix, List.getElem_map, List.getElem_range]
    by_cases h : j % 4 ≠ 0 ∧ (j / 4 < c ∨ (j / 4 = c ∧ j % 4 ≤ 3))
    · rw [if_pos h, if_pos (by omega)]
    · rw [if_neg h, if_neg (by omega)]
theorem umix_end (s : List Nat) : umix s 9 0 = upS s := by
  unfold umix upS
  apply List.map_congr_left
  intro j hj
  have hj := List.mem_range.1 hj
  by_cases h : j % 4 = 0
  · rw [if_pos h, if_neg (fun h' => h'.1 h)]
  · rw [if_neg h, if_pos ⟨h, by omega⟩]
theorem topS_at {s : List Nat} {c : Nat} (hc : c < 9) (h : s[c * 4 + 3]?.getD 0 ≠ 0) : topS s = true := by
  unfold topS
  rw [List.any_eq_true]
  exact ⟨c, List.mem_range.2 hc, by simp [h]⟩
theorem topS_no {s : List Nat} (h : ∀ c, c < 9 → s[c * 4 + 3]?.getD 0 = 0) : topS s = false := by
  unfold topS
  rw [List.any_eq_false]
  exact fun c hc => by simp [h c (List.mem_range.1 hc)]
theorem topS_part (s : List Nat) : (!(partL s 3 == List.replicate 9 0)) = topS s := by
  cases h : topS s with
  | true =>
    unfold topS at h
    rw [List.any_eq_true] at h
    obtain ⟨c, hc, h⟩ := h
    have hc := List.mem_range.1 hc
    have : (partL s 3 == List.replicate 9 0) = false := by
      rw [beq_eq_false_iff_ne]
      intro e
      have h2 := partL_get s 3 c hc
      rw [e, List.getElem?_replicate, if_pos hc] at h2
      rw [← h2] at h
      cases h
    rw [this]; rfl
  | false =>
    unfold topS at h
    rw [List.any_eq_false] at h
    have : partL s 3 = List.replicate 9 0 := by
      unfold partL
      rw [List.eq_replicate_iff]
      refine ⟨by simp, fun x hx => ?_⟩
      obtain ⟨c, hc, rfl⟩ := List.mem_map.1 hx
      simpa using h c hc
    rw [this]; simp
attribute [local irreducible] wpList
theorem al_impl_Twig {o : Oper} {a : Act} {w : World} (ho : o.op = .alloc 63) : (execOp a.eval o).run Try.prog w = .ok (.value (.pointer (some ⟨w.heap.size, 0, none⟩))) (w.alloc (.cells (u8s (List.replicate 108 0)) 63 (0, 0))) := by
  unfold execOp
  rw [ho]
  kernel_rfl
set_option maxHeartbeats 4000000 in
theorem twigOf_c (t : List Nat) (ht : Bytes 108 t) (w : World) :
    Calls Try.prog 83 #[.agg (u8s t)] w (fun e w' => e = .returned (.agg (u8s t)) ∧ Below w.heap.size w w') := by
  have hB := Below.refl w.heap.size w
  skip
  go_enter Try.func83, Try.ntmps83
  go_upto_region 0 with (fail)
  refine wp_region_lit ?_
  refine ls_op rfl (fun K' hK' => ?_)
  have lz1 := hB.size
  refine wp_new (some 1) rfl (exec_box 82 _ rfl (u8s (t)) rfl) (fun Wz2 nnz3 => ?_)
  have bz4 := nnz3.below (Below.refl _ _) (Nat.le_refl _)
  replace hB := below_after hB bz4
  have hz5 : At Wz2 w.heap.size (.cells (u8s (t)) 82 (0, 0)) := nnz3.at_
  refine hK' _ _ ?_
  clear hK' K' nnz3 bz4
  go_frame
  refine ls_op rfl (fun K' hK' => ?_)
  have lz6 := hB.size
  have lz7 := hz5.lt
  refine wp_new (some 2) rfl (al_impl_Twig rfl) (fun Wz8 nnz9 => ?_)
  have bz10 := nnz9.below (Below.refl _ _) (Nat.le_refl _)
  replace hB := below_after hB bz10
  replace hz5 := hz5.after bz10
  have hz11 : At Wz8 Wz2.heap.size (.cells (u8s (List.replicate 108 0)) 63 (0, 0)) := nnz9.at_
  refine hK' _ _ ?_
  clear hK' K' nnz9 bz10
  go_frame
  refine wpList_nil ?_
  go_upto_region 1 with (fail)
  refine wp_region_lit ?_
  refine ls_ex (some 3) (.pointer (some ⟨w.heap.size, 0, none⟩)) rfl rfl (exec_index_arr _ 61 _ _ rfl w.heap.size 0 3 0 36 rfl rfl Try.underlying82 (by kernel_rfl) (by omega)) ?_
  go_frame
  refine ls_ex (some 4) (.agg (u8s (segm (t) 0 36))) rfl rfl (exec_load_seg 61 _ rfl w.heap.size (0) rfl _ (t) _ 36 hz5 Try.underlying61 rfl (by kernel_rfl) (by rw [ht.len]; omega) (segm (t) 0 36) rfl) ?_
  go_frame
  refine ls_ex (some 5) (.pointer (some ⟨w.heap.size, 36, none⟩)) rfl rfl (exec_index_arr _ 61 _ _ rfl w.heap.size 0 3 1 36 rfl rfl Try.underlying82 (by kernel_rfl) (by omega)) ?_
  go_frame
  refine ls_ex (some 6) (.agg (u8s (segm (t) 36 36))) rfl rfl (exec_load_seg 61 _ rfl w.heap.size (36) rfl _ (t) _ 36 hz5 Try.underlying61 rfl (by kernel_rfl) (by rw [ht.len]; omega) (segm (t) 36 36) rfl) ?_
  go_frame
  refine ls_ex (some 7) (.pointer (some ⟨w.heap.size, 72, none⟩)) rfl rfl (exec_index_arr _ 61 _ _ rfl w.heap.size 0 3 2 36 rfl rfl Try.underlying82 (by kernel_rfl) (by omega)) ?_
  go_frame
  refine ls_ex (some 8) (.agg (u8s (segm (t) 72 36))) rfl rfl (exec_load_seg 61 _ rfl w.heap.size (72) rfl _ (t) _ 36 hz5 Try.underlying61 rfl (by kernel_rfl) (by rw [ht.len]; omega) (segm (t) 72 36) rfl) ?_
  go_frame
  refine ls_ex (some 9) (.agg (u8s (t))) rfl rfl (exec_twigE _ _ _ rfl t ht.len rfl rfl rfl) ?_
  go_frame
  refine ls_op rfl (fun K' hK' => ?_)
  refine wp_store_bytes 63 _ _ rfl rfl Wz2.heap.size rfl (t) rfl _ _ hz11 108 (by kernel_rfl) ht.len (by simp) (fun Wz12 pz13 => ?_)
  replace hB := pz13.below hB (by omega)
  replace hz5 := pz13.other hz5 (by omega)
  replace hz11 : At Wz12 Wz2.heap.size (.cells (u8s (t)) 63 (0, 0)) := pz13.at_
  refine hK' _ _ ?_
  clear hK' K' pz13
  refine wpList_nil ?_
  go_wp2_with fail
  refine bodyPost_ret (results_at rfl _ _ Wz2.heap.size _ _ _ rfl hz11 Try.underlying63 rfl 108 (by kernel_rfl) ((u8s_size _).trans ht.len)) rfl ?_
  exact ⟨rfl, hB⟩
set_option maxHeartbeats 12800000 in
theorem withEachSeries_c (p n m k : Int) (A : Option Addr) (c : Nat) (ts : List (List Nat)) (f : Nat) (caps : Array Value) (G Q : Nat → List Nat → List Nat) (w : World) (hR : RdT w A ts) (hlen : ts.length ≤ 1000000) (hcall : ∀ args w, (callFunc f args).run Try.prog w = .ok (.enter f args) w) (hQ : ∀ a s, a < 3 → Bytes 36 s → Bytes 36 (Q a s) ∧ serOf (Q a s) = G a s) (hG : ∀ a s, a < 3 → Bytes 36 s → Bytes 36 (G a s))
    (hC : ∀ (a : Nat) (s : List Nat) (w' : World), a < 3 → Bytes 36 s → Below w.heap.size w w' → Calls Try.prog f (#[.int .i64 (a : Int), .agg (u8s (partsL s))] ++ caps) w' (fun e w'' => e = .returned (.agg (u8s (Q a s))) ∧ Below w'.heap.size w' w'')) :
    Calls Try.prog 54 #[.agg #[.int .i64 p, .int .i64 n, .int .i64 m, .int .i64 k, .slice A ts.length c], .func (.func f) #[] caps] w (fun e w' => ∃ v, e = .returned (.agg #[.int .i64 p, .int .i64 n, .int .i64 m, .int .i64 k, v]) ∧ OwnT w' w.heap.size v (ts.map (mapT G)) ∧ Below w.heap.size w w') := by
  have hB := Below.refl w.heap.size w
  have HC := Lib.hid hC
  have HQ := Lib.hid hQ
  have HG := Lib.hid hG
  have Hcall := Lib.hid hcall
  clear hC hQ hG hcall
  go_enter Try.func54, Try.ntmps54
  go_upto_region 0 with (fail)
  refine wp_region_lit ?_
  refine ls_op rfl (fun K' hK' => ?_)
  have lz1 := hB.size
  refine wp_new (some 2) rfl (exec_box 29 _ rfl (#[.int .i64 p, .int .i64 n, .int .i64 m, .int .i64 k, .slice A ts.length c]) rfl) (fun Wz2 nnz3 => ?_)
  have bz4 := nnz3.below (Below.refl _ _) (Nat.le_refl _)
  replace hB := below_after hB bz4
  have hz5 : At Wz2 w.heap.size (.cells #[.int .i64 p, .int .i64 n, .int .i64 m, .int .i64 k, .slice A ts.length c] 29 (0, 0)) := nnz3.at_
  refine hK' _ _ ?_
  clear hK' K' nnz3 bz4
  go_frame
  refine ls_op rfl (fun K' hK' => ?_)
  have lz6 := hB.size
  have lz7 := hz5.lt
  refine wp_new (some 4) rfl (al_impl_Border rfl) (fun Wz8 nnz9 => ?_)
  have bz10 := nnz9.below (Below.refl _ _) (Nat.le_refl _)
  replace hB := below_after hB bz10
  replace hz5 := hz5.after bz10
  have hz11 : At Wz8 Wz2.heap.size (.cells #[.int .i64 0, .int .i64 0, .int .i64 0, .int .i64 0, .slice none 0 0] 29 (0, 0)) := nnz9.at_
  refine hK' _ _ ?_
  clear hK' K' nnz9 bz10
  go_frame
  refine wpList_nil ?_
  go_upto_region 1 with (fail)
  refine wp_region_lit ?_
  refine ls_ex (some 5) (.slice none 0 0) rfl rfl (exec_assign _ rfl (.slice none 0 0) rfl) ?_
  go_frame
  refine wpList_nil ?_
  go_upto_region 2 with (fail)
  refine wp_region_lit ?_
  refine ls_ex (some 11) (.pointer (some ⟨w.heap.size, 4, none⟩)) rfl rfl (exec_fieldAddr 29 _ 4 rfl _ (by kernel_rfl)) ?_
  go_frame
  refine ls_ex (some 12) (.slice A ts.length c) rfl rfl (exec_load_one 27 _ rfl w.heap.size 4 rfl (.slice A ts.length c) _ Try.underlying27 rfl (hz5.at_ 4)) ?_
  go_frame
  refine ls_ex (some 13) (.int .i64 ts.length) rfl rfl (exec_len _ 27 63 rfl A ts.length c rfl Try.underlying27) ?_
  go_frame
  refine ls_ex (some 14) (.int .i64 0) rfl rfl (exec_move _ rfl (.int .i64 0) rfl) ?_
  go_frame
  refine wpList_nil ?_
  go_wp2_with fail
  go_loopw [5, 14] (fun s5 s14 wr => ∃ (i : Nat) (v : Value), i ≤ ts.length ∧ s14 = .int .i64 i ∧ s5 = v ∧ Below w.heap.size w wr ∧ At wr w.heap.size (.cells #[.int .i64 p, .int .i64 n, .int .i64 m, .int .i64 k, .slice A ts.length c] 29 (0, 0)) ∧ At wr Wz2.heap.size (.cells #[.int .i64 0, .int .i64 0, .int .i64 0, .int .i64 0, .slice none 0 0] 29 (0, 0)) ∧ OwnT wr w.heap.size v ((ts.take i).map (mapT G))) (fun _ s14 _ => ts.length - (intOf s14).toNat)
  case atStart => exact ⟨0, _, by omega, rfl, rfl, hB, hz5, hz11, OwnT.nil _ _⟩
  case round =>
    clear hB hz5 hz11
    obtain ⟨i, v, hi, rfl, rfl, hB, h0, h1, ho⟩ := hrel
    by_cases hlt : i < ts.length
    · obtain ⟨b, off, rfl, hc⟩ := (hR.keep hB).at_ hlt
      clear hc
      have hq := hR.good _ (List.getElem_mem hlt)
      have Hq108 := Lib.hid hq.len
      obtain ⟨A9, c9, rfl⟩ := OwnT.rdN ho (n := i) (map_take_len hi)
      have HT : Hid ((ts.take i).map (mapT G) ++ [mapT G ts[i]] = (ts.take (i + 1)).map (mapT G)) := Lib.hid (map_take_step hlt)
      go_upto_region 3 with (fail)
      refine wp_region_lit ?_
      refine ls_ex (some 15) (.bool true) rfl rfl (exec_lss _ _ _ _ rfl i ts.length rfl rfl true (decide_eq_true (by omega))) ?_
      go_frame
      refine wpList_nil ?_
      go_upto_region 4 with (fail)
      refine wp_region_lit ?_
      refine ls_ex (some 16) (.pointer (some ⟨b, off + i * 108, none⟩)) rfl rfl (exec_index_slice _ 63 _ _ rfl b off ts.length c i 108 rfl rfl Try.underlying27 (by kernel_rfl) (by omega)) ?_
      go_frame
      refine ls_ex (some 17) (.agg (u8s (ts[i]))) rfl rfl (exec_load_cells 63 _ rfl b (off + i * 108) rfl ts[i] _ 108 (RdT.c108 (hR.keep hB) hlt) Try.underlying63 rfl (by kernel_rfl) Hq108.out) ?_
      go_frame
      refine ls_op rfl (fun K' hK' => ?_)
      have lz12 := hB.size
      have lz13 := h0.lt
      have lz14 := h1.lt
      have naz19 := ho.away_new
      refine wp_new (some 7) rfl (al_impl_Twig rfl) (fun Wz15 nnz16 => ?_)
      have bz17 := nnz16.below (Below.refl _ _) (Nat.le_refl _)
      replace hB := below_after hB bz17
      replace h0 := h0.after bz17
      replace h1 := h1.after bz17
      replace ho := ho.below bz17
      have hz18 : At Wz15 wr.heap.size (.cells (u8s (List.replicate 108 0)) 63 (0, 0)) := nnz16.at_
      refine hK' _ _ ?_
      clear hK' K' nnz16 bz17
      go_frame
      refine ls_op rfl (fun K' hK' => ?_)
      refine wp_store_bytes 63 _ _ rfl rfl wr.heap.size rfl (ts[i]) rfl _ _ hz18 108 (by kernel_rfl) Hq108.out (by simp) (fun Wz20 pz21 => ?_)
      replace hB := pz21.below hB (by omega)
      replace h0 := pz21.other h0 (by omega)
      replace h1 := pz21.other h1 (by omega)
      replace ho := ho.put pz21 naz19
      replace hz18 : At Wz20 wr.heap.size (.cells (u8s (ts[i])) 63 (0, 0)) := pz21.at_
      refine hK' _ _ ?_
      clear hK' K' pz21
      refine wpList_nil ?_
      go_upto_region 5 with (fail)
      refine wp_region_lit ?_
      refine ls_ex (some 18) (.agg (u8s (ts[i]))) rfl rfl (exec_load_all 63 _ rfl wr.heap.size rfl _ _ _ hz18 Try.underlying63 rfl 108 (by kernel_rfl) ((u8s_size _).trans Hq108.out)) ?_
      go_frame
      refine ls_op rfl (fun K' hK' => ?_)
      have lz24 := hB.size
      have lz25 := h0.lt
      have lz26 := h1.lt
      have lz27 := hz18.lt
      refine wp_call1 (some 19) rfl 53 _ _ rfl (fun args w => by kernel_rfl) _ rfl _ (seriesOf_c ts[i] hq _) (fun e Wz22 h => ?_)
      obtain ⟨rfl, bz23⟩ := h
      replace hB := below_after hB bz23
      replace h0 := h0.after bz23
      replace h1 := h1.after bz23
      replace ho := ho.below bz23
      replace hz18 := hz18.after bz23
      clear bz23
      refine ⟨_, rfl, ?_⟩
      refine hK' _ _ ?_
      clear hK' K'
      go_frame
      refine ls_op rfl (fun K' hK' => ?_)
      have lz28 := hB.size
      have lz29 := h0.lt
      have lz30 := h1.lt
      have lz31 := hz18.lt
      have naz36 := ho.away_new
      refine wp_new (some 8) rfl (al__3_impl_Series rfl) (fun Wz32 nnz33 => ?_)
      have bz34 := nnz33.below (Below.refl _ _) (Nat.le_refl _)
      replace hB := below_after hB bz34
      replace h0 := h0.after bz34
      replace h1 := h1.after bz34
      replace ho := ho.below bz34
      replace hz18 := hz18.after bz34
      have hz35 : At Wz32 Wz22.heap.size (.cells (u8s (List.replicate 108 0)) 82 (0, 0)) := nnz33.at_
      refine hK' _ _ ?_
      clear hK' K' nnz33 bz34
      go_frame
      refine ls_op rfl (fun K' hK' => ?_)
      refine wp_store_bytes 82 _ _ rfl rfl Wz22.heap.size rfl (ts[i]) rfl _ _ hz35 108 (by kernel_rfl) Hq108.out (by simp) (fun Wz37 pz38 => ?_)
      replace hB := pz38.below hB (by omega)
      replace h0 := pz38.other h0 (by omega)
      replace h1 := pz38.other h1 (by omega)
      replace ho := ho.put pz38 naz36
      replace hz18 := pz38.other hz18 (by omega)
      replace hz35 : At Wz37 Wz22.heap.size (.cells (u8s (ts[i])) 82 (0, 0)) := pz38.at_
      refine hK' _ _ ?_
      clear hK' K' pz38
      refine wpList_nil ?_
      go_upto_region 6 with (fail)
      refine wp_region_lit ?_
      refine ls_ex (some 20) (.agg (u8s (ts[i]))) rfl rfl (exec_load_all 82 _ rfl Wz22.heap.size rfl _ _ _ hz35 Try.underlying82 rfl 108 (by kernel_rfl) ((u8s_size _).trans Hq108.out)) ?_
      go_frame
      refine ls_ex (some 21) (.int .i64 0) rfl rfl (exec_move _ rfl (.int .i64 0) rfl) ?_
      go_frame
      refine wpList_nil ?_
      go_wp2_with fail
      obtain ⟨we, rfl⟩ : ∃ x : World, x = wr := ⟨_, rfl⟩
      go_loopw [21] (fun s21 wr => ∃ a : Nat, a ≤ 3 ∧ s21 = .int .i64 a ∧ Below w.heap.size w wr ∧ At wr w.heap.size (.cells #[.int .i64 p, .int .i64 n, .int .i64 m, .int .i64 k, .slice (some ⟨b, off, none⟩) ts.length c] 29 (0, 0)) ∧ At wr Wz2.heap.size (.cells #[.int .i64 0, .int .i64 0, .int .i64 0, .int .i64 0, .slice none 0 0] 29 (0, 0)) ∧ At wr Wz22.heap.size (.cells (u8s (wmix G ts[i] a)) 82 (0, 0)) ∧ OwnT wr w.heap.size (.slice A9 i c9) ((ts.take i).map (mapT G))) (fun s21 _ => 3 - (intOf s21).toNat)
      case atStart => exact ⟨0, by omega, rfl, hB, h0, h1, by rw [wmix_zero G Hq108.out]; exact hz35, ho⟩
      case round =>
        clear hB h0 h1 ho hz18 hz35
        obtain ⟨a, ha, rfl, hB, h0, h1, h2, ho⟩ := hrel
        by_cases ha3 : a < 3
        · have hs36 : Bytes 36 (segm ts[i] (a * 36) 36) := segm_bytes hq (by omega)
          have Hs36 := Lib.hid hs36.len
          have HW : Hid (over (wmix G ts[i] a) (a * 36) (G a (segm ts[i] (a * 36) 36)) = wmix G ts[i] (a + 1)) := Lib.hid (wmix_step hq HG.out ha3)
          have HSE := Lib.hid (HQ.out a (segm ts[i] (a * 36) 36) ha3 hs36)
          go_upto_region 7 with (fail)
          refine wp_region_lit ?_
          refine ls_ex (some 22) (.bool true) rfl rfl (exec_lss _ _ _ _ rfl a 3 rfl rfl true (decide_eq_true (by omega))) ?_
          go_frame
          refine wpList_nil ?_
          go_upto_region 8 with (fail)
          refine wp_region_lit ?_
          refine ls_ex (some 23) (.int .i64 a) rfl rfl (exec_move _ rfl (.int .i64 a) rfl) ?_
          go_frame
          refine ls_ex (some 24) (.agg (u8s (segm ts[i] (a * 36) 36))) rfl rfl (exec_index_seg 82 61 _ _ rfl 3 a 36 ts[i] _ rfl rfl Try.underlying82 Try.underlying61 rfl (by kernel_rfl) ha3) ?_
          go_frame
          refine ls_op rfl (fun K' hK' => ?_)
          have lz39 := hB.size
          have lz40 := h0.lt
          have lz41 := h1.lt
          have lz42 := h2.lt
          have naz47 := ho.away_new
          refine wp_new (some 10) rfl (al_impl_Series rfl) (fun Wz43 nnz44 => ?_)
          have bz45 := nnz44.below (Below.refl _ _) (Nat.le_refl _)
          replace hB := below_after hB bz45
          replace h0 := h0.after bz45
          replace h1 := h1.after bz45
          replace h2 := h2.after bz45
          replace ho := ho.below bz45
          have hz46 : At Wz43 wr.heap.size (.cells (u8s (List.replicate 36 0)) 61 (0, 0)) := nnz44.at_
          refine hK' _ _ ?_
          clear hK' K' nnz44 bz45
          go_frame
          refine ls_ex (some 9) (.int .i64 a) rfl rfl (exec_assign _ rfl (.int .i64 a) rfl) ?_
          go_frame
          refine ls_op rfl (fun K' hK' => ?_)
          refine wp_store_bytes 61 _ _ rfl rfl wr.heap.size rfl (segm ts[i] (a * 36) 36) rfl _ _ hz46 36 (by kernel_rfl) Hs36.out (by simp) (fun Wz48 pz49 => ?_)
          replace hB := pz49.below hB (by omega)
          replace h0 := pz49.other h0 (by omega)
          replace h1 := pz49.other h1 (by omega)
          replace h2 := pz49.other h2 (by omega)
          replace ho := ho.put pz49 naz47
          replace hz46 : At Wz48 wr.heap.size (.cells (u8s (segm ts[i] (a * 36) 36)) 61 (0, 0)) := pz49.at_
          refine hK' _ _ ?_
          clear hK' K' pz49
          refine wpList_nil ?_
          go_upto_region 9 with (fail)
          refine wp_region_lit ?_
          refine ls_ex (some 25) (.int .i64 a) rfl rfl (exec_move _ rfl (.int .i64 a) rfl) ?_
          go_frame
          refine ls_ex (some 26) (.func (.func f) #[] caps) rfl rfl (exec_move _ rfl (.func (.func f) #[] caps) rfl) ?_
          go_frame
          refine ls_ex (some 27) (.int .i64 a) rfl rfl (exec_move _ rfl (.int .i64 a) rfl) ?_
          go_frame
          refine ls_ex (some 28) (.agg (u8s (segm ts[i] (a * 36) 36))) rfl rfl (exec_load_all 61 _ rfl wr.heap.size rfl _ _ _ hz46 Try.underlying61 rfl 36 (by kernel_rfl) ((u8s_size _).trans Hs36.out)) ?_
          go_frame
          refine ls_op rfl (fun K' hK' => ?_)
          have lz52 := hB.size
          have lz53 := h0.lt
          have lz54 := h1.lt
          have lz55 := h2.lt
          have lz56 := hz46.lt
          refine wp_call1 (some 29) rfl 52 _ _ rfl (fun args w => by kernel_rfl) _ rfl _ (partsOf_c (segm ts[i] (a * 36) 36) hs36 _) (fun e Wz50 h => ?_)
          obtain ⟨rfl, bz51⟩ := h
          replace hB := below_after hB bz51
          replace h0 := h0.after bz51
          replace h1 := h1.after bz51
          replace h2 := h2.after bz51
          replace ho := ho.below bz51
          replace hz46 := hz46.after bz51
          clear bz51
          refine ⟨_, rfl, ?_⟩
          refine hK' _ _ ?_
          clear hK' K'
          go_frame
          refine ls_op rfl (fun K' hK' => ?_)
          have lz59 := hB.size
          have lz60 := h0.lt
          have lz61 := h1.lt
          have lz62 := h2.lt
          have lz63 := hz46.lt
          refine wp_callv2 (some 30) rfl _ _ _ _ rfl f caps rfl Hcall.out _ _ rfl rfl _ (HC.out a (segm ts[i] (a * 36) 36) _ ha3 hs36 hB) (fun e Wz57 h => ?_)
          obtain ⟨rfl, bz58⟩ := h
          replace hB := below_after hB bz58
          replace h0 := h0.after bz58
          replace h1 := h1.after bz58
          replace h2 := h2.after bz58
          replace ho := ho.below bz58
          replace hz46 := hz46.after bz58
          clear bz58
          refine ⟨_, rfl, ?_⟩
          refine hK' _ _ ?_
          clear hK' K'
          go_frame
          refine ls_op rfl (fun K' hK' => ?_)
          have lz66 := hB.size
          have lz67 := h0.lt
          have lz68 := h1.lt
          have lz69 := h2.lt
          have lz70 := hz46.lt
          refine wp_call1 (some 31) rfl 43 _ _ rfl (fun args w => by kernel_rfl) _ rfl _ (series_c (Q a (segm ts[i] (a * 36) 36)) HSE.out.1 _) (fun e Wz64 h => ?_)
          obtain ⟨rfl, bz65⟩ := h
          replace hB := below_after hB bz65
          replace h0 := h0.after bz65
          replace h1 := h1.after bz65
          replace h2 := h2.after bz65
          replace ho := ho.below bz65
          replace hz46 := hz46.after bz65
          rw [HSE.out.2]
          clear bz65
          refine ⟨_, rfl, ?_⟩
          refine hK' _ _ ?_
          clear hK' K'
          go_frame
          refine ls_ex (some 32) (.pointer (some ⟨Wz22.heap.size, a * 36, none⟩)) rfl rfl (exec_index_arr0 82 61 _ _ rfl Wz22.heap.size 3 a 36 rfl rfl Try.underlying82 (by kernel_rfl) ha3) ?_
          go_frame
          refine ls_op rfl (fun K' hK' => ?_)
          refine wp_store_u8s 61 _ _ rfl rfl Wz22.heap.size (a * 36) rfl (G a (segm ts[i] (a * 36) 36)) rfl _ _ h2 36 (by kernel_rfl) (HG.out a _ ha3 hs36).len (by rw [(wmix_len a hq HG.out)]; omega) (fun Wz71 pz72 => ?_)
          replace hB := pz72.below hB (by omega)
          replace h0 := pz72.other h0 (by omega)
          replace h1 := pz72.other h1 (by omega)
          replace ho := ho.put pz72 (ho.off h2 (by decide))
          replace hz46 := pz72.other hz46 (by omega)
          replace h2 : At Wz71 Wz22.heap.size (.cells (u8s (wmix G ts[i] (a + 1))) 82 (0, 0)) := by have h9 := pz72.at_; rwa [HW.out] at h9
          refine hK' _ _ ?_
          clear hK' K' pz72
          refine wpList_nil ?_
          go_upto_region 10 with (fail)
          refine wp_region_lit ?_
          refine ls_ex (some 33) (.int .i64 (a + 1)) rfl rfl (exec_add _ _ _ _ rfl a 1 (a + 1) rfl rfl (IntWalk.i64_in _ (by omega))) ?_
          go_frame
          refine ls_ex (some 21) (.int .i64 (a + 1)) rfl rfl (exec_move _ rfl (.int .i64 (a + 1)) rfl) ?_
          go_frame
          refine wpList_nil ?_
          go_wp2_with fail
          go_roundw
          case rel => exact ⟨a + 1, by omega, by go_num, hB, h0, h1, h2, ho⟩
          case measure => simp [intOf]; omega
        · have HW3 : Hid (wmix G ts[i] a = mapT G ts[i]) := Lib.hid (by rw [show a = 3 by omega]; exact wmix_three G _)
          rw [HW3.out] at h2
          go_upto_region 7 with (fail)
          refine wp_region_lit ?_
          refine ls_ex (some 22) (.bool false) rfl rfl (exec_lss _ _ _ _ rfl a 3 rfl rfl false (decide_eq_false (by omega))) ?_
          go_frame
          refine wpList_nil ?_
          go_upto_region 11 with (fail)
          refine wp_region_lit ?_
          refine ls_ex (some 34) (.slice A9 i c9) rfl rfl (exec_move _ rfl (.slice A9 i c9) rfl) ?_
          go_frame
          refine ls_ex (some 35) (.agg (u8s (mapT G ts[i]))) rfl rfl (exec_load_all 82 _ rfl Wz22.heap.size rfl _ _ _ h2 Try.underlying82 rfl 108 (by kernel_rfl) ((u8s_size _).trans (mapT_bytes hq HG.out).len)) ?_
          go_frame
          refine ls_op rfl (fun K' hK' => ?_)
          have lz76 := hB.size
          have lz77 := h0.lt
          have lz78 := h1.lt
          have lz79 := h2.lt
          refine wp_call1 (some 36) rfl 83 _ _ rfl (fun args w => by kernel_rfl) _ rfl _ (twigOf_c (mapT G ts[i]) (mapT_bytes hq HG.out) _) (fun e Wz74 h => ?_)
          obtain ⟨rfl, bz75⟩ := h
          replace hB := below_after hB bz75
          replace h0 := h0.after bz75
          replace h1 := h1.after bz75
          replace h2 := h2.after bz75
          replace ho := ho.below bz75
          clear bz75
          refine ⟨_, rfl, ?_⟩
          refine hK' _ _ ?_
          clear hK' K'
          go_frame
          refine ls_op rfl (fun K' hK' => ?_)
          have lz80 := hB.size
          have lz81 := h0.lt
          have lz82 := h1.lt
          have lz83 := h2.lt
          refine wp_slice1T (some 37) rfl 27 63 _ rfl (mapT G ts[i]) rfl Try.underlying27 infoTwig (mapT_bytes hq HG.out).len (fun Wz84 nnz85 => ?_)
          have bz86 := nnz85.below (Below.refl _ _) (Nat.le_refl _)
          replace hB := below_after hB bz86
          replace h0 := h0.after bz86
          replace h1 := h1.after bz86
          replace h2 := h2.after bz86
          replace ho := ho.below bz86
          have hqz87 : At Wz84 Wz74.heap.size (.cells (u8s (mapT G ts[i])) 63 (0, 0)) := nnz85.at_
          refine hK' _ _ ?_
          clear hK' K' nnz85 bz86
          go_frame
          refine ls_op rfl (fun K' hK' => ?_)
          have lz91 := hB.size
          have lz92 := h0.lt
          have lz93 := h1.lt
          have lz94 := h2.lt
          have lz95 := hqz87.lt
          refine wp_appT (some 38) rfl _ _ rfl (.slice A9 i c9) ((ts.take i).map (mapT G)) (mapT G ts[i]) rfl ho Wz74.heap.size rfl hqz87 (mapT_bytes hq HG.out).len (by rw [map_take_len hi]; omega) (by omega) (fun v8 Wz88 noz90 grz89 => ?_)
          rw [HT.out] at noz90
          obtain ⟨A8, c8, rfl⟩ := OwnT.rdN noz90 (n := i + 1) (map_take_len (by omega))
          replace hB := below_grownT hB grz89 ho (by omega)
          replace h0 := h0.grown grz89 (ho.off h0 (by decide))
          replace h1 := h1.grown grz89 (ho.off h1 (by decide))
          replace h2 := h2.grown grz89 (ho.off h2 (by decide))
          replace ho := noz90
          refine hK' _ _ ?_
          clear hK' K' grz89 hqz87
          go_frame
          refine ls_ex (some 5) (.slice A8 (i + 1) c8) rfl rfl (exec_assign _ rfl (.slice A8 (i + 1) c8) rfl) ?_
          go_frame
          refine wpList_nil ?_
          go_upto_region 12 with (fail)
          refine wp_region_lit ?_
          refine ls_ex (some 39) (.int .i64 (i + 1)) rfl rfl (exec_add _ _ _ _ rfl i 1 (i + 1) rfl rfl (IntWalk.i64_in _ (by omega))) ?_
          go_frame
          refine ls_ex (some 14) (.int .i64 (i + 1)) rfl rfl (exec_move _ rfl (.int .i64 (i + 1)) rfl) ?_
          go_frame
          refine wpList_nil ?_
          go_wp2_with fail
          go_roundw
          case rel => exact ⟨i + 1, _, by omega, by go_num, rfl, hB, h0, h1, ho⟩
          case measure => simp [intOf]; omega
    · obtain ⟨A9, c9, rfl⟩ := OwnT.rdN ho (n := i) (map_take_len hi)
      have HE : Hid ((ts.take i).map (mapT G) = ts.map (mapT G)) := Lib.hid (by rw [show i = ts.length by omega, List.take_length])
      rw [HE.out] at ho
      go_upto_region 3 with (fail)
      refine wp_region_lit ?_
      refine ls_ex (some 15) (.bool false) rfl rfl (exec_lss _ _ _ _ rfl i ts.length rfl rfl false (decide_eq_false (by omega))) ?_
      go_frame
      refine wpList_nil ?_
      go_upto_region 13 with (fail)
      refine wp_region_lit ?_
      refine ls_ex (some 40) (.slice A9 i c9) rfl rfl (exec_move _ rfl (.slice A9 i c9) rfl) ?_
      go_frame
      refine ls_ex (some 41) (.pointer (some ⟨w.heap.size, 4, none⟩)) rfl rfl (exec_fieldAddr 29 _ 4 rfl _ (by kernel_rfl)) ?_
      go_frame
      refine ls_op rfl (fun K' hK' => ?_)
      refine wp_store_one 27 _ _ rfl rfl w.heap.size 4 rfl (.slice A9 i c9) rfl rfl rfl _ _ h0 (by kernel_rfl) (by simp) (fun Wz96 pz97 => ?_)
      replace hB := pz97.below hB (by omega)
      replace h1 := pz97.other h1 (by omega)
      replace ho := ho.put pz97 (ho.off h0 (by decide))
      replace h0 : At Wz96 w.heap.size (.cells #[.int .i64 p, .int .i64 n, .int .i64 m, .int .i64 k, .slice A9 i c9] 29 (0, 0)) := pz97.at_
      refine hK' _ _ ?_
      clear hK' K' pz97
      refine wpList_nil ?_
      go_upto_region 14 with (fail)
      refine wp_region_lit ?_
      refine ls_ex (some 42) (.agg #[.int .i64 p, .int .i64 n, .int .i64 m, .int .i64 k, .slice A9 i c9]) rfl rfl (exec_load_all 29 _ rfl w.heap.size rfl _ _ _ h0 Try.underlying29 rfl 5 (by kernel_rfl) rfl) ?_
      go_frame
      refine ls_op rfl (fun K' hK' => ?_)
      refine wp_store_all 29 _ _ rfl rfl Wz2.heap.size rfl #[.int .i64 p, .int .i64 n, .int .i64 m, .int .i64 k, .slice A9 i c9] rfl _ _ h1 5 (by kernel_rfl) rfl rfl (one5 _ _ _ _ _ _ _) (fun Wz98 pz99 => ?_)
      replace hB := pz99.below hB (by omega)
      replace h0 := pz99.other h0 (by omega)
      replace ho := ho.put pz99 (ho.off h1 (by decide))
      replace h1 : At Wz98 Wz2.heap.size (.cells #[.int .i64 p, .int .i64 n, .int .i64 m, .int .i64 k, .slice A9 i c9] 29 (0, 0)) := pz99.at_
      refine hK' _ _ ?_
      clear hK' K' pz99
      refine wpList_nil ?_
      go_wp2_with fail
      refine bodyPost_ret (results_at rfl _ _ Wz2.heap.size _ _ _ rfl h1 Try.underlying29 rfl 5 (by kernel_rfl) rfl) rfl ?_
      exact ⟨_, rfl, ho, hB⟩
theorem cellX {w : World} {g i x : Nat} {l : List Nat} {t : TypeId} (h : At w g (.cells (u8s l) t (0, 0))) (hi : i < l.length) (hx : l[i]?.getD 0 = x) : w.cell? ⟨g, i, none⟩ = some (.int .u8 (x : Int)) := by
  rw [← hx]
  exact h.cell hi
theorem zero_more {f : Nat → Nat} {c : Nat} (h : ∀ j, j < c → f j = 0) (h1 : f c = 0) : ∀ j, j < c + 1 → f j = 0 := fun j hj => by
  by_cases e : j = c
  · rw [e, h1]
  · exact h j (by omega)
set_option maxHeartbeats 12800000 in
theorem l08Up_c (f : List Nat) (hf : Bytes 36 f) (w : World) :
    Calls Try.prog 50 #[.agg (u8s f)] w (fun e w' => ∃ q : List Nat, q.length = 36 ∧ e = .returned (.tuple #[.agg (u8s q), .bool (!topS f)]) ∧ (topS f = false → q = upS f) ∧ Below w.heap.size w w') := by
  have hB := Below.refl w.heap.size w
  have HF := Lib.hid hf.len
  go_enter Try.func50, Try.ntmps50
  go_upto_region 0 with (fail)
  refine wp_region_lit ?_
  refine ls_op rfl (fun K' hK' => ?_)
  have lz1 := hB.size
  refine wp_new (some 1) rfl (exec_box 61 _ rfl (u8s (f)) rfl) (fun Wz2 nnz3 => ?_)
  have bz4 := nnz3.below (Below.refl _ _) (Nat.le_refl _)
  replace hB := below_after hB bz4
  have hz5 : At Wz2 w.heap.size (.cells (u8s (f)) 61 (0, 0)) := nnz3.at_
  refine hK' _ _ ?_
  clear hK' K' nnz3 bz4
  go_frame
  refine ls_op rfl (fun K' hK' => ?_)
  have lz6 := hB.size
  have lz7 := hz5.lt
  refine wp_new (some 2) rfl (al_impl_Series rfl) (fun Wz8 nnz9 => ?_)
  have bz10 := nnz9.below (Below.refl _ _) (Nat.le_refl _)
  replace hB := below_after hB bz10
  replace hz5 := hz5.after bz10
  have hz11 : At Wz8 Wz2.heap.size (.cells (u8s (List.replicate 36 0)) 61 (0, 0)) := nnz9.at_
  refine hK' _ _ ?_
  clear hK' K' nnz9 bz10
  go_frame
  refine ls_ex (some 3) (.bool false) rfl rfl (exec_assign _ rfl (.bool false) rfl) ?_
  go_frame
  refine wpList_nil ?_
  go_upto_region 1 with (fail)
  refine wp_region_lit ?_
  refine ls_ex (some 7) (.agg (u8s (List.replicate 36 0))) rfl rfl (exec_build_nil 61 rfl _ (by kernel_rfl)) ?_
  go_frame
  refine ls_op rfl (fun K' hK' => ?_)
  have lz12 := hB.size
  have lz13 := hz5.lt
  have lz14 := hz11.lt
  refine wp_new (some 4) rfl (al_impl_Series rfl) (fun Wz15 nnz16 => ?_)
  have bz17 := nnz16.below (Below.refl _ _) (Nat.le_refl _)
  replace hB := below_after hB bz17
  replace hz5 := hz5.after bz17
  replace hz11 := hz11.after bz17
  have hz18 : At Wz15 Wz8.heap.size (.cells (u8s (List.replicate 36 0)) 61 (0, 0)) := nnz16.at_
  refine hK' _ _ ?_
  clear hK' K' nnz16 bz17
  go_frame
  refine ls_op rfl (fun K' hK' => ?_)
  refine wp_store_bytes 61 _ _ rfl rfl Wz8.heap.size rfl (List.replicate 36 0) rfl _ _ hz18 36 (by kernel_rfl) (by simp) (by simp) (fun Wz19 pz20 => ?_)
  replace hB := pz20.below hB (by omega)
  replace hz5 := pz20.other hz5 (by omega)
  replace hz11 := pz20.other hz11 (by omega)
  replace hz18 : At Wz19 Wz8.heap.size (.cells (u8s (List.replicate 36 0)) 61 (0, 0)) := pz20.at_
  refine hK' _ _ ?_
  clear hK' K' pz20
  refine wpList_nil ?_
  go_upto_region 2 with (fail)
  refine wp_region_lit ?_
  refine ls_ex (some 5) (.int .i64 0) rfl rfl (exec_assign _ rfl (.int .i64 0) rfl) ?_
  go_frame
  refine wpList_nil ?_
  go_wp2_with fail
  go_loopw [5] (fun s5 wr => ∃ c : Nat, c ≤ 9 ∧ s5 = .int .i64 c ∧ Hid (∀ j, j < c → f[j * 4 + 3]?.getD 0 = 0) ∧ Below w.heap.size w wr ∧ At wr w.heap.size (.cells (u8s (f)) 61 (0, 0)) ∧ At wr Wz8.heap.size (.cells (u8s (umix f c 0)) 61 (0, 0)) ∧ At wr Wz2.heap.size (.cells (u8s (List.replicate 36 0)) 61 (0, 0))) (fun s5 _ => 9 - (intOf s5).toNat)
  case atStart => exact ⟨0, by omega, rfl, Lib.hid (fun j hj => by omega), hB, hz5, by rw [umix_start]; exact hz18, hz11⟩
  case round =>
    clear hB hz5 hz11 hz18
    obtain ⟨c, hc, rfl, HA, hB, h0, h1, h2⟩ := hrel
    by_cases hc9 : c < 9
    · obtain ⟨x, hx⟩ : ∃ x, f[c * 4 + 3]?.getD 0 = x := ⟨_, rfl⟩
      have Hx := Lib.hid hx
      by_cases hz : x = 0
      · have hnz : ((x : Int) != 0) = false := by simp; omega
        have HA9 : Hid (∀ j, j < c + 1 → f[j * 4 + 3]?.getD 0 = 0) := Lib.hid (zero_more HA.out (by rw [hx, hz]))
        clear hx HA
        go_upto_region 3 with (fail)
        refine wp_region_lit ?_
        refine ls_ex (some 8) (.int .i64 c) rfl rfl (exec_move _ rfl (.int .i64 c) rfl) ?_
        go_frame
        refine ls_ex (some 9) (.bool true) rfl rfl (exec_lss _ _ _ _ rfl c 9 rfl rfl true (decide_eq_true (by omega))) ?_
        go_frame
        refine wpList_nil ?_
        go_upto_region 5 with (fail)
        refine wp_region_lit ?_
        refine ls_ex (some 12) (.int .i64 c) rfl rfl (exec_move _ rfl (.int .i64 c) rfl) ?_
        go_frame
        refine ls_ex (some 13) (.pointer (some ⟨w.heap.size, c * 4, none⟩)) rfl rfl (exec_index_arr0 61 59 _ _ rfl w.heap.size 9 c 4 rfl rfl Try.underlying61 (by kernel_rfl) hc9) ?_
        go_frame
        refine ls_ex (some 14) (.pointer (some ⟨w.heap.size, c * 4 + 3, none⟩)) rfl rfl (exec_index_arr1 59 5 _ _ rfl w.heap.size (c * 4) 4 3 rfl rfl Try.underlying59 (by kernel_rfl) (by omega)) ?_
        go_frame
        refine ls_ex (some 15) (.int .u8 (x : Nat)) rfl rfl (exec_load_one 5 _ rfl w.heap.size (c * 4 + 3) rfl (.int .u8 (x : Nat)) _ Try.underlying5 rfl (cellX h0 (by rw [HF.out]; omega) Hx.out)) ?_
        go_frame
        refine ls_ex (some 16) (.bool false) rfl rfl (exec_neqb _ _ _ _ rfl (x : Int) 0 rfl rfl false hnz) ?_
        go_frame
        refine wpList_nil ?_
        go_upto_region 7 with (fail)
        refine wp_region_lit ?_
        refine ls_ex (some 6) (.int .i64 0) rfl rfl (exec_assign _ rfl (.int .i64 0) rfl) ?_
        go_frame
        refine wpList_nil ?_
        go_wp2_with fail
        obtain ⟨we, rfl⟩ : ∃ x : World, x = wr := ⟨_, rfl⟩
        go_loopw [6] (fun s6 wr => ∃ i : Nat, i ≤ 3 ∧ s6 = .int .i64 i ∧ Below w.heap.size w wr ∧ At wr w.heap.size (.cells (u8s (f)) 61 (0, 0)) ∧ At wr Wz8.heap.size (.cells (u8s (umix f c i)) 61 (0, 0)) ∧ At wr Wz2.heap.size (.cells (u8s (List.replicate 36 0)) 61 (0, 0))) (fun s6 _ => 3 - (intOf s6).toNat)
        case atStart => exact ⟨0, by omega, rfl, hB, h0, h1, h2⟩
        case round =>
          clear hB h0 h1 h2
          obtain ⟨i, hi, rfl, hB, h0, h1, h2⟩ := hrel
          by_cases hi3 : i < 3
          · obtain ⟨x, hx⟩ : ∃ x, f[c * 4 + i]?.getD 0 = x := ⟨_, rfl⟩
            have Hx := Lib.hid hx
            have HP : Hid ((umix f c i).set (c * 4 + (i + 1)) x = umix f c (i + 1)) := Lib.hid (umix_step hi3 hx)
            clear hx
            go_upto_region 8 with (fail)
            refine wp_region_lit ?_
            refine ls_ex (some 18) (.int .i64 i) rfl rfl (exec_move _ rfl (.int .i64 i) rfl) ?_
            go_frame
            refine ls_ex (some 19) (.bool true) rfl rfl (exec_lss _ _ _ _ rfl i 3 rfl rfl true (decide_eq_true (by omega))) ?_
            go_frame
            refine wpList_nil ?_
            go_upto_region 10 with (fail)
            refine wp_region_y (zs := []) (S := fun w' => Below w.heap.size w w' ∧ At w' w.heap.size (.cells (u8s (f)) 61 (0, 0))) (S2 := fun w' => True) (by kernel_rfl) ?_
            change wpAnyY _ _ _ _ _ _ _ _ _ _ (World.drew _)
            generalize hwdz21 : World.drew _ = wdz21
            replace hB : Below w.heap.size w wdz21 := by rw [← hwdz21]; exact hB.drew
            replace h0 : At wdz21 w.heap.size (.cells (u8s (f)) 61 (0, 0)) := by rw [← hwdz21]; exact h0
            replace h1 : At wdz21 Wz8.heap.size (.cells (u8s (umix f c i)) 61 (0, 0)) := by rw [← hwdz21]; exact h1
            replace h2 : At wdz21 Wz2.heap.size (.cells (u8s (List.replicate 36 0)) 61 (0, 0)) := by rw [← hwdz21]; exact h2
            clear hwdz21
            refine y_yield 0 (some 22) (.int .i64 c) rfl (by kernel_rfl) (by kernel_rfl) (by kernel_rfl) (fun _ _ _ h => h) rfl rfl ⟨hB, h0⟩ (fun w' h' => exec_move _ rfl (.int .i64 c) rfl) ?_
            go_frame
            refine y_yield 1 (some 23) (.int .i64 i) rfl (by kernel_rfl) (by kernel_rfl) (by kernel_rfl) (fun _ _ _ h => h) rfl rfl ⟨hB, h0⟩ (fun w' h' => exec_move _ rfl (.int .i64 i) rfl) ?_
            go_frame
            refine y_yield 2 (some 24) (.int .i64 ((i + 1 : Nat) : Int)) rfl (by kernel_rfl) (by kernel_rfl) (by kernel_rfl) (fun _ _ _ h => h) rfl rfl ⟨hB, h0⟩ (fun w' h' => exec_add _ _ _ _ rfl i 1 ((i + 1 : Nat) : Int) rfl rfl (by rw [IntWalk.i64_in _ (by omega)]; omega)) ?_
            go_frame
            refine y_yield 3 (some 25) (.int .i64 c) rfl (by kernel_rfl) (by kernel_rfl) (by kernel_rfl) (fun _ _ _ h => h) rfl rfl ⟨hB, h0⟩ (fun w' h' => exec_move _ rfl (.int .i64 c) rfl) ?_
            go_frame
            refine y_yield 4 (some 26) (.int .i64 i) rfl (by kernel_rfl) (by kernel_rfl) (by kernel_rfl) (fun _ _ _ h => h) rfl rfl ⟨hB, h0⟩ (fun w' h' => exec_move _ rfl (.int .i64 i) rfl) ?_
            go_frame
            refine y_yield 5 (some 27) (.pointer (some ⟨w.heap.size, c * 4, none⟩)) rfl (by kernel_rfl) (by kernel_rfl) (by kernel_rfl) (fun _ _ _ h => h) rfl rfl ⟨hB, h0⟩ (fun w' h' => exec_index_arr0 61 59 _ _ rfl w.heap.size 9 c 4 rfl rfl Try.underlying61 (by kernel_rfl) hc9) ?_
            go_frame
            refine y_yield 6 (some 28) (.pointer (some ⟨w.heap.size, c * 4 + i, none⟩)) rfl (by kernel_rfl) (by kernel_rfl) (by kernel_rfl) (fun _ _ _ h => h) rfl rfl ⟨hB, h0⟩ (fun w' h' => exec_index_arr1 59 5 _ _ rfl w.heap.size (c * 4) 4 i rfl rfl Try.underlying59 (by kernel_rfl) (by omega)) ?_
            go_frame
            refine y_yield 7 (some 29) (.int .u8 (x : Nat)) rfl (by kernel_rfl) (by kernel_rfl) (by kernel_rfl) (fun _ _ _ h => h) rfl rfl ⟨hB, h0⟩ (fun w' h' => exec_load_one 5 _ rfl w.heap.size (c * 4 + i) rfl (.int .u8 (x : Nat)) _ Try.underlying5 rfl (cellX h'.2 (by rw [HF.out]; omega) Hx.out)) ?_
            go_frame
            refine y_yield 8 (some 30) (.pointer (some ⟨Wz8.heap.size, c * 4, none⟩)) rfl (by kernel_rfl) (by kernel_rfl) (by kernel_rfl) (fun _ _ _ h => h) rfl rfl ⟨hB, h0⟩ (fun w' h' => exec_index_arr0 61 59 _ _ rfl Wz8.heap.size 9 c 4 rfl rfl Try.underlying61 (by kernel_rfl) hc9) ?_
            go_frame
            refine y_yield 9 (some 31) (.pointer (some ⟨Wz8.heap.size, c * 4 + (i + 1), none⟩)) rfl (by kernel_rfl) (by kernel_rfl) (by kernel_rfl) (fun _ _ _ h => h) rfl rfl ⟨hB, h0⟩ (fun w' h' => exec_index_arr1 59 5 _ _ rfl Wz8.heap.size (c * 4) 4 (i + 1) rfl rfl Try.underlying59 (by kernel_rfl) (by omega)) ?_
            go_frame
            refine y_oper 10 (by kernel_rfl) rfl rfl (fun K' hK' => ?_)
            refine wp_store_b1 5 _ _ rfl rfl Wz8.heap.size (c * 4 + (i + 1)) rfl (x) rfl _ _ h1 (by kernel_rfl) (by rw [umix_len]; omega) (fun Wz22 pz23 => ?_)
            replace hB := pz23.below hB (by omega)
            replace h0 := pz23.other h0 (by omega)
            replace h2 := pz23.other h2 (by omega)
            replace h1 : At Wz22 Wz8.heap.size (.cells (u8s (umix f c (i + 1))) 61 (0, 0)) := by have h9 := pz23.at_; rwa [HP.out] at h9
            refine hK' _ _ ⟨hB, h0⟩ (fun _ => trivial) ?_
            clear hK' K' pz23
            refine y_done (by kernel_rfl) ?_ _
            go_upto_region 9 with (fail)
            refine wp_region_lit ?_
            refine ls_ex (some 20) (.int .i64 i) rfl rfl (exec_move _ rfl (.int .i64 i) rfl) ?_
            go_frame
            refine ls_ex (some 21) (.int .i64 (i + 1)) rfl rfl (exec_add _ _ _ _ rfl i 1 (i + 1) rfl rfl (IntWalk.i64_in _ (by omega))) ?_
            go_frame
            refine ls_ex (some 6) (.int .i64 (i + 1)) rfl rfl (exec_assign _ rfl (.int .i64 (i + 1)) rfl) ?_
            go_frame
            refine wpList_nil ?_
            go_wp2_with fail
            go_roundw
            case rel => exact ⟨i + 1, by omega, by go_num, hB, h0, h1, h2⟩
            case measure => simp [intOf]; omega
          · have HR : Hid (umix f c i = umix f (c + 1) 0) := Lib.hid (by rw [show i = 3 by omega]; exact umix_row f c)
            rw [HR.out] at h1
            go_upto_region 8 with (fail)
            refine wp_region_lit ?_
            refine ls_ex (some 18) (.int .i64 i) rfl rfl (exec_move _ rfl (.int .i64 i) rfl) ?_
            go_frame
            refine ls_ex (some 19) (.bool false) rfl rfl (exec_lss _ _ _ _ rfl i 3 rfl rfl false (decide_eq_false (by omega))) ?_
            go_frame
            refine wpList_nil ?_
            go_upto_region 4 with (fail)
            refine wp_region_lit ?_
            refine ls_ex (some 10) (.int .i64 c) rfl rfl (exec_move _ rfl (.int .i64 c) rfl) ?_
            go_frame
            refine ls_ex (some 11) (.int .i64 (c + 1)) rfl rfl (exec_add _ _ _ _ rfl c 1 (c + 1) rfl rfl (IntWalk.i64_in _ (by omega))) ?_
            go_frame
            refine ls_ex (some 5) (.int .i64 (c + 1)) rfl rfl (exec_assign _ rfl (.int .i64 (c + 1)) rfl) ?_
            go_frame
            refine wpList_nil ?_
            go_wp2_with fail
            go_roundw
            case rel => exact ⟨c + 1, by omega, by go_num, HA9, hB, h0, h1, h2⟩
            case measure => simp [intOf]; omega
      · have hnz : ((x : Int) != 0) = true := by simp; omega
        have HNo : Hid (topS f = true) := Lib.hid (topS_at hc9 (by rw [hx]; exact hz))
        clear hx
        go_upto_region 3 with (fail)
        refine wp_region_lit ?_
        refine ls_ex (some 8) (.int .i64 c) rfl rfl (exec_move _ rfl (.int .i64 c) rfl) ?_
        go_frame
        refine ls_ex (some 9) (.bool true) rfl rfl (exec_lss _ _ _ _ rfl c 9 rfl rfl true (decide_eq_true (by omega))) ?_
        go_frame
        refine wpList_nil ?_
        go_upto_region 5 with (fail)
        refine wp_region_lit ?_
        refine ls_ex (some 12) (.int .i64 c) rfl rfl (exec_move _ rfl (.int .i64 c) rfl) ?_
        go_frame
        refine ls_ex (some 13) (.pointer (some ⟨w.heap.size, c * 4, none⟩)) rfl rfl (exec_index_arr0 61 59 _ _ rfl w.heap.size 9 c 4 rfl rfl Try.underlying61 (by kernel_rfl) hc9) ?_
        go_frame
        refine ls_ex (some 14) (.pointer (some ⟨w.heap.size, c * 4 + 3, none⟩)) rfl rfl (exec_index_arr1 59 5 _ _ rfl w.heap.size (c * 4) 4 3 rfl rfl Try.underlying59 (by kernel_rfl) (by omega)) ?_
        go_frame
        refine ls_ex (some 15) (.int .u8 (x : Nat)) rfl rfl (exec_load_one 5 _ rfl w.heap.size (c * 4 + 3) rfl (.int .u8 (x : Nat)) _ Try.underlying5 rfl (cellX h0 (by rw [HF.out]; omega) Hx.out)) ?_
        go_frame
        refine ls_ex (some 16) (.bool true) rfl rfl (exec_neqb _ _ _ _ rfl (x : Int) 0 rfl rfl true hnz) ?_
        go_frame
        refine wpList_nil ?_
        go_upto_region 6 with (fail)
        refine wp_region_lit ?_
        refine ls_ex (some 17) (.agg (u8s (umix f c 0))) rfl rfl (exec_load_all 61 _ rfl Wz8.heap.size rfl _ _ _ h1 Try.underlying61 rfl 36 (by kernel_rfl) ((u8s_size _).trans (umix_len _ _ _))) ?_
        go_frame
        refine ls_op rfl (fun K' hK' => ?_)
        refine wp_store_bytes 61 _ _ rfl rfl Wz2.heap.size rfl (umix f c 0) rfl _ _ h2 36 (by kernel_rfl) (umix_len _ _ _) (by simp) (fun Wz24 pz25 => ?_)
        replace hB := pz25.below hB (by omega)
        replace h0 := pz25.other h0 (by omega)
        replace h1 := pz25.other h1 (by omega)
        replace h2 : At Wz24 Wz2.heap.size (.cells (u8s (umix f c 0)) 61 (0, 0)) := pz25.at_
        refine hK' _ _ ?_
        clear hK' K' pz25
        refine ls_ex (some 3) (.bool false) rfl rfl (exec_assign _ rfl (.bool false) rfl) ?_
        go_frame
        refine wpList_nil ?_
        go_wp2_with fail
        refine bodyPost_ret (results_at2 rfl _ _ Wz2.heap.size _ _ _ rfl _ rfl h2 Try.underlying61 rfl 36 (by kernel_rfl) ((u8s_size _).trans (umix_len _ _ _))) rfl ?_
        exact ⟨_, (umix_len _ _ _), by rw [HNo.out]; rfl, (fun h => by rw [HNo.out] at h; cases h), hB⟩
    · have HR : Hid (umix f c 0 = upS f) := Lib.hid (by rw [show c = 9 by omega]; exact umix_end f)
      rw [HR.out] at h1
      have HYes : Hid (topS f = false) := Lib.hid (topS_no (fun j hj => HA.out j (by omega)))
      go_upto_region 3 with (fail)
      refine wp_region_lit ?_
      refine ls_ex (some 8) (.int .i64 c) rfl rfl (exec_move _ rfl (.int .i64 c) rfl) ?_
      go_frame
      refine ls_ex (some 9) (.bool false) rfl rfl (exec_lss _ _ _ _ rfl c 9 rfl rfl false (decide_eq_false (by omega))) ?_
      go_frame
      refine wpList_nil ?_
      go_upto_region 11 with (fail)
      refine wp_region_lit ?_
      refine ls_ex (some 32) (.agg (u8s (upS f))) rfl rfl (exec_load_all 61 _ rfl Wz8.heap.size rfl _ _ _ h1 Try.underlying61 rfl 36 (by kernel_rfl) ((u8s_size _).trans (upS_len f))) ?_
      go_frame
      refine ls_op rfl (fun K' hK' => ?_)
      refine wp_store_bytes 61 _ _ rfl rfl Wz2.heap.size rfl (upS f) rfl _ _ h2 36 (by kernel_rfl) (upS_len f) (by simp) (fun Wz26 pz27 => ?_)
      replace hB := pz27.below hB (by omega)
      replace h0 := pz27.other h0 (by omega)
      replace h1 := pz27.other h1 (by omega)
      replace h2 : At Wz26 Wz2.heap.size (.cells (u8s (upS f)) 61 (0, 0)) := pz27.at_
      refine hK' _ _ ?_
      clear hK' K' pz27
      refine ls_ex (some 3) (.bool true) rfl rfl (exec_assign _ rfl (.bool true) rfl) ?_
      go_frame
      refine wpList_nil ?_
      go_wp2_with fail
      refine bodyPost_ret (results_at2 rfl _ _ Wz2.heap.size _ _ _ rfl _ rfl h2 Try.underlying61 rfl 36 (by kernel_rfl) ((u8s_size _).trans (upS_len f))) rfl ?_
      exact ⟨_, (upS_len f), by rw [HYes.out]; rfl, (fun _ => rfl), hB⟩
end Go.Proofs.Ytlpdglmjejfmhaa
